import PyProof.Rows.All
import Wide.All
import OpenK.AllK
import Wide.FinOn
import Open.SpecLaws
import KE.OsGo
import PyProof.ListRange
import HandS.Base
import HandS.Call
import HandS.List
import HandS.Comp
import HandS.Ends
import HandS.Iter
import HandS.Text
import HandS.SetFor
import HandS.Conv
import HandS.RevTup
import HandS.Rev
import HandS.Spec
import HandS.Words
import HandS.WordsList
import PySem.Challenge.RW_hatboxes_s04_passing
set_option Elab.async false
namespace Hb
open Sn88

/-! ### digits, rows -/
def rowOf (q n r : Nat) : List Nat := ((List.range n).map fun i => r / q ^ i % q).reverse
theorem rowOf_len (q n r : Nat) : (rowOf q n r).length = n := by
  unfold rowOf
  rw [List.length_reverse, List.length_map, List.length_range]
theorem rowOf_succ {q n x r : Nat} (hx : x < q) (hr : r < q ^ n) : rowOf q (n + 1) (x * q ^ n + r) = x :: rowOf q n r := by
  have hq : 0 < q := Nat.lt_of_le_of_lt (Nat.zero_le _) hx
  have hp : 0 < q ^ n := Nat.pow_pos hq
  unfold rowOf
  rw [List.range_succ, List.map_append, List.reverse_append]
  have e1 : (x * q ^ n + r) / q ^ n % q = x := by
    rw [Nat.mul_comm, Nat.mul_add_div hp, Nat.div_eq_of_lt hr, Nat.add_zero, Nat.mod_eq_of_lt hx]
  have e2 : (List.range n).map (fun i => (x * q ^ n + r) / q ^ i % q) = (List.range n).map (fun i => r / q ^ i % q) := by
    apply List.map_congr_left
    intro i hi
    have hi' : i < n := List.mem_range.mp hi
    have hpi : 0 < q ^ i := Nat.pow_pos hq
    have e : x * q ^ n = q ^ i * (q * (x * q ^ (n - i - 1))) := by
      have : q ^ n = q ^ i * (q * q ^ (n - i - 1)) := by
        rw [← Nat.pow_succ', ← Nat.pow_add]
        congr 1
        omega
      rw [this]
      simp only [Nat.mul_left_comm]
    show (x * q ^ n + r) / q ^ i % q = r / q ^ i % q
    rw [e, Nat.mul_add_div hpi, Nat.mul_add_mod]
  rw [e2]
  show [(x * q ^ n + r) / q ^ n % q].reverse ++ _ = _
  rw [e1]
  rfl
theorem range_mul (a b : Nat) : List.range (a * b) = (List.range a).flatMap fun x => (List.range b).map fun r => x * b + r := by
  induction a with
  | zero => simp
  | succ a ih =>
    rw [List.range_succ, List.flatMap_append, ← ih, Nat.succ_mul, List.range_add]
    simp
theorem rows_eq {q : Nat} : ∀ n : Nat, rows q n = (List.range (q ^ n)).map (rowOf q n)
  | 0 => by
    show [[]] = _
    rw [Nat.pow_zero]
    rfl
  | n + 1 => by
    show ((List.range q).flatMap fun x => (rows q n).map fun c => x :: c) = _
    rw [Nat.pow_succ', range_mul, List.map_flatMap]
    rw [List.flatMap_def, List.flatMap_def]
    congr 1
    apply List.map_congr_left
    intro x hx
    have hx' : x < q := List.mem_range.mp hx
    rw [rows_eq n, List.map_map, List.map_map]
    apply List.map_congr_left
    intro r hr
    exact (rowOf_succ hx' (List.mem_range.mp hr)).symm

/-! ### what a row's digits are in the program's own order -/
theorem rest_step (r q i : Nat) : r / q ^ i / q = r / q ^ (i + 1) := by
  rw [Nat.div_div_eq_div_mul, Nat.pow_succ]

/-! ### counts -/
def counts (q : Nat) (g : G) (t : List Nat) : List Nat := (List.range (q ^ g.length)).map fun r => hits q g t (rowOf q g.length r)
theorem counts_rows (q : Nat) (g : G) (t : List Nat) : counts q g t = (rows q g.length).map (hits q g t) := by
  rw [rows_eq, List.map_map]
  rfl
theorem counts_len (q : Nat) (g : G) (t : List Nat) : (counts q g t).length = q ^ g.length := by
  unfold counts
  rw [List.length_map, List.length_range]
theorem filter_count (l : List (List Nat)) (f : List Nat → Nat) : (l.filter fun c => f c == 0).length = (l.map f).count 0 := by
  induction l with
  | nil => rfl
  | cons c l ih =>
    rw [List.filter_cons, List.map_cons, List.count_cons]
    cases h : (f c == 0) with
    | true => simp [ih]
    | false => simp [ih]
theorem misses_count (q : Nat) (g : G) (t : List Nat) : (Sn88.misses q g t).length = (counts q g t).count 0 := by
  rw [counts_rows]
  exact filter_count _ _
theorem filter_head (l : List (List Nat)) (f : List Nat → Nat) (j : Nat) (c : List Nat) (hc : l[j]? = some c) (h0 : f c = 0) (hb : ∀ m z, m < j → l[m]? = some z → f z ≠ 0) : (l.filter fun c => f c == 0).headD [] = c := by
  induction l generalizing j with
  | nil => simp at hc
  | cons a l ih =>
    cases j with
    | zero =>
      have e : a = c := Option.some.inj hc
      subst e
      rw [List.filter_cons, if_pos (by rw [h0]; rfl)]
      rfl
    | succ j =>
      have ha : f a ≠ 0 := hb 0 a (Nat.succ_pos _) rfl
      rw [List.filter_cons, if_neg (by simpa using ha)]
      exact ih j hc fun m z hm hz => hb (m + 1) z (Nat.succ_lt_succ hm) hz
theorem misses_head {q : Nat} {g : G} {t : List Nat} {j : Nat} (hj : (counts q g t)[j]? = some 0) (hb : ∀ m z, m < j → (counts q g t)[m]? = some z → z ≠ 0) : (Sn88.misses q g t).headD [] = rowOf q g.length j := by
  have hlt : j < q ^ g.length := by
    obtain ⟨h, _⟩ := List.getElem?_eq_some_iff.mp hj
    rwa [counts_len] at h
  unfold Sn88.misses
  refine filter_head _ (hits q g t) j _ ?_ ?_ ?_
  · rw [rows_eq, List.getElem?_map, List.getElem?_range hlt]
    rfl
  · rw [counts, List.getElem?_map, List.getElem?_range hlt] at hj
    exact Option.some.inj hj
  · intro m z hm hz
    refine hb m _ hm ?_
    rw [counts_rows, List.getElem?_map, hz]
    rfl

/-! ### the least -/
theorem hits_le (q : Nat) (g : G) (t : List Nat) (c : List Nat) : hits q g t c ≤ g.length := by
  unfold hits
  refine Nat.le_trans (List.length_filter_le _ _) ?_
  rw [List.length_range]
  exact Nat.le_refl _
theorem foldl_min_le : ∀ (l : List Nat) (b : Nat), l.foldl min b ≤ b ∧ (∀ x ∈ l, l.foldl min b ≤ x)
  | [], b => ⟨Nat.le_refl _, fun x h => by cases h⟩
  | a :: l, b => by
    obtain ⟨h1, h2⟩ := foldl_min_le l (min b a)
    refine ⟨Nat.le_trans h1 (Nat.min_le_left _ _), fun x hx => ?_⟩
    rcases List.mem_cons.mp hx with e | e
    · subst e
      exact Nat.le_trans h1 (Nat.min_le_right _ _)
    · exact h2 x e
theorem foldl_min_mem : ∀ (l : List Nat) (b : Nat), l.foldl min b = b ∨ l.foldl min b ∈ l
  | [], b => .inl rfl
  | a :: l, b => by
    show l.foldl min (min b a) = b ∨ l.foldl min (min b a) ∈ a :: l
    rcases foldl_min_mem l (min b a) with e | e
    · rw [e]
      rcases Nat.le_total b a with h | h
      · exact .inl (Nat.min_eq_left h)
      · exact .inr (by rw [Nat.min_eq_right h]; exact List.mem_cons_self)
    · exact .inr (List.mem_cons_of_mem _ e)
theorem least_is {q : Nat} {g : G} {t : List Nat} {M : Nat} (hM : M ∈ counts q g t) (hl : ∀ y ∈ counts q g t, M ≤ y) : M = Sn88.least q g t := by
  unfold Sn88.least
  rw [← counts_rows]
  obtain ⟨h1, h2⟩ := foldl_min_le (counts q g t) g.length
  refine Nat.le_antisymm ?_ (h2 M hM)
  rcases foldl_min_mem (counts q g t) g.length with e | e
  · rw [e]
    unfold counts at hM
    obtain ⟨r, _, e2⟩ := List.mem_map.mp hM
    rw [← e2]
    exact hits_le _ _ _ _
  · exact hl _ e

/-! ### who sees whom -/
theorem isGraph_iff {n : Nat} {g : G} : isGraph n g = true ↔ g.length = n ∧ ∀ v, v < n → g.getD v 0 < 2 ^ n ∧ joined g v v = false ∧ ∀ u, u < n → joined g v u = true → joined g u v = true := by
  unfold isGraph
  simp only [Bool.and_eq_true, beq_iff_eq, List.all_eq_true, List.mem_range, decide_eq_true_eq, Bool.not_eq_true']
  constructor
  · rintro ⟨h, k⟩
    refine ⟨h, fun v hv => ?_⟩
    obtain ⟨a, b, c⟩ := k v hv
    exact ⟨a, b, fun u hu e => by rw [← c u hu]; exact e⟩
  · rintro ⟨h, k⟩
    refine ⟨h, fun v hv => ?_⟩
    obtain ⟨a, b, c⟩ := k v hv
    refine ⟨a, b, fun u hu => ?_⟩
    cases e : joined g v u with
    | true => exact (c u hu e).symm
    | false =>
      cases e2 : joined g u v with
      | false => rfl
      | true =>
        rw [(k u hu).2.2 v hv e2] at e
        cases e
theorem start_succ (q : Nat) (g : G) (v : Nat) : start q g (v + 1) = start q g v + q ^ (seen g v).length := by
  unfold start
  rw [List.range_succ, List.map_append, List.sum_append]
  simp
theorem seen_lt {g : G} {v u : Nat} (h : u ∈ seen g v) : u < g.length := by
  unfold seen at h
  exact List.mem_range.mp (List.mem_filter.mp h).1
theorem seen_len (g : G) (v : Nat) : (seen g v).length ≤ g.length := by
  unfold seen
  refine Nat.le_trans (List.length_filter_le _ _) ?_
  rw [List.length_range]
  exact Nat.le_refl _
theorem entry_lt {q : Nat} {g : G} {v : Nat} {c : List Nat} (hc : ∀ u, u < g.length → c.getD u 0 < q) : entry q g v c < q ^ (seen g v).length := by
  unfold entry
  have : ∀ l : List Nat, (∀ u ∈ l, u < g.length) → l.foldr (fun u s => c.getD u 0 + q * s) 0 < q ^ l.length := by
    intro l
    induction l with
    | nil => intro _; exact Nat.one_pos
    | cons a l ih =>
      intro h
      have h1 := ih fun u hu => h u (List.mem_cons_of_mem _ hu)
      have h2 := hc a (h a List.mem_cons_self)
      show c.getD a 0 + q * _ < q ^ (l.length + 1)
      rw [Nat.pow_succ']
      calc c.getD a 0 + q * l.foldr (fun u s => c.getD u 0 + q * s) 0 < q + q * l.foldr (fun u s => c.getD u 0 + q * s) 0 := by omega
        _ = q * (l.foldr (fun u s => c.getD u 0 + q * s) 0 + 1) := by rw [Nat.mul_add, Nat.mul_one, Nat.add_comm]
        _ ≤ q * q ^ l.length := Nat.mul_le_mul_left _ h1
  exact this _ fun u hu => seen_lt hu
theorem rowOf_lt {q n r : Nat} (hq : 0 < q) (u : Nat) : (rowOf q n r).getD u 0 < q := by
  rw [List.getD_eq_getElem?_getD]
  cases e : (rowOf q n r)[u]? with
  | none => exact hq
  | some x =>
    have h := List.mem_of_getElem? e
    unfold rowOf at h
    rw [List.mem_reverse] at h
    obtain ⟨i, _, e2⟩ := List.mem_map.mp h
    subst e2
    exact Nat.mod_lt _ hq
theorem start_le {q : Nat} {g : G} : ∀ {m v : Nat}, v ≤ m → start q g v ≤ start q g m
  | 0, v, h => by
    have : v = 0 := by omega
    subst this
    exact Nat.le_refl _
  | m + 1, v, h => by
    by_cases e : v = m + 1
    · subst e
      exact Nat.le_refl _
    · rw [start_succ]
      exact Nat.le_trans (start_le (m := m) (by omega)) (Nat.le_add_right _ _)
/-- the place of the guess stands within the table -/
theorem place_lt {q : Nat} {g : G} {v : Nat} {c : List Nat} {n : Nat} (hv : v < n) (hc : ∀ u, u < g.length → c.getD u 0 < q) : start q g v + entry q g v c < start q g n := by
  have h1 := entry_lt (v := v) hc
  have h2 : start q g (v + 1) ≤ start q g n := start_le hv
  rw [start_succ] at h2
  omega
theorem pow_small {q k : Nat} (hq : q ≤ 4) (hk : k ≤ 6) : q ^ k ≤ 4096 :=
  Nat.le_trans (Nat.pow_le_pow_left hq k) (Nat.le_trans (Nat.pow_le_pow_right (by decide) hk) (by decide))
theorem start_small {q : Nat} {g : G} (hq : q ≤ 4) (hg : g.length ≤ 6) : ∀ v, start q g v ≤ v * 4096
  | 0 => by simp [start]
  | v + 1 => by
    have h1 := start_small hq hg v
    have h2 : q ^ (seen g v).length ≤ 4096 := pow_small hq (Nat.le_trans (seen_len g v) hg)
    rw [start_succ]
    omega
/-- the first so many hits -/
def hitsTo (q : Nat) (g : G) (t : List Nat) (c : List Nat) (i : Nat) : Nat := ((List.range i).filter fun v => guess q g t v c == c.getD v 0).length
theorem hitsTo_succ (q : Nat) (g : G) (t : List Nat) (c : List Nat) (i : Nat) : hitsTo q g t c (i + 1) = hitsTo q g t c i + if guess q g t i c = c.getD i 0 then 1 else 0 := by
  unfold hitsTo
  rw [List.range_succ, List.filter_append, List.length_append]
  congr 1
  by_cases h : guess q g t i c = c.getD i 0
  · rw [if_pos h, List.filter_cons, if_pos (beq_iff_eq.mpr h)]
    rfl
  · rw [if_neg h, List.filter_cons, if_neg (fun z => h (beq_iff_eq.mp z))]
    rfl
theorem hitsTo_le (q : Nat) (g : G) (t : List Nat) (c : List Nat) (i : Nat) : hitsTo q g t c i ≤ i := by
  unfold hitsTo
  refine Nat.le_trans (List.length_filter_le _ _) ?_
  rw [List.length_range]
  exact Nat.le_refl _

/-! ### a call's refusal -/
def refusal (n q len : Int) (g : G) (t : List Nat) : Int := if tableOk n q len = false then -2 else if tableGood n q g len t = false then -3 else 0
theorem tableOk_iff {n q len : Int} : tableOk n q len = true ↔ (1 ≤ n ∧ n ≤ 6) ∧ (1 ≤ q ∧ q ≤ 4) ∧ (0 ≤ len ∧ len ≤ 8192) := by
  unfold tableOk between
  simp only [Bool.and_eq_true, decide_eq_true_eq]
theorem nats_cast (l : List Nat) : Sn88Neutral.nats (l.map fun (x : Nat) => (x : Int)) = l := by
  unfold Sn88Neutral.nats
  rw [List.map_map]
  conv => rhs; rw [← List.map_id l]
  apply List.map_congr_left
  intro x _
  rfl
theorem cast_nats {l : List Int} (h : ∀ x ∈ l, 0 ≤ x) : l = (Sn88Neutral.nats l).map fun (x : Nat) => (x : Int) := by
  unfold Sn88Neutral.nats
  rw [List.map_map]
  conv => lhs; rw [← List.map_id l]
  apply List.map_congr_left
  intro x hx
  exact (Int.toNat_of_nonneg (h x hx)).symm
def outs (l : List Nat) : List Int := l.map fun (x : Nat) => (x : Int)
theorem misses_is (n q len : Int) (g t : List Nat) : PySn88.misses n q len (outs g) (outs t) =
    if refusal n q len g t < 0 then [refusal n q len g t] else ((Sn88.misses q.toNat g t).length : Int) :: outs ((Sn88.misses q.toNat g t).headD []) := by
  have e : PySn88.misses n q len (outs g) (outs t) = (match Sn88Neutral.answered (.misses n q (Sn88Neutral.nats (outs g)) len (Sn88Neutral.nats (outs t))) with
    | some a => a.v :: a.l.map fun (x : Nat) => (x : Int)
    | none => []) := rfl
  rw [e]
  unfold outs
  rw [nats_cast, nats_cast]
  unfold refusal
  show (if _ then _ else if _ then _ else _ : Ans).v :: (if _ then _ else if _ then _ else _ : Ans).l.map _ = _
  cases h1 : tableOk n q len with
  | false => rfl
  | true =>
    cases h2 : tableGood n q g len t with
    | false => rfl
    | true => rfl
theorem least_eq (n q len : Int) (g t : List Nat) : PySn88.least n q len (outs g) (outs t) =
    if refusal n q len g t < 0 then [refusal n q len g t] else [(Sn88.least q.toNat g t : Int)] := by
  have e : PySn88.least n q len (outs g) (outs t) = (match Sn88Neutral.answered (.least n q (Sn88Neutral.nats (outs g)) len (Sn88Neutral.nats (outs t))) with
    | some a => a.v :: a.l.map fun (x : Nat) => (x : Int)
    | none => []) := rfl
  rw [e]
  unfold outs
  rw [nats_cast, nats_cast]
  unfold refusal
  show (if _ then _ else if _ then _ else _ : Ans).v :: (if _ then _ else if _ then _ else _ : Ans).l.map _ = _
  cases h1 : tableOk n q len with
  | false => rfl
  | true =>
    cases h2 : tableGood n q g len t with
    | false => rfl
    | true => rfl
end Hb

set_option Elab.async false
/-! what is due of line, pass, code: closed forms (no program here) -/
namespace Hb
open Sn88
/-! ### line -/
theorem line_nil (q : Nat) (heard : List Nat) : line q heard [] = heard := rfl
theorem line_cons (q : Nat) (heard r : List Nat) (x : Nat) : line q heard (x :: r) = line q (heard ++ [says q heard r]) r := rfl
/-- one in the middle says their own hat: first = what the others' hats leave, b: those said since -/
theorem says_own {q a x : Nat} {b r : List Nat} (hx : x < q) (ha : a = (b.sum + x + r.sum) % q) : says q (a :: b) r = x := by
  show (((a : Int) - (b.sum : Int) - (r.sum : Int)) % (q : Int)).toNat = x
  have e : (((a : Int) - (b.sum : Int) - (r.sum : Int)) % (q : Int)) = (x : Int) := by
    have h1 : (a : Int) = ((b.sum : Int) + (x : Int) + (r.sum : Int)) % (q : Int) := by
      rw [ha]
      rw [Int.natCast_emod, Int.natCast_add, Int.natCast_add]
    have h2 : ((b.sum : Int) + (x : Int) + (r.sum : Int)) = (q : Int) * (((b.sum : Int) + (x : Int) + (r.sum : Int)) / (q : Int)) + (a : Int) := by
      rw [h1]
      exact (Int.mul_ediv_add_emod _ _).symm
    have h3 : (a : Int) - (b.sum : Int) - (r.sum : Int) = (x : Int) + (q : Int) * (-(((b.sum : Int) + (x : Int) + (r.sum : Int)) / (q : Int))) := by
      rw [Int.mul_neg]
      omega
    rw [h3, Int.add_mul_emod_self_left]
    exact Int.emod_eq_of_lt (by omega) (by omega)
  rw [e]
  rfl
theorem line_go {q a : Nat} : ∀ (r b : List Nat), (∀ x ∈ r, x < q) → a = (b.sum + r.sum) % q → line q (a :: b) r = (a :: b) ++ r
  | [], b, _, _ => by rw [line_nil, List.append_nil]
  | x :: r, b, h, ha => by
    have hx : x < q := h x List.mem_cons_self
    rw [line_cons, says_own hx (by rw [ha, List.sum_cons, Nat.add_assoc])]
    show line q (a :: (b ++ [x])) r = _
    rw [line_go r (b ++ [x]) (fun y hy => h y (List.mem_cons_of_mem _ hy)) (by
      rw [ha, List.sum_cons, List.sum_append, List.sum_cons, List.sum_nil]
      congr 1
      omega)]
    simp
/-- all that's said along a line of colours: what the others leave, then each their own hat -/
theorem line_is {q x : Nat} {r : List Nat} (h : ∀ y ∈ r, y < q) : line q [] (x :: r) = (r.sum % q) :: r := by
  show line q ([] ++ [says q [] r]) r = _
  show line q [r.sum % q] r = _
  rw [line_go r [] h (by simp)]
  rfl
theorem line_is_nil (q : Nat) : line q [] [] = [] := rfl

/-! ### code -/
def xors (l : List Nat) : Nat := l.foldl (fun s i => Nat.xor s (i + 1)) 0
theorem xors_from (l : List Nat) : ∀ s : Nat, l.foldl (fun s i => Nat.xor s (i + 1)) s = s ^^^ xors l := by
  induction l with
  | nil => intro s; exact (Nat.xor_zero s).symm
  | cons a l ih =>
    intro s
    unfold xors
    rw [List.foldl_cons, List.foldl_cons, ih, ih (Nat.xor 0 (a + 1))]
    show (s ^^^ (a + 1)) ^^^ xors l = s ^^^ ((0 ^^^ (a + 1)) ^^^ xors l)
    rw [Nat.zero_xor, Nat.xor_assoc]
theorem xors_append (a b : List Nat) : xors (a ++ b) = xors a ^^^ xors b := by
  show (a ++ b).foldl _ 0 = _
  rw [List.foldl_append, xors_from]
  rfl
/-- the numbers of the first m persons with a 1 -/
def notedTo (c : List Nat) (m : Nat) : Nat := xors ((List.range m).filter fun i => c.getD i 0 == 1)
theorem notedTo_zero (c : List Nat) : notedTo c 0 = 0 := rfl
theorem notedTo_succ (c : List Nat) (m : Nat) : notedTo c (m + 1) = if c.getD m 0 = 1 then notedTo c m ^^^ (m + 1) else notedTo c m := by
  unfold notedTo
  rw [List.range_succ, List.filter_append, xors_append]
  by_cases h : c.getD m 0 = 1
  · rw [if_pos h, List.filter_cons, if_pos (beq_iff_eq.mpr h)]
    congr 1
    show Nat.xor 0 (m + 1) = m + 1
    exact Nat.zero_xor _
  · rw [if_neg h, List.filter_cons, if_neg (fun z => h (beq_iff_eq.mp z))]
    exact Nat.xor_zero _
theorem noted_is (c : List Nat) : noted c = notedTo c c.length := rfl
theorem notedTo_set (c : List Nat) (i : Nat) (hi : i < c.length) : ∀ m : Nat, notedTo (c.set i 0) m = if i < m ∧ c.getD i 0 = 1 then notedTo c m ^^^ (i + 1) else notedTo c m
  | 0 => by
    rw [if_neg (fun h => absurd h.1 (Nat.not_lt_zero i))]
    rfl
  | m + 1 => by
    have ih := notedTo_set c i hi m
    rw [notedTo_succ, notedTo_succ, ih]
    by_cases e : m = i
    · subst e
      have e1 : (c.set m 0).getD m 0 = 0 := by
        rw [List.getD_eq_getElem?_getD, List.getElem?_set_self hi]
        rfl
      rw [e1, if_neg (by decide), if_neg (fun h => absurd h.1 (Nat.lt_irrefl m))]
      by_cases h : c.getD m 0 = 1
      · have h' : m < m + 1 ∧ c.getD m 0 = 1 := ⟨Nat.lt_succ_self m, h⟩
        rw [if_pos h', if_pos h, Nat.xor_assoc, Nat.xor_self, Nat.xor_zero]
      · have h' : ¬ (m < m + 1 ∧ c.getD m 0 = 1) := fun z => h z.2
        rw [if_neg h', if_neg h]
    · have e1 : (c.set i 0).getD m 0 = c.getD m 0 := by
        rw [List.getD_eq_getElem?_getD, List.getD_eq_getElem?_getD, List.getElem?_set_ne (fun z => e z.symm)]
      rw [e1]
      have p1 : (i < m + 1 ∧ c.getD i 0 = 1) ↔ (i < m ∧ c.getD i 0 = 1) := ⟨fun z => ⟨by omega, z.2⟩, fun z => ⟨by omega, z.2⟩⟩
      by_cases hA : i < m ∧ c.getD i 0 = 1
      · by_cases hB : c.getD m 0 = 1
        · rw [if_pos hB, if_pos hA, if_pos (p1.mpr hA), if_pos hB, Nat.xor_assoc, Nat.xor_assoc, Nat.xor_comm (i + 1)]
        · rw [if_neg hB, if_pos hA, if_pos (p1.mpr hA), if_neg hB]
      · by_cases hB : c.getD m 0 = 1
        · rw [if_pos hB, if_neg hA, if_neg (fun z => hA (p1.mp z)), if_pos hB]
        · rw [if_neg hB, if_neg hA, if_neg (fun z => hA (p1.mp z)), if_neg hB]
/-- what the others have: all, without one's own number if one's hat is 1 -/
theorem noted_others (c : List Nat) (i : Nat) (hi : i < c.length) : noted (c.set i 0) = if c.getD i 0 = 1 then noted c ^^^ (i + 1) else noted c := by
  rw [noted_is, noted_is, List.length_set, notedTo_set c i hi]
  by_cases h : c.getD i 0 = 1
  · rw [if_pos ⟨hi, h⟩, if_pos h]
  · rw [if_neg (fun z => h z.2), if_neg h]
theorem notedTo_lt {c : List Nat} {r : Nat} : ∀ {m : Nat}, m < 2 ^ r → notedTo c m < 2 ^ r
  | 0, h => h
  | m + 1, h => by
    rw [notedTo_succ]
    have ih := notedTo_lt (c := c) (r := r) (m := m) (by omega)
    split
    · exact Nat.xor_lt_two_pow ih h
    · exact ih
def guessOf (s i : Nat) : Nat := if s = 0 then 1 else if s = i + 1 then 0 else 2
theorem code_is (c : List Nat) : code c = (List.range c.length).map fun i => guessOf (noted (c.set i 0)) i := rfl

/-! ### pass -/
theorem crowd_len (n : Nat) : (crowd n).length = n := by
  unfold crowd
  rw [List.length_map, List.length_range]
theorem crowd_at {n v : Nat} (hv : v < n) : (crowd n).getD v 0 = 2 ^ n - 1 - 2 ^ v := by
  unfold crowd
  rw [List.getD_eq_getElem?_getD, List.getElem?_map, List.getElem?_range hv]
  rfl
theorem crowd_bit : ∀ n, n < 9 → ∀ v, v < n → ∀ u, u < n → (2 ^ n - 1 - 2 ^ v).testBit u = (decide (u = v) == false) := by decide
theorem crowd_joined {n v u : Nat} (hn : n < 9) (hv : v < n) (hu : u < n) : joined (crowd n) v u = (decide (u = v) == false) := by
  unfold joined
  rw [crowd_at hv]
  exact crowd_bit n hn v hv u hu
theorem crowd_seen {n v : Nat} (hn : n < 9) (hv : v < n) : seen (crowd n) v = (List.range n).filter fun u => decide (u = v) == false := by
  unfold seen
  rw [crowd_len]
  apply List.filter_congr
  intro u hu
  exact crowd_joined hn hv (List.mem_range.mp hu)
theorem others_len : ∀ n, n < 9 → ∀ v, v < n → ((List.range n).filter fun u => decide (u = v) == false).length = n - 1 := by decide
theorem crowd_seen_len {n v : Nat} (hn : n < 9) (hv : v < n) : (seen (crowd n) v).length = n - 1 := by
  rw [crowd_seen hn hv]
  exact others_len n hn v hv
theorem crowd_start {n q : Nat} (hn : n < 9) : ∀ v, v ≤ n → start q (crowd n) v = v * q ^ (n - 1)
  | 0, _ => by simp [start]
  | v + 1, h => by
    rw [start_succ, crowd_start hn v (by omega), crowd_seen_len hn (by omega), Nat.succ_mul]
end Hb

set_option Elab.async false
/-! won rows of pass, counted row by row (no program here) -/
namespace Hb
open Sn88
def guessesTo (q : Nat) (g t c : List Nat) (i : Nat) : List Nat := (List.range i).map fun v => guess q g t v c
theorem guessesTo_succ (q : Nat) (g t c : List Nat) (i : Nat) : guessesTo q g t c (i + 1) = guessesTo q g t c i ++ [guess q g t i c] := by
  unfold guessesTo
  rw [List.range_succ, List.map_append]
  rfl
theorem guessesTo_len (q : Nat) (g t c : List Nat) (i : Nat) : (guessesTo q g t c i).length = i := by
  unfold guessesTo
  rw [List.length_map, List.length_range]
theorem guessesTo_at {q : Nat} {g t c : List Nat} {i v : Nat} (h : v < i) : (guessesTo q g t c i).getD v 0 = guess q g t v c := by
  unfold guessesTo
  rw [List.getD_eq_getElem?_getD, List.getElem?_map, List.getElem?_range h]
  rfl
/-- who are right among the first i, l what each says, c what each wears -/
def rightTo (l c : List Nat) (i : Nat) : List Nat := (List.range i).filter fun v => l.getD v 0 == c.getD v 0
theorem rightTo_succ (l c : List Nat) (i : Nat) : rightTo l c (i + 1) = rightTo l c i ++ if l.getD i 0 = c.getD i 0 then [i] else [] := by
  unfold rightTo
  rw [List.range_succ, List.filter_append, List.filter_cons]
  by_cases h : l.getD i 0 = c.getD i 0
  · rw [if_pos (beq_iff_eq.mpr h), if_pos h]
    rfl
  · rw [if_neg (fun z => h (beq_iff_eq.mp z)), if_neg h]
    rfl
theorem rightTo_len (l c : List Nat) (i : Nat) : (rightTo l c i).length ≤ i := by
  unfold rightTo
  refine Nat.le_trans (List.length_filter_le _ _) ?_
  rw [List.length_range]
  exact Nat.le_refl _
theorem hits_right (q : Nat) (g t c : List Nat) : hits q g t c = (rightTo (guessesTo q g t c g.length) c g.length).length := by
  unfold hits rightTo
  congr 1
  apply List.filter_congr
  intro v hv
  rw [guessesTo_at (List.mem_range.mp hv)]
/-- one right at least, and all right or passing -/
def wonB (l c : List Nat) : Bool := decide (0 < (rightTo l c l.length).length) && decide ((rightTo l c l.length).length + l.count 2 = l.length)
theorem both_len {f h : Nat → Bool} : ∀ {l : List Nat}, (∀ x ∈ l, f x = true → h x = false) → (l.filter f).length + (l.filter h).length = (l.filter fun x => f x || h x).length
  | [], _ => rfl
  | a :: l, d => by
    have ih := both_len (f := f) (h := h) (l := l) fun x hx => d x (List.mem_cons_of_mem _ hx)
    have da := d a List.mem_cons_self
    rw [List.filter_cons, List.filter_cons, List.filter_cons]
    cases ef : f a with
    | true =>
      rw [da ef]
      simp only [Bool.or_false, if_true, List.length_cons]
      simp
      omega
    | false =>
      cases eh : h a with
      | true =>
        simp
        omega
      | false =>
        simp
        omega
theorem all_len {f : Nat → Bool} : ∀ {l : List Nat}, ((l.filter f).length = l.length) = (l.all f = true)
  | [] => by simp
  | a :: l => by
    have ih := all_len (f := f) (l := l)
    have le := List.length_filter_le f l
    rw [List.filter_cons, List.all_cons]
    cases ef : f a with
    | true => simpa using ih
    | false =>
      simp
      omega
theorem count_map (f : Nat → Nat) (a : Nat) : ∀ l : List Nat, (l.map f).count a = (l.filter fun x => f x == a).length
  | [] => rfl
  | x :: l => by
    rw [List.map_cons, List.count_cons, List.filter_cons, count_map f a l]
    cases h : (f x == a) with
    | true => simp
    | false => simp
theorem pos_any {f : Nat → Bool} : ∀ {l : List Nat}, decide (0 < (l.filter f).length) = l.any f
  | [] => rfl
  | a :: l => by
    rw [List.filter_cons, List.any_cons]
    cases ef : f a with
    | true => simp
    | false => simpa using pos_any (f := f) (l := l)
theorem won_is {n : Nat} {t c : List Nat} (hc : ∀ u, u < n → c.getD u 0 < 2) : wonB (guessesTo 2 (crowd n) t c n) c = won n t c := by
  have el := guessesTo_len 2 (crowd n) t c n
  have er : rightTo (guessesTo 2 (crowd n) t c n) c n = (List.range n).filter fun v => guess 2 (crowd n) t v c == c.getD v 0 := by
    unfold rightTo
    apply List.filter_congr
    intro v hv
    rw [guessesTo_at (List.mem_range.mp hv)]
  have ec : (guessesTo 2 (crowd n) t c n).count 2 = ((List.range n).filter fun v => guess 2 (crowd n) t v c == 2).length := count_map _ _ _
  unfold wonB won
  rw [el, er, ec, pos_any, both_len]
  · congr 1
    rw [Bool.eq_iff_iff, decide_eq_true_iff]
    have z := all_len (f := fun v => guess 2 (crowd n) t v c == c.getD v 0 || guess 2 (crowd n) t v c == 2) (l := List.range n)
    rw [List.length_range] at z
    rw [z]
  · intro v hv h
    have h1 := hc v (List.mem_range.mp hv)
    have h2 := beq_iff_eq.mp h
    refine beq_eq_false_iff_ne.mpr ?_
    omega
/-- the won rows among the first i -/
def wonTo (n : Nat) (t : List Nat) (i : Nat) : Nat := ((List.range i).filter fun r => won n t (rowOf 2 n r)).length
theorem wonTo_succ (n : Nat) (t : List Nat) (i : Nat) : wonTo n t (i + 1) = wonTo n t i + if won n t (rowOf 2 n i) = true then 1 else 0 := by
  unfold wonTo
  rw [List.range_succ, List.filter_append, List.length_append, List.filter_cons]
  cases h : won n t (rowOf 2 n i) with
  | true => rfl
  | false => rfl
theorem wonTo_all (n : Nat) (t : List Nat) : ((rows 2 n).filter (won n t)).length = wonTo n t (2 ^ n) := by
  rw [rows_eq, List.filter_map, List.length_map]
  rfl
/-! ### what is due -/
def lineIs (n q : Int) (c : List Nat) : List Int := if lineOk n q = false then [-2] else if below n.toNat q.toNat c = false then [-3] else 0 :: outs (Sn88.line q.toNat [] c)
theorem line_due (n q : Int) (c : List Nat) : PySn88.line n q (outs c) = lineIs n q c := by
  have e : PySn88.line n q (outs c) = (match Sn88Neutral.answered (.line n q (Sn88Neutral.nats (outs c))) with
    | some a => a.v :: a.l.map fun (x : Nat) => (x : Int)
    | none => []) := rfl
  rw [e]
  unfold outs
  rw [nats_cast]
  show (if _ then _ else if _ then _ else _ : Ans).v :: (if _ then _ else if _ then _ else _ : Ans).l.map _ = _
  unfold lineIs
  cases h1 : lineOk n q with
  | false => rfl
  | true =>
    cases h2 : below n.toNat q.toNat c with
    | false => rfl
    | true => rfl
def passIs (n : Int) (t : List Nat) : List Int := if between n 1 8 = false then [-2] else if passGood n t = false then [-3] else [((wonTo n.toNat t (2 ^ n.toNat) : Nat) : Int)]
theorem pass_due (n : Int) (t : List Nat) : PySn88.passing n (outs t) = passIs n t := by
  have e : PySn88.passing n (outs t) = (match Sn88Neutral.answered (.pass n (Sn88Neutral.nats (outs t))) with
    | some a => a.v :: a.l.map fun (x : Nat) => (x : Int)
    | none => []) := rfl
  rw [e]
  unfold outs
  rw [nats_cast]
  show (if _ then _ else if _ then _ else _ : Ans).v :: (if _ then _ else if _ then _ else _ : Ans).l.map _ = _
  unfold passIs
  rw [← wonTo_all]
  cases h1 : between n 1 8 with
  | false => rfl
  | true =>
    cases h2 : passGood n t with
    | false => rfl
    | true => rfl
end Hb

set_option Elab.async false
set_option linter.all false
set_option maxRecDepth 100000
/-! list(reversed(a list)): a new list, the items backwards -/
namespace HbR
open PySem PySem.Spec PyProof.Rows L2 RT
section
variable {prog : Program} {w : World} {A : Around} {s : Shared} {it l : Addr} {items : Array Value}
/-- where list's own steps go on to -/
abbrev Go (prog : Program) (w : World) (A : Around) (R : Result → Shared → Prop) (c : Sem Fin) (s : Shared) : Prop :=
  wpAny (model prog w) A.in1 c (fun fin t => match fin with | .done f => R (.ok f) t | .again d => d.quiet = true ∧ codeAny (model prog w) A d R t) (fun e t => R (.error e) t) s
/-- a list's iterator from its end tells no length that counts -/
theorem rev_hint {E : Value → Shared → Prop} {Q : Bool → Shared → Prop} (ty : s.TypeIs (.ref it) "list_reverseiterator") (q : Q false s) : wpAny (model prog w) A (Builtin.List.listLengthHint (.ref it)) Q E s := by
  unfold Builtin.List.listLengthHint
  refine wpAny_bind (wpAny_specialOf ty nolen_lri (show wpAny _ A (specialOf (.ref it) (Str.ofString "__length_hint__") >>= _) _ _ _ from wpAny_bind (wpAny_specialOf ty hint_lri ?_)))
  have own : ∀ x, "list_reverseiterator.__length_hint__" = x → splitId x = some ("list_reverseiterator", "__length_hint__") := fun x e => by
    rw [← e]
    decide +kernel
  generalize is : ("list_reverseiterator.__length_hint__" : String) = name
  wp_delta
  rw [own name is]
  cases is
  exact wpAny_bind (wpAny_isInstance (b := true) ty (by rw [isSubtype_type]; kernel_rfl) (wpAny_pure q))
structure Back (h : Heap) (it l : Addr) (items : Array Value) : Prop where
  at_end : h.IsRevIter it l ((items.size : Int) - 1)
  list : h.IsList l items
  apart : l ≠ it
theorem Back.moved {h h' : Heap} (b : Back h it l items) (k : ∀ p, p = it ∨ p = l → ∀ o, h.get? p = some o → h'.get? p = some o) : Back h' it l items :=
  ⟨b.at_end.at (k it (.inl rfl)), let ⟨o, e, r⟩ := b.list; ⟨o, k l (.inr rfl) o e, r⟩, b.apart⟩
def Told (items : Array Value) (i : Nat) (v : Value) : Prop := items[items.size - 1 - i]? = some v
theorem rev_extend {R : Result → Shared → Prop} (ok : A.handled = none) (b : Back s.heap it l items) (few : items.size ≤ sizeLine) (S : Addr) (c : Nat) (here : s.heap.get? S = some { cls := .type "list", data := .seq #[] c }) (away : S ∉ [it, l])
    (fin : ∀ h tk acc d, (∀ p o, p ≠ S → p ≠ it → s.heap.get? p = some o → h.get? p = some o) → h.get? S = some { cls := .type "list", dict := none, data := .seq acc d, slots := #[] } → ItemsOf (Told items) acc items.size → R (.ok (.ret .none)) { s with heap := h, toks := tk }) :
    Go prog w A R (Builtin.List.listExtendWith (.ref S) (.ref it) .none) s := by
  have ty : s.TypeIs (.ref it) "list_reverseiterator" := Heap.IsRevIter.typeIs b.at_end
  have other : Builtin.List.listSameRef (.ref S) (.ref it) = false := by
    have ne : S ≠ it := fun e => away (by rw [e]; exact List.mem_cons_self)
    simp [Builtin.List.listSameRef, ne]
  have walk := (Walks.listRev (A := A.in1) (prog := prog) (w := w) ok it l b.apart items).toS
  have first : ((items.size : Nat) : Int) - 1 = (items.size : Int) - 1 - ((0 : Nat) : Int) := by omega
  have from0 := b.at_end
  rw [first] at from0
  unfold Go Builtin.List.listExtendWith
  refine wpAny_bind (wpAny_typeOf ty (by
    rw [if_neg (by rw [other] <;> decide)]
    refine wpAny_bind (wpAny_pyIter_revIter b.at_end (wpAny_bind (wpAny_holding (rev_hint ty ?_))))
    rw [if_neg (by decide)]
    refine wpAny_pure ⟨plainId_quiet F.plain_extend_loop _, codeAny_extend_loopS walk few S away .none items.size 0 _ _ _ rfl (Nat.zero_le _) ⟨Nat.zero_le _, from0, b.list⟩ here (ItemsOf.nil _) fun t acc d moved there told => ?_⟩
    rw [Moved.eq_with moved]
    refine fin t.heap t.toks acc d (fun p o p1 p2 e => moved.heap p o (fun m => ?_) e) there told
    cases m with
    | head => exact p1 rfl
    | tail _ m => exact p2 (List.mem_singleton.mp m)))
theorem rev_init {R : Result → Shared → Prop} (ok : A.handled = none) (b : Back s.heap it l items) (few : items.size ≤ sizeLine) (S : Addr) (here : s.heap.get? S = some { cls := .type "list", data := .seq #[] }) (away : S ∉ [it, l])
    (fin : ∀ h tk acc d, (∀ p o, p ≠ S → p ≠ it → s.heap.get? p = some o → h.get? p = some o) → h.get? S = some { cls := .type "list", dict := none, data := .seq acc d, slots := #[] } → ItemsOf (Told items) acc items.size → R (.ok (.ret .none)) { s with heap := h, toks := tk }) :
    Go prog w A R (Builtin.«list.__init__» ⟨[.ref S, .ref it], []⟩) s := by
  have off : ∀ p o, p ≠ S → s.heap.get? p = some o → (s.heap.update S (Obj.mapSeq fun _ => (#[] : Array Value))).get? p = some o := fun p o ne e => by
    rw [Heap.get?_update_other _ _ (fun z => ne z.symm)]
    exact e
  have b2 : Back (s.heap.update S (Obj.mapSeq fun _ => (#[] : Array Value))) it l items := b.moved fun p hp o e => off p o (fun z => away (by
    rw [← z]
    rcases hp with z | z <;> rw [z] <;> simp)) e
  have blank : Go prog w A R (letGo (#[] : Array Value).toList.reverse >>= fun _ => Builtin.List.listExtendWith (.ref S) (.ref it) .none) { s with heap := s.heap.update S (Obj.mapSeq fun _ => (#[] : Array Value)) } :=
    wpAny_bind (wpAny_letGo (rev_extend ok b2 few S _ (Heap.get?_update_self (Obj.mapSeq fun _ => (#[] : Array Value)) here rfl) away fun h tk acc d kept => fin h tk acc d fun p o p1 p2 e => kept p o p1 p2 (off p o p1 e)))
  have clear : Go prog w A R (updateSeq S (fun _ => #[]) >>= fun _ => letGo (#[] : Array Value).toList.reverse >>= fun _ => Builtin.List.listExtendWith (.ref S) (.ref it) .none) s := wpAny_bind (wpAny_updateSeq here rfl blank)
  show Go prog w A R (Builtin.List.listItems (.ref S) >>= fun old => Builtin.List.listUpdate (.ref S) (fun _ => #[]) >>= fun _ => letGo old.toList.reverse >>= fun _ => Builtin.List.listExtendWith (.ref S) (.ref it) .none) s
  exact wpAny_bind (by
    unfold Builtin.List.listItems
    exact wpAny_bind (wpAny_seqItems here rfl (wpAny_pure clear)))
theorem rev_list {E : Value → Shared → Prop} {Q : Value → Shared → Prop} (ok : A.handled = none) (b : Back s.heap it l items) (few : items.size ≤ sizeLine)
    (fin : ∀ h tk acc d, (∀ p o, p ≠ it → s.heap.get? p = some o → h.get? p = some o) → h.get? s.heap.objs.size = some { cls := .type "list", dict := none, data := .seq acc d, slots := #[] } → ItemsOf (Told items) acc items.size → Q (.ref s.heap.objs.size) { s with heap := h, toks := tk }) :
    wpAny (model prog w) A (call (.type "list") [.ref it]) Q E s := by
  have lt1 : it < s.heap.objs.size := let ⟨_, e, _⟩ := b.at_end; Heap.lt_size e
  have lt2 : l < s.heap.objs.size := let ⟨_, e, _⟩ := b.list; Heap.lt_size e
  have made : (s.heap.push { cls := .type "list", data := .seq #[] }).get? s.heap.objs.size = some _ := Heap.get?_push_size _ rfl
  refine callType_codes F.called_list (F.typeCall_list_1 _) F.entry_list_init (code_list_new (Q₁ := fun v t => v = .ref s.heap.objs.size ∧ t = { s with heap := s.heap.push { cls := .type "list", data := .seq #[] } }) _ ⟨rfl, rfl⟩) fun v t hv => ?_
  cases hv.1
  cases hv.2
  have b2 : Back (s.heap.push { cls := .type "list", data := .seq #[] }) it l items := b.moved fun p _ o e => Heap.get?_push_of_some _ e
  refine ⟨⟨_, made, rfl⟩, F.args_list_init_2 _ _, rev_init (A := A.in1) (s := { s with heap := s.heap.push { cls := .type "list", data := .seq #[] } }) ok b2 few _ made (by simp only [List.mem_cons, List.not_mem_nil, or_false, not_or]; exact ⟨Nat.ne_of_gt lt1, Nat.ne_of_gt lt2⟩) fun h tk acc d kept there told => ⟨rfl, fin h tk acc d (fun p o ne e => kept p o (Nat.ne_of_lt (Heap.lt_size e)) ne (Heap.get?_push_of_some _ e)) there told⟩⟩
end
/-- the reading of list(reversed(x)), x a list -/
def tLstRev (K : PySem.W.Frag) (te : TE) : TE := fun σ H Q => te σ H fun v H1 => ∃ (a : Addr) (xs : List V), v = .ref a ∧ SqL K H1 a xs ∧ ∀ q, H1 q = none → Q (.ref q) (upd H1 q (.lst xs.reverse))
theorem pe_lstRev {X : Cx} {e : Expr} {te : TE} {p p2 pos pos2 : Pos} (calm : X.calm = true) (hg : Gl X "list") (hm : X.mg "list" = none) (hg2 : Gl X "reversed") (hm2 : X.mg "reversed" = none) (he : PE X e te) (one : starEach [e] X.env = (false, eval e X.env) :: starEach [] X.env := by rfl) (two : starEach [.Call (.Name "reversed" p2) [e] [] pos2] X.env = (false, eval (.Call (.Name "reversed" p2) [e] [] pos2) X.env) :: starEach [] X.env := by rfl) :
    PE X (.Call (.Name "list" p) [.Call (.Name "reversed" p2) [e] [] pos2] [] pos) (tLstRev X.K te) := by
  constructor
  intro pins s σ H Q I h
  have inner : ∀ {R : List Value → Shared → Prop}, (∀ (a : Addr) (xs : List V) (t : Shared) (H1 : Hp) (its : List Value), Inv X pins σ H1 t → SqL X.K H1 a xs → (∀ q, H1 q = none → Q (.ref q) (upd H1 q (.lst xs.reverse))) → Vals xs its → t.heap.IsList a its.toArray → xs.length ≤ sizeLine →
      R [.ref t.heap.objs.size] { t with heap := t.heap.push (revObj a ((its.toArray.size : Int) - 1)) }) → wpAny (model X.prog X.w) X.A (spliced (backTo pos (starEach [.Call (.Name "reversed" p2) [e] [] pos2] X.env))) R X.xe s := fun k =>
    args_cons (Call_ (ld_blt I hg2 hm2 PyProof.Rows.boot_reversed (PyProof.Rows.callWith_type1 (args_cons (thn (he.run pins s σ H _ I h) fun u t ⟨v, H1, I1, r, a, xs, ev, hq, q⟩ => args_nil (by
      subst ev
      cases r
      obtain ⟨its, rv, pl, hz⟩ := I1.list hq
      exact call_reversed_list pl.isList (args_nil (k a xs t H1 its I1 hq q rv pl.isList hz)))) one) one rfl))) two
  refine Call_ (ld_blt I hg hm boot_list (PyProof.Rows.callWith_type1 (inner fun a xs t H1 its I1 hq q rv pl hz => ?_) two rfl))
  have lt : a < t.heap.objs.size := let ⟨_, e, _⟩ := pl; Heap.lt_size e
  have I2 : Inv X pins σ H1 { t with heap := t.heap.push (revObj a ((its.toArray.size : Int) - 1)) } := I1.kept (t' := t.toks) fun b o e => Heap.get?_push_of_some _ e
  have len : its.toArray.size = xs.length := by rw [List.size_toArray, rv.length]
  have hfr : H1 (t.heap.push (revObj a ((its.toArray.size : Int) - 1))).objs.size = none := I2.hok.fresh (Nat.le_refl _)
  refine rev_list (I1.ok.hd calm) (s := { t with heap := t.heap.push (revObj a ((its.toArray.size : Int) - 1)) }) ⟨⟨_, Heap.get?_push_size _ rfl, rfl, rfl⟩, pl.push _, Nat.ne_of_lt lt⟩ (by rw [len]; exact hz) fun h' tk acc d kept there told => ⟨.ref _, upd H1 _ (.lst xs.reverse), ?_, rfl, q _ hfr⟩
  refine I2.turnedNew (t' := tk) (ch := [t.heap.objs.size]) (fun b ob hb e => kept b ob (fun z => hb (by rw [z]; exact List.mem_cons_self)) e) (fun b hb => ?_) (Nat.le_refl _) ⟨by rw [List.length_reverse] <;> exact hz, acc.toList, d, RT.vals_rev rv told, there⟩
  cases List.mem_singleton.mp hb
  exact I1.fpOk (Nat.le_refl _) (I1.hok.fresh (Nat.le_refl _))
end HbR

set_option Elab.async false
set_option linter.all false
set_option maxRecDepth 100000
set_option maxHeartbeats 4000000
namespace Hb
open PySem PySem.Spec PyProof.Rows L2
/-! ### lists of numbers as values -/
def nv (l : List Nat) : List V := (outs l).map V.int
theorem nv_len (l : List Nat) : (nv l).length = l.length := by
  unfold nv outs
  rw [List.length_map, List.length_map]
theorem nv_get {l : List Nat} {i x : Nat} (h : l[i]? = some x) : (nv l)[i]? = some (.int (x : Int)) := by
  unfold nv outs
  rw [List.getElem?_map, List.getElem?_map, h]
  rfl
theorem getD_at {l : List Nat} {i : Nat} (h : i < l.length) : l[i]? = some (l.getD i 0) := by
  rw [List.getD_eq_getElem?_getD, List.getElem?_eq_getElem h]
  rfl
theorem nv_at {l : List Nat} {i : Nat} (h : i < l.length) : (nv l)[i]? = some (.int ((l.getD i 0 : Nat) : Int)) := nv_get (getD_at h)
theorem nv_app (l : List Nat) (x : Nat) : nv l ++ [.int (x : Int)] = nv (l ++ [x]) := by
  unfold nv outs
  rw [List.map_append, List.map_append]
  rfl
theorem nv_rev (l : List Nat) : (nv l).reverse = nv l.reverse := by
  unfold nv outs
  rw [List.map_reverse, List.map_reverse]
theorem nv_inv {l : List Nat} {i : Nat} {v : V} (h : (nv l)[i]? = some v) : ∃ x, l[i]? = some x ∧ v = .int (x : Int) := by
  unfold nv outs at h
  rw [List.getElem?_map, List.getElem?_map] at h
  cases e : l[i]? with
  | none =>
    rw [e] at h
    cases h
  | some x =>
    rw [e] at h
    exact ⟨x, rfl, (Option.some.inj h).symm⟩
theorem ifB {c : Bool} {A B : Prop} (h1 : c = true → A) (h2 : c = false → B) : if c = true then A else B := by
  cases c with
  | true => exact iteT (h1 rfl)
  | false => exact iteF (h2 rfl)
theorem same_upd {H : Hp} {p : Addr} {o : HO} (h : H p = none) : Same H (upd H p o) := fun b x e => by
  rw [upd_ne (ne_of_none e h)]
  exact e
theorem same_at {H H' : Hp} {p : Addr} {o : HO} (h : H p = none) (s : Same H H') : Same H (upd H' p o) := fun b x e => by
  rw [upd_ne (ne_of_none e h)]
  exact s b x e
theorem seq_upd {K : PySem.W.Frag} {H : Hp} {a p : Addr} {xs : List V} {o : HO} (h : SqL K H a xs) (hp : H p = none) : SqL K (upd H p o) a xs := (same_upd hp).seq h
/-! ### loops -/
/-- what a for asks of its walked thing J, behind its start -/
abbrev ForIt (J : It) (g : TG) (tb : TS) (D : Ends) (σ : L2.St) (H : Hp) : Prop := ∃ W : Nat → Nat → L2.St → Hp → Prop, (∃ m, W 0 m σ H) ∧ ∀ i m τ G, W i m τ G → (J.stop i G ∧ D.nx τ G) ∨
  (J.go i G ∧ ∃ N : L2.St → Hp → Prop, (∀ τ' G', N τ' G' → ∃ m', m' < m ∧ W (i + 1) m' τ' G') ∧ ∀ x G', J.yld i G x G' → g x τ G' fun τ2 G2 => tb { D with nx := N, ct := N, bk := D.nx } τ2 G2)
/-- one turn of it -/
abbrev Turn1 (g : TG) (tb : TS) (D : Ends) (N : L2.St → Hp → Prop) (x : V) (σ : L2.St) (H : Hp) : Prop := g x σ H fun σ2 H2 => tb { D with nx := N, ct := N, bk := D.nx } σ2 H2
theorem for_range0 {n : Nat} {g : TG} {tb : TS} {D : Ends} {σ : L2.St} {H : Hp} (Pv : Nat → L2.St → Hp → Prop) (start : Pv 0 σ H) (turn : ∀ i τ G, i < n → Pv i τ G → Turn1 g tb D (Pv (i + 1)) (.int (i : Int)) τ G) (done : ∀ τ G, Pv n τ G → D.nx τ G) : ForIt (Itr 0 n) g tb D σ H :=
  for_range (lo := 0) Pv start (fun i τ G hi p => by
    rw [Int.zero_add]
    exact turn i τ G hi p) done
/-- one turn of a comprehension: the item x, the new list at D -/
abbrev Comp1 (g : TG) (tt : TT) (te : TE) (vs : List Nat) (σ : L2.St) (D : Addr) (N : Hp → Prop) (x : V) (H : Hp) : Prop := g x (wipe σ vs) H fun σ2 H2 => wipe σ2 vs = wipe σ vs ∧ tt σ2 H2 fun b H3 =>
  if b = true then te σ2 H3 fun y H4 => ∃ acc, H4 D = some (.lst acc) ∧ acc.length < sizeLine ∧ N (upd H4 D (.lst (acc ++ [y]))) else N H3
abbrev CompIt (J : It) (g : TG) (tt : TT) (te : TE) (vs : List Nat) (σ : L2.St) (H : Hp) (D : Addr) (Qd : Hp → Prop) : Prop := ∃ W : Nat → Nat → Hp → Prop, (∃ m, W 0 m (upd H D (.lst []))) ∧ ∀ i m G, W i m G → (J.stop i G ∧ Qd G) ∨
  (J.go i G ∧ ∃ N : Hp → Prop, (∀ G', N G' → ∃ m', m' < m ∧ W (i + 1) m' G') ∧ ∀ x G', J.yld i G x G' → Comp1 g tt te vs σ D N x G')
theorem lc_range0 {n : Nat} {g : TG} {tt : TT} {te : TE} {vs : List Nat} {σ : L2.St} {H : Hp} {D : Addr} {Qd : Hp → Prop} (Pv : Nat → Hp → Prop) (start : Pv 0 (upd H D (.lst []))) (turn : ∀ i G, i < n → Pv i G → Comp1 g tt te vs σ D (Pv (i + 1)) (.int (i : Int)) G) (done : ∀ G, Pv n G → Qd G) : CompIt (Itr 0 n) g tt te vs σ H D Qd :=
  lc_range (lo := 0) Pv start (fun i G hi p => by
    rw [Int.zero_add]
    exact turn i G hi p) done
/-- a loop over enumerate(a list) -/
theorem for_Ite {K : PySem.W.Frag} {a : Addr} {xs : List V} {g : TG} {tb : TS} {D : Ends} {σ : L2.St} {H : Hp} (Pv : Nat → L2.St → Hp → Prop) (start : Pv 0 σ H) (still : ∀ i τ G, Pv i τ G → SqL K G a xs)
    (turn : ∀ (i : Nat) (x : V) (T : Addr) (τ : L2.St) (G : Hp), xs[i]? = some x → Pv i τ G → G T = none → Turn1 g tb D (Pv (i + 1)) (.ref T) τ (upd G T (.tup [.int (i : Nat), x]))) (done : ∀ τ G, Pv xs.length τ G → D.nx τ G) : ForIt (Ite K a) g tb D σ H := by
  refine ⟨fun i m τ G => m + i = xs.length ∧ Pv i τ G, ⟨xs.length, Nat.add_zero _, start⟩, fun i m τ G hw => ?_⟩
  obtain ⟨em, p⟩ := hw
  have q := still i τ G p
  cases m with
  | zero =>
    have e : i = xs.length := by omega
    refine .inl ⟨⟨xs, q, by omega⟩, done τ G ?_⟩
    rw [← e]
    exact p
  | succ m =>
    have lt : i < xs.length := by omega
    refine .inr ⟨⟨xs, _, q, List.getElem?_eq_getElem lt⟩, Pv (i + 1), fun τ' G' p' => ⟨m, Nat.lt_succ_self m, by omega, p'⟩, fun v G' y => ?_⟩
    obtain ⟨T, x, rfl, fresh, rfl, item⟩ := y
    exact turn i x T τ G (item xs q) p fresh
theorem shr_val (x n : Nat) : ((x : Int) / 2 ^ ((n : Int)).toNat) = ((x / 2 ^ n : Nat) : Int) := by
  rw [show ((n : Int)).toNat = n from rfl, Int.natCast_ediv, Int.natCast_pow]
  rfl
theorem dec_int (x y : Nat) : decide (V.int (x : Int) = V.int (y : Int)) = decide (x = y) := by
  by_cases h : x = y
  · subst h
    rw [decide_eq_true rfl, decide_eq_true rfl]
  · rw [decide_eq_false h, decide_eq_false]
    intro z
    have z' := V.int.inj z
    omega
end Hb

set_option Elab.async false
set_option linter.all false
set_option maxRecDepth 100000
set_option maxHeartbeats 4000000
namespace Hb
open PySem PySem.Spec PyProof.Rows L2
/-- a comprehension over enumerate(a list) -/
theorem lc_Ite {K : PySem.W.Frag} {a : Addr} {xs : List V} {g : TG} {tt : TT} {te : TE} {vs : List Nat} {σ : L2.St} {H : Hp} {D : Addr} {Qd : Hp → Prop} (Pv : Nat → Hp → Prop) (start : Pv 0 (upd H D (.lst []))) (still : ∀ i G, Pv i G → SqL K G a xs)
    (turn : ∀ (i : Nat) (x : V) (T : Addr) (G : Hp), xs[i]? = some x → Pv i G → G T = none → Comp1 g tt te vs σ D (Pv (i + 1)) (.ref T) (upd G T (.tup [.int (i : Nat), x]))) (done : ∀ G, Pv xs.length G → Qd G) : CompIt (Ite K a) g tt te vs σ H D Qd := by
  refine ⟨fun i m G => m + i = xs.length ∧ Pv i G, ⟨xs.length, Nat.add_zero _, start⟩, fun i m G hw => ?_⟩
  obtain ⟨em, p⟩ := hw
  have q := still i G p
  cases m with
  | zero =>
    have e : i = xs.length := by omega
    refine .inl ⟨⟨xs, q, by omega⟩, done G ?_⟩
    rw [← e]
    exact p
  | succ m =>
    have lt : i < xs.length := by omega
    refine .inr ⟨⟨xs, _, q, List.getElem?_eq_getElem lt⟩, Pv (i + 1), fun G' p' => ⟨m, Nat.lt_succ_self m, by omega, p'⟩, fun v G' y => ?_⟩
    obtain ⟨T, x, rfl, fresh, rfl, item⟩ := y
    exact turn i x T G (item xs q) p fresh
/-- a comprehension over a list -/
theorem lc_Itl {K : PySem.W.Frag} {a : Addr} {xs : List V} {g : TG} {tt : TT} {te : TE} {vs : List Nat} {σ : L2.St} {H : Hp} {D : Addr} {Qd : Hp → Prop} (Pv : Nat → Hp → Prop) (start : Pv 0 (upd H D (.lst []))) (still : ∀ i G, i ≤ xs.length → Pv i G → SqL K G a xs)
    (turn : ∀ (i : Nat) (x : V) (G : Hp), xs[i]? = some x → Pv i G → Comp1 g tt te vs σ D (Pv (i + 1)) x G) (done : ∀ G, Pv xs.length G → Qd G) : CompIt (Itl K a) g tt te vs σ H D Qd :=
  lc_list Pv start still turn done
theorem sq_new {K : PySem.W.Frag} {H : Hp} {a : Addr} {xs : List V} (h : H a = some (.lst xs)) : SqL K H a xs := .inl (.inl h)
theorem ltLine {n : Nat} (h : n ≤ 70000) : n < sizeLine := Nat.lt_of_le_of_lt h (by decide)
theorem leLine {n : Nat} (h : n ≤ 70000) : n ≤ sizeLine := Nat.le_of_lt (ltLine h)
end Hb

set_option Elab.async false
set_option linter.all false
set_option maxRecDepth 100000
set_option maxHeartbeats 4000000
namespace Hb
open PySem PySem.Spec PyProof.Rows L2 RT HbR
/-! ### the text -/
def topS (i : Nat) : Stmt := PySem.Challenge.pw_hatboxes_s04_passing.main.body.getD i (.Pass ⟨0, 0, 0, 0⟩)
abbrev s_main : Stmt := topS 2
abbrev n_main : List Str := ["n", "table", "sights", "v", "won", "row", "hats"]
abbrev p_main : List Str := ["n", "table"]
theorem sc_main : FnScope n_main p_main (defScope s_main) := ⟨rfl, rfl, rfl, by decide +kernel, rfl, by decide +kernel, by decide +kernel⟩
abbrev s_all_below : Stmt := topS 3
abbrev n_all_below : List Str := ["bound", "numbers", "number"]
abbrev p_all_below : List Str := ["bound", "numbers"]
theorem sc_all_below : FnScope n_all_below p_all_below (defScope s_all_below) := ⟨rfl, rfl, rfl, by decide +kernel, rfl, by decide +kernel, by decide +kernel⟩
abbrev s_all_but : Stmt := topS 4
abbrev n_all_but : List Str := ["v", "n", "u"]
abbrev p_all_but : List Str := ["v", "n"]
theorem sc_all_but : FnScope n_all_but p_all_but (defScope s_all_but) := ⟨rfl, rfl, rfl, by decide +kernel, rfl, by decide +kernel, by decide +kernel⟩
abbrev s_power : Stmt := topS 5
abbrev n_power : List Str := ["base", "exponent", "product", "step"]
abbrev p_power : List Str := ["base", "exponent"]
theorem sc_power : FnScope n_power p_power (defScope s_power) := ⟨rfl, rfl, rfl, by decide +kernel, rfl, by decide +kernel, by decide +kernel⟩
abbrev s_hats_of_row : Stmt := topS 6
abbrev n_hats_of_row : List Str := ["row", "n", "q", "hats", "rest", "place"]
abbrev p_hats_of_row : List Str := ["row", "n", "q"]
theorem sc_hats_of_row : FnScope n_hats_of_row p_hats_of_row (defScope s_hats_of_row) := ⟨rfl, rfl, rfl, by decide +kernel, rfl, by decide +kernel, by decide +kernel⟩
abbrev s_place_of_guess : Stmt := topS 7
abbrev n_place_of_guess : List Str := ["hats", "seen", "q", "place", "u"]
abbrev p_place_of_guess : List Str := ["hats", "seen", "q"]
theorem sc_place_of_guess : FnScope n_place_of_guess p_place_of_guess (defScope s_place_of_guess) := ⟨rfl, rfl, rfl, by decide +kernel, rfl, by decide +kernel, by decide +kernel⟩
abbrev s_guesses_in_row : Stmt := topS 8
abbrev n_guesses_in_row : List Str := ["hats", "sights", "q", "table", "guesses", "start", "seen"]
abbrev p_guesses_in_row : List Str := ["hats", "sights", "q", "table"]
theorem sc_guesses_in_row : FnScope n_guesses_in_row p_guesses_in_row (defScope s_guesses_in_row) := ⟨rfl, rfl, rfl, by decide +kernel, rfl, by decide +kernel, by decide +kernel⟩
abbrev s_right_guesses : Stmt := topS 9
abbrev n_right_guesses : List Str := ["hats", "guesses", "v", "guess"]
abbrev p_right_guesses : List Str := ["hats", "guesses"]
theorem sc_right_guesses : FnScope n_right_guesses p_right_guesses (defScope s_right_guesses) := ⟨rfl, rfl, rfl, by decide +kernel, rfl, by decide +kernel, by decide +kernel⟩
abbrev s_is_won : Stmt := topS 10
abbrev n_is_won : List Str := ["hats", "guesses", "right"]
abbrev p_is_won : List Str := ["hats", "guesses"]
theorem sc_is_won : FnScope n_is_won p_is_won (defScope s_is_won) := ⟨rfl, rfl, rfl, by decide +kernel, rfl, by decide +kernel, by decide +kernel⟩
/-- a def of the module, where it lies, how it binds, its name in the module -/
structure Fn (K : PySem.W.Frag) (mg : Str → Option Value) (nm : Str) (st : Stmt) (ps : List Str) where
  f : Addr
  fd : FuncData
  F : Fun K nm nm st f fd
  b : Binds K fd ps []
  g : mg nm = some (.ref f)
section
variable {P : Program} {w : World} {K : PySem.W.Frag} {mg : Str → Option Value} {base : Heap}

/-! ### all_below -/
def spBelow (K : PySem.W.Frag) : Sp := fun vs H Q _ => ∃ (a : Addr) (l : List Nat) (b : Int), vs = [.int b, .ref a] ∧ SqL K H a (nv l) ∧ Q (.bl (l.all fun x => decide ((x : Int) < b))) H
theorem ok_all_below {k : Nat} (M : Fn K mg "all_below" s_all_below p_all_below) : FnOk P w K mg base CX0 (k + 1) M.f M.fd p_all_below (spBelow K) := by
  refine M.F.ok sc_all_below (fun vs H Q E h => ?_) (fun cdv A outer s H vs Q E hr h => ?_)
  · obtain ⟨a, l, b, rfl, _⟩ := h
    rfl
  · obtain ⟨a, l, b, rfl, hS, q⟩ := h
    refine ⟨_, pss_cons (ps_for PassesOwn.never rfl (pi_list (pv 1)) (pg_name (i := 2) sc_all_below.nd rfl (.inl rfl))
        (pss_one (ps_if (pt_cmpR op_ge (pv 2) (pv 0) (nomark _)) (pss_one (ps_ret pe_bl)) pss_nil)))
      (pss_one (ps_ret pe_bl)), ?_⟩
    refine ⟨.ref a, rfl, a, rfl, ⟨_, hS⟩, for_list (K := K) (a := a) (xs := nv l) (fun i σ H' => (∃ y, σ = [some (.int b), some (.ref a), y]) ∧ H' = H ∧ ∀ j x, j < i → l[j]? = some x → (x : Int) < b) ⟨⟨none, rfl⟩, rfl, fun j x hj => absurd hj (Nat.not_lt_zero j)⟩ (fun _ _ _ _ h => by rw [h.2.1]; exact hS) ?_ ?_⟩
    · rintro i x σ H' hx ⟨⟨y, rfl⟩, rfl, hlt⟩
      obtain ⟨u, hu, rfl⟩ := nv_inv hx
      refine ⟨.int (u : Int), rfl, .int b, rfl, _, _, rfl, rfl, _, rfl, ifB (fun c => ?_) (fun c => ⟨⟨_, rfl⟩, rfl, fun j x hj hjx => ?_⟩)⟩
      · have e : (l.all fun x => decide ((x : Int) < b)) = false := by
          cases e : l.all fun x => decide ((x : Int) < b) with
          | false => rfl
          | true =>
            have h1 := of_decide_eq_true (List.all_eq_true.mp e u (List.mem_of_getElem? hu))
            have h2 := of_decide_eq_true c
            omega
        rw [e] at q
        exact q
      · by_cases e : j = i
        · subst e
          rw [hu] at hjx
          have e2 : u = x := Option.some.inj hjx
          subst e2
          have h2 := of_decide_eq_false c
          omega
        · exact hlt j x (by omega) hjx
    · rintro σ H' ⟨⟨y, rfl⟩, rfl, hlt⟩
      rw [nv_len] at hlt
      have e : (l.all fun x => decide ((x : Int) < b)) = true := List.all_eq_true.mpr fun x hx => by
        obtain ⟨j, hj, e2⟩ := List.getElem_of_mem hx
        exact decide_eq_true (hlt j x hj (by rw [List.getElem?_eq_getElem hj, e2]))
      rw [e] at q
      exact q

/-! ### all_but -/
def butTo (v i : Nat) : List Nat := (List.range i).filter fun u => decide (u = v) == false
theorem butTo_succ (v i : Nat) : butTo v (i + 1) = butTo v i ++ if i = v then [] else [i] := by
  unfold butTo
  rw [List.range_succ, List.filter_append, List.filter_cons]
  by_cases h : i = v
  · rw [if_pos h, if_neg (by rw [decide_eq_true h]; decide)]
    rfl
  · rw [if_neg h, if_pos (by rw [decide_eq_false h]; decide)]
    rfl
theorem butTo_len (v i : Nat) : (butTo v i).length ≤ i := by
  unfold butTo
  refine Nat.le_trans (List.length_filter_le _ _) ?_
  rw [List.length_range]
  exact Nat.le_refl _
def spBut : Sp := fun vs H Q _ => ∃ (v n : Nat), vs = [.int (v : Int), .int (n : Int)] ∧ n ≤ 8 ∧ ∀ H' D, Same H H' → H D = none → H' D = some (.lst (nv (butTo v n))) → Q (.ref D) H'
theorem ok_all_but {k : Nat} (M : Fn K mg "all_but" s_all_but p_all_but) (mr : mg "range" = none) : FnOk P w K mg base CX0 (k + 1) M.f M.fd p_all_but spBut := by
  refine M.F.ok sc_all_but (fun vs H Q E h => ?_) (fun cdv A outer s H vs Q E hr h => ?_)
  · obtain ⟨v, n, rfl, _⟩ := h
    rfl
  · obtain ⟨v, n, rfl, hn, q⟩ := h
    refine ⟨_, pss_one (ps_ret (pe_lc (own := [("u", 2)]) (g := gName 2) rfl sc_all_but.nd (pi_range1 (by rfl) mr (pa_cons (pv 1) pa_nil))
      (blkOk_by (own := [("u", 2)]) (N := n_all_but) (sc := defScope s_all_but) (by decide +kernel)) (fun _ _ _ _ _ => pg_name (i := 2) sc_all_but.nd rfl (Or.inl rfl))
      (fun _ _ _ _ _ => pts_one (pt_cmpR op_ne (pv 2) (pv 0) (nomark _))) (fun _ _ _ _ _ => pv 2))), ?_⟩
    refine ⟨.int (n : Int), rfl, (n : Int), rfl, by omega, by omega, fun D hD => lc_range0 (n := n) (fun i H' => Same H H' ∧ H' D = some (.lst (nv (butTo v i)))) ⟨same_upd hD, upd_same⟩ ?_ ?_⟩
    · rintro u H' hu ⟨sm, hd⟩
      refine ⟨rfl, .int (u : Int), rfl, .int (v : Int), rfl, rfl, _, rfl, ?_⟩
      rw [dec_int]
      refine ifB (fun c => ?_) (fun c => ?_)
      · have e : u ≠ v := fun z => by
          rw [decide_eq_true z] at c
          cases c
        refine ⟨.int (u : Int), rfl, _, hd, ?_, same_at hD sm, ?_⟩
        · rw [nv_len]
          exact ltLine (Nat.le_trans (butTo_len v u) (by omega))
        · rw [upd_same, nv_app, butTo_succ, if_neg e]
      · have e : u = v := by
          by_cases z : u = v
          · exact z
          · rw [decide_eq_false z] at c
            cases c
        refine ⟨sm, ?_⟩
        rw [butTo_succ, if_pos e, List.append_nil]
        exact hd
    · rintro H' ⟨sm, hd⟩
      exact q H' D sm hD hd

/-! ### power -/
theorem pow_big {q k : Nat} (hq : q ≤ 4) (hk : k ≤ 8) : q ^ k ≤ 65536 :=
  Nat.le_trans (Nat.pow_le_pow_left hq k) (Nat.le_trans (Nat.pow_le_pow_right (by decide) hk) (by decide))
def spPower : Sp := fun vs H Q _ => ∃ (q e : Nat), vs = [.int (q : Int), .int (e : Int)] ∧ q ≤ 4 ∧ e ≤ 8 ∧ Q (.int ((q ^ e : Nat) : Int)) H
theorem ok_power {k : Nat} (M : Fn K mg "power" s_power p_power) (mr : mg "range" = none) : FnOk P w K mg base CX0 (k + 1) M.f M.fd p_power spPower := by
  refine M.F.ok sc_power (fun vs H Q E h => ?_) (fun cdv A outer s H vs Q E hr h => ?_)
  · obtain ⟨q, e, rfl, _⟩ := h
    rfl
  · obtain ⟨q, e, rfl, hq, he, k⟩ := h
    refine ⟨_, pss_cons (ps_set (i := 2) sc_power.nd rfl (.inl rfl) pe_int)
      (pss_cons (ps_for PassesOwn.never rfl (pi_range1 (by rfl) mr (pa_cons (pv 1) pa_nil)) (pg_name (i := 3) sc_power.nd rfl (.inl rfl))
        (pss_one (ps_set (i := 2) sc_power.nd rfl (.inl rfl) (pe_op op_mul (pv 2) (pv 0)))))
      (pss_one (ps_ret (pv 2)))), ?_⟩
    refine ⟨.int (e : Int), rfl, (e : Int), rfl, by omega, by omega, for_range0 (n := e) (fun i σ H' => ∃ y, σ = [some (.int (q : Int)), some (.int (e : Int)), some (.int ((q ^ i : Nat) : Int)), y] ∧ H' = H) ⟨none, rfl, rfl⟩ ?_ ?_⟩
    · rintro i σ H' hi ⟨y, rfl, rfl⟩
      have hb : q ^ i ≤ 65536 := pow_big hq (by omega)
      refine ⟨.int ((q ^ i : Nat) : Int), rfl, .int (q : Int), rfl, _, _, rfl, rfl, .inl ⟨by omega, by omega⟩, some (.int (i : Int)), ?_, rfl⟩
      rw [Nat.pow_succ, Int.natCast_mul]
      rfl
    · rintro σ H' ⟨y, rfl, rfl⟩
      exact ⟨.int ((q ^ e : Nat) : Int), rfl, k⟩

/-! ### hats_of_row -/
def spHats : Sp := fun vs H Q _ => ∃ (r n q : Nat), vs = [.int (r : Int), .int (n : Int), .int (q : Int)] ∧ n ≤ 8 ∧ 1 ≤ q ∧ q ≤ 4 ∧ ∀ H' D, Same H H' → H D = none → H' D = some (.lst (nv (rowOf q n r))) → Q (.ref D) H'
def digitsTo (q r i : Nat) : List Nat := (List.range i).map fun j => r / q ^ j % q
theorem digitsTo_succ (q r i : Nat) : digitsTo q r (i + 1) = digitsTo q r i ++ [r / q ^ i % q] := by
  unfold digitsTo
  rw [List.range_succ, List.map_append]
  rfl
theorem ok_hats_of_row {k : Nat} (M : Fn K mg "hats_of_row" s_hats_of_row p_hats_of_row) (mr : mg "range" = none) (mli : mg "list" = none) (mrv : mg "reversed" = none) : FnOk P w K mg base CX0 (k + 1) M.f M.fd p_hats_of_row spHats := by
  refine M.F.ok sc_hats_of_row (fun vs H Q E h => ?_) (fun cdv A outer s H vs Q E hr h => ?_)
  · obtain ⟨r, n, q, rfl, _⟩ := h
    rfl
  · obtain ⟨r, n, q, rfl, hn, hq1, hq4, k⟩ := h
    refine ⟨_, pss_cons (ps_set (i := 3) sc_hats_of_row.nd rfl (.inl rfl) (pe_lst pa_nil))
      (pss_cons (ps_set (i := 4) sc_hats_of_row.nd rfl (.inl rfl) (pv 0))
      (pss_cons (ps_for PassesOwn.never rfl (pi_range1 (by rfl) mr (pa_cons (pv 1) pa_nil)) (pg_name (i := 5) sc_hats_of_row.nd rfl (.inl rfl))
        (pss_cons (ps_expr (pe_bm PySem.F.plainAttrs_list PySem.F.slot_list_append PySem.F.type_list_append mt_append (pv 3) (pa_cons (pe_op op_modN (pv 4) (pv 2)) pa_nil)))
        (pss_one (ps_set (i := 4) sc_hats_of_row.nd rfl (.inl rfl) (pe_op op_fdivN (pv 4) (pv 2))))))
      (pss_one (ps_ret (pe_lstRev rfl (by rfl) mli (by rfl) mrv (pv 3)))))), ?_⟩
    refine ⟨Nat.zero_le _, fun o no => ?_⟩
    refine ⟨.int (r : Int), rfl, .int (n : Int), rfl, (n : Int), rfl, by omega, by omega, for_range0 (n := n) (fun i σ H' => (∃ y, σ = [some (.int (r : Int)), some (.int (n : Int)), some (.int (q : Int)), some (.ref o), some (.int ((r / q ^ i : Nat) : Int)), y]) ∧ Same H H' ∧ H' o = some (.lst (nv (digitsTo q r i)))) ⟨⟨none, ?_⟩, same_upd no, upd_same⟩ ?_ ?_⟩
    · rw [Nat.pow_zero, Nat.div_one]
      rfl
    · rintro i σ H' hi ⟨⟨y, rfl⟩, sm, ho⟩
      refine ⟨.ref o, rfl, .inl ⟨rfl, _, .inl (.inl ho)⟩, .int ((r / q ^ i : Nat) : Int), rfl, .int (q : Int), rfl, _, _, rfl, rfl, by omega, o, _, _, rfl, rfl, ho, ?_, ?_⟩
      · rw [nv_len]
        unfold digitsTo
        rw [List.length_map, List.length_range]
        exact small1000 (by omega)
      · refine ⟨.int ((r / q ^ i : Nat) : Int), rfl, .int (q : Int), rfl, _, _, rfl, rfl, ⟨by omega, by omega⟩, ⟨some (.int (i : Int)), ?_⟩, same_at no sm, ?_⟩
        · show [_, _, _, _, some (V.int (Int.fdiv ((r / q ^ i : Nat) : Int) (q : Int))), _] = _
          rw [← rest_step, Int.ofNat_fdiv (r / q ^ i) q]
        · show upd H' o (.lst (nv (digitsTo q r i) ++ [V.int (Int.fmod ((r / q ^ i : Nat) : Int) (q : Int))])) o = _
          rw [upd_same, digitsTo_succ, ← nv_app, Int.ofNat_fmod (r / q ^ i) q]
    · rintro σ H' ⟨⟨y, rfl⟩, sm, ho⟩
      refine ⟨.ref o, rfl, o, _, rfl, .inl (.inl ho), fun D hD => ?_⟩
      refine k _ D (sm.trans (same_upd hD)) (sm.free hD) ?_
      rw [upd_same, nv_rev]
      rfl

/-! ### place_of_guess -/
def dig (q : Nat) (c : List Nat) (l : List Nat) : Nat := l.foldr (fun u s => c.getD u 0 + q * s) 0
theorem dig_lt {q : Nat} {c : List Nat} : ∀ {l : List Nat}, (∀ u ∈ l, c.getD u 0 < q) → dig q c l < q ^ l.length
  | [], _ => Nat.one_pos
  | a :: l, h => by
    have h1 := dig_lt (l := l) fun u hu => h u (List.mem_cons_of_mem _ hu)
    have h2 := h a List.mem_cons_self
    show c.getD a 0 + q * dig q c l < q ^ (l.length + 1)
    rw [Nat.pow_succ']
    calc c.getD a 0 + q * dig q c l < q + q * dig q c l := by omega
      _ = q * (dig q c l + 1) := by rw [Nat.mul_add, Nat.mul_one, Nat.add_comm]
      _ ≤ q * q ^ l.length := Nat.mul_le_mul_left _ h1
def spPlace (K : PySem.W.Frag) : Sp := fun vs H Q _ => ∃ (a b : Addr) (c l : List Nat) (q : Nat), vs = [.ref a, .ref b, .int (q : Int)] ∧ SqL K H a (nv c) ∧ SqL K H b (nv l) ∧ q ≤ 4 ∧ l.length ≤ 8 ∧ (∀ u ∈ l, u < c.length ∧ c.getD u 0 < q) ∧ Q (.int ((dig q c l : Nat) : Int)) H
theorem ok_place_of_guess {k : Nat} (M : Fn K mg "place_of_guess" s_place_of_guess p_place_of_guess) (mrv : mg "reversed" = none) : FnOk P w K mg base CX0 (k + 1) M.f M.fd p_place_of_guess (spPlace K) := by
  refine M.F.ok sc_place_of_guess (fun vs H Q E h => ?_) (fun cdv A outer s H vs Q E hr h => ?_)
  · obtain ⟨a, b, c, l, q, rfl, _⟩ := h
    rfl
  · obtain ⟨a, b, c, l, q, rfl, hA, hB, hq, hl, hc, k⟩ := h
    refine ⟨_, pss_cons (ps_set (i := 3) sc_place_of_guess.nd rfl (.inl rfl) pe_int)
      (pss_cons (ps_for PassesOwn.never rfl (pi_revA (by rfl) mrv (pv 1)) (pg_name (i := 4) sc_place_of_guess.nd rfl (.inl rfl))
        (pss_one (ps_set (i := 3) sc_place_of_guess.nd rfl (.inl rfl) (pe_op op_add (pe_op op_mul (pv 3) (pv 2)) (pe_ix ix_list (pv 0) (pv 4) (fun _ _ => rfl))))))
      (pss_one (ps_ret (pv 3)))), ?_⟩
    refine ⟨.ref b, rfl, b, nv l, rfl, .inl ⟨hB, for_Itv (K := K) (a := b) (xs := nv l) (fun i σ H' => (∃ y, σ = [some (.ref a), some (.ref b), some (.int (q : Int)), some (.int ((dig q c (l.drop (l.length - i)) : Nat) : Int)), y]) ∧ H' = H) ⟨⟨none, ?_⟩, rfl⟩ (fun _ _ _ h => by rw [h.2]; exact hB) ?_ ?_⟩⟩
    · rw [Nat.sub_zero, List.drop_length]
      rfl
    · rintro i x σ H' hi hx ⟨⟨y, rfl⟩, rfl⟩
      rw [nv_len] at hi hx
      obtain ⟨u, hu, rfl⟩ := nv_inv hx
      have hj : l.length - 1 - i < l.length := by omega
      have hm : u ∈ l := List.mem_of_getElem? hu
      obtain ⟨h1, h2⟩ := hc u hm
      have hd : l.drop (l.length - (i + 1)) = u :: l.drop (l.length - i) := by
        have e1 : l.length - (i + 1) = l.length - 1 - i := by omega
        have e2 : l.length - i = l.length - 1 - i + 1 := by omega
        rw [e1, e2, List.drop_eq_getElem_cons hj]
        congr 1
        rw [List.getElem?_eq_getElem hj] at hu
        exact Option.some.inj hu
      have hb : dig q c (l.drop (l.length - i)) < 2 ^ 64 := by
        have z := dig_lt (q := q) (c := c) (l := l.drop (l.length - i)) fun u' hu' => (hc u' (List.mem_of_mem_drop hu')).2
        have z2 : q ^ (l.drop (l.length - i)).length ≤ 65536 := pow_big hq (by rw [List.length_drop]; omega)
        omega
      refine ⟨.int ((dig q c (l.drop (l.length - i)) : Nat) : Int), rfl, .int (q : Int), rfl, _, _, rfl, rfl, .inl ⟨by omega, by omega⟩, .ref a, rfl, .int (u : Int), rfl, a, _, _, _, rfl, rfl, hA, atI_nat (nv_at h1), _, _, rfl, rfl, ⟨some (.int (u : Int)), ?_⟩, rfl⟩
      rw [hd]
      show [_, _, _, some (V.int (((dig q c (l.drop (l.length - i)) : Nat) : Int) * (q : Int) + ((c.getD u 0 : Nat) : Int))), _] = [_, _, _, some (V.int ((c.getD u 0 + q * dig q c (l.drop (l.length - i)) : Nat) : Int)), _]
      rw [Int.natCast_add, Int.natCast_mul, Int.mul_comm, Int.add_comm]
    · rintro σ H' ⟨⟨y, rfl⟩, rfl⟩
      refine ⟨_, rfl, ?_⟩
      rw [nv_len, Nat.sub_self, List.drop_zero]
      exact k

/-! ### guesses_in_row -/
/-- at S a list of lists: whom each sees -/
def SightsAt (K : PySem.W.Frag) (H : Hp) (S : Addr) (g : List Nat) (m : Nat) : Prop := ∃ rs : List Addr, SqL K H S (rs.map V.ref) ∧ rs.length = m ∧ ∀ v, v < m → ∃ r, rs[v]? = some r ∧ SqL K H r (nv (Sn88.seen g v))
theorem SightsAt.same {H H' : Hp} {S : Addr} {g : List Nat} {m : Nat} (h : SightsAt K H S g m) (sm : Same H H') : SightsAt K H' S g m := by
  obtain ⟨rs, h1, h2, h3⟩ := h
  refine ⟨rs, sm.seq h1, h2, fun v hv => ?_⟩
  obtain ⟨r, e1, e2⟩ := h3 v hv
  exact ⟨r, e1, sm.seq e2⟩
def spGuesses (K : PySem.W.Frag) : Sp := fun vs H Q _ => ∃ (a S b : Addr) (g c t : List Nat) (n q : Nat), vs = [.ref a, .ref S, .int (q : Int), .ref b] ∧ SqL K H a (nv c) ∧ SightsAt K H S g n ∧ SqL K H b (nv t) ∧ g.length = n ∧ n ≤ 8 ∧ q ≤ 4 ∧ c.length = n ∧ (∀ u, u < n → c.getD u 0 < q) ∧ t.length = Sn88.start q g n ∧
  ∀ H' D, Same H H' → H D = none → H' D = some (.lst (nv (guessesTo q g t c n))) → Q (.ref D) H'
theorem ok_guesses_in_row {k : Nat} (M : Fn K mg "guesses_in_row" s_guesses_in_row p_guesses_in_row) (TL : Fn K mg "place_of_guess" s_place_of_guess p_place_of_guess)
    (TP : Fn K mg "power" s_power p_power) (mr : mg "range" = none) (ml : mg "len" = none) (mrv : mg "reversed" = none) : FnOk P w K mg base CX0 (k + 2) M.f M.fd p_guesses_in_row (spGuesses K) := by
  have GL : FnOk P w K mg base CX0 (k + 1) TL.f TL.fd p_place_of_guess (spPlace K) := ok_place_of_guess TL mrv
  have GP : FnOk P w K mg base CX0 (k + 1) TP.f TP.fd p_power spPower := ok_power TP mr
  refine M.F.ok sc_guesses_in_row (fun vs H Q E h => ?_) (fun cdv A outer s H vs Q E hr h => ?_)
  · obtain ⟨a, S, b, g, c, t, n, q, rfl, _⟩ := h
    rfl
  · obtain ⟨a, S, b, g, c, t, n, q, rfl, hA, hS, hB, hl, hn, hq, hcl, hc, ht, k⟩ := h
    refine ⟨_, pss_cons (ps_set (i := 4) sc_guesses_in_row.nd rfl (.inl rfl) (pe_lst pa_nil))
      (pss_cons (ps_set (i := 5) sc_guesses_in_row.nd rfl (.inl rfl) pe_int)
      (pss_cons (ps_for PassesOwn.never rfl (pi_list (pv 1)) (pg_name (i := 6) sc_guesses_in_row.nd rfl (.inl rfl))
        (pss_cons (ps_expr (pe_bm PySem.F.plainAttrs_list PySem.F.slot_list_append PySem.F.type_list_append mt_append (pv 4)
            (pa_cons (pe_ix ix_list (pv 3) (pe_op op_add (pv 5) (pe_call GL hr (by rfl) TL.g TL.F.kp TL.b .nil pass0 (pa_cons (pv 0) (pa_cons (pv 6) (pa_cons (pv 2) pa_nil))))) (fun _ _ => rfl)) pa_nil)))
        (pss_one (ps_set (i := 5) sc_guesses_in_row.nd rfl (.inl rfl) (pe_op op_add (pv 5) (pe_call GP hr (by rfl) TP.g TP.F.kp TP.b .nil pass0 (pa_cons (pv 2) (pa_cons (pe_callB call_len_seq (by rfl) ml PySem.boot_len (pa_cons (pv 6) pa_nil)) pa_nil))))))))
      (pss_one (ps_ret (pv 4))))), ?_⟩
    obtain ⟨rs, hR, hrl, hrs⟩ := hS
    refine ⟨Nat.zero_le _, fun o no => ?_⟩
    refine ⟨.ref S, rfl, S, rfl, ⟨_, (same_upd no).seq hR⟩, for_list (K := K) (a := S) (xs := rs.map V.ref) (fun i σ H' => (∃ y, σ = [some (.ref a), some (.ref S), some (.int (q : Int)), some (.ref b), some (.ref o), some (.int ((Sn88.start q g i : Nat) : Int)), y]) ∧ Same H H' ∧ H' o = some (.lst (nv (guessesTo q g t c i)))) ⟨⟨none, rfl⟩, same_upd no, upd_same⟩ (fun _ _ _ _ h => h.2.1.seq hR) ?_ ?_⟩
    · rintro v x σ H' hx ⟨⟨y, rfl⟩, sm, ho⟩
      have hv : v < n := by
        obtain ⟨h1, _⟩ := List.getElem?_eq_some_iff.mp hx
        rw [List.length_map, hrl] at h1
        exact h1
      obtain ⟨r, e1, hr'⟩ := hrs v hv
      have ex : x = .ref r := by
        rw [List.getElem?_map, e1] at hx
        exact (Option.some.inj hx).symm
      subst ex
      have hpl : Sn88.start q g v + Sn88.entry q g v c < t.length := by
        rw [ht]
        exact place_lt hv fun u hu => hc u (by omega)
      have hst := start_succ q g v
      have hb : (nv (Sn88.seen g v)).length ≤ 8 := by
        rw [nv_len]
        exact Nat.le_trans (seen_len g v) (by omega)
      refine ⟨.ref o, rfl, .inl ⟨rfl, _, sq_new ho⟩, .ref b, rfl, .int ((Sn88.start q g v : Nat) : Int), rfl, .ref a, rfl, .ref r, rfl, .int (q : Int), rfl, a, r, c, Sn88.seen g v, q, rfl, sm.seq hA, sm.seq hr', hq, Nat.le_trans (seen_len g v) (by omega), fun u hu => ?_, _, _, rfl, rfl, b, nv t, _, .int ((Sn88.guess q g t v c : Nat) : Int), rfl, rfl, sm.seq hB, ?_, o, _, _, rfl, rfl, ho, ?_, ?_⟩
      · have h1 := seen_lt hu
        exact ⟨by omega, hc u (by omega)⟩
      · have e := atI_nat (nv_at hpl)
        rw [Int.natCast_add] at e
        exact e
      · rw [nv_len, guessesTo_len]
        exact ltLine (by omega)
      · refine ⟨.int ((Sn88.start q g v : Nat) : Int), rfl, .int (q : Int), rfl, .ref r, rfl, r, nv (Sn88.seen g v), rfl, .inl ((same_at no sm).seq hr'), q, (nv (Sn88.seen g v)).length, rfl, hq, hb, _, _, rfl, rfl, ⟨some (.ref r), ?_⟩, same_at no sm, ?_⟩
        · rw [hst, nv_len]
          rfl
        · rw [upd_same, guessesTo_succ, ← nv_app]
    · rintro σ H' ⟨⟨y, rfl⟩, sm, ho⟩
      rw [List.length_map, hrl] at ho
      exact ⟨_, rfl, k H' o sm no ho⟩

/-! ### right_guesses -/
def spRight (K : PySem.W.Frag) : Sp := fun vs H Q _ => ∃ (a b : Addr) (c l : List Nat), vs = [.ref a, .ref b] ∧ SqL K H a (nv c) ∧ SqL K H b (nv l) ∧ l.length ≤ c.length ∧ l.length ≤ 8 ∧ ∀ H', Same H H' → Q (.int (((rightTo l c l.length).length : Nat) : Int)) H'
theorem ok_right_guesses {k : Nat} (M : Fn K mg "right_guesses" s_right_guesses p_right_guesses) (ml : mg "len" = none) (men : mg "enumerate" = none) : FnOk P w K mg base CX0 (k + 1) M.f M.fd p_right_guesses (spRight K) := by
  refine M.F.ok sc_right_guesses (fun vs H Q E h => ?_) (fun cdv A outer s H vs Q E hr h => ?_)
  · obtain ⟨a, b, c, l, rfl, _⟩ := h
    rfl
  · obtain ⟨a, b, c, l, rfl, hA, hB, hlc, hl8, k⟩ := h
    refine ⟨_, pss_one (ps_ret (pe_callB call_len_seq (by rfl) ml PySem.boot_len (pa_cons
      (pe_lc (own := [("v", 2), ("guess", 3)]) (g := gTup K 2 (gCons (gName 2) (gCons (gName 3) gNil))) rfl sc_right_guesses.nd (pi_enum (by rfl) men (pa_cons (pv 1) pa_nil))
        (blkOk_by (own := [("v", 2), ("guess", 3)]) (N := n_right_guesses) (sc := defScope s_right_guesses) (by decide +kernel)) (fun _ _ _ _ _ => pg_tup rfl (pgs_cons (pg_name (i := 2) sc_right_guesses.nd rfl (.inl rfl)) (pgs_cons (pg_name (i := 3) sc_right_guesses.nd rfl (.inl rfl)) pgs_nil)))
        (fun _ _ _ _ _ => pts_one (pt_cmpR op_eq (pv 3) (pe_ix (show IxR _ (rIxL K) from ix_list) (pv 0) (pv 2) (fun _ _ => rfl)) (nomark _))) (fun _ _ _ _ _ => pv 2)) pa_nil))), ?_⟩
    refine ⟨.ref b, rfl, b, nv l, rfl, hB, fun D hD => lc_Ite (K := K) (a := b) (xs := nv l) (fun i H' => Same H H' ∧ H' D = some (.lst (nv (rightTo l c i)))) ⟨same_upd hD, upd_same⟩ (fun _ _ h => h.1.seq hB) ?_ ?_⟩
    · rintro v x T H' hx ⟨sm, hd⟩ hT
      obtain ⟨u, hu, rfl⟩ := nv_inv hx
      have hvl : v < l.length := (List.getElem?_eq_some_iff.mp hu).1
      have eu : l.getD v 0 = u := by
        rw [List.getD_eq_getElem?_getD, hu]
        rfl
      have sm2 : Same H (upd H' T (.tup [.int (v : Int), .int (u : Int)])) := sm.trans (same_upd hT)
      refine ⟨T, [.int (v : Int), .int (u : Int)], rfl, .inl (.inl upd_same), rfl, .int (v : Int), [.int (u : Int)], rfl, .int (u : Int), [], rfl, rfl, rfl, ?_⟩
      refine ⟨.int (u : Int), rfl, .ref a, rfl, .int (v : Int), rfl, a, nv c, _, .int ((c.getD v 0 : Nat) : Int), rfl, rfl, sm2.seq hA, atI_nat (nv_at (by omega)), rfl, _, rfl, ?_⟩
      refine ifB (fun e => ?_) (fun e => ?_)
      · rw [dec_int] at e
        have e2 := of_decide_eq_true e
        refine ⟨.int (v : Int), rfl, _, same_upd hT _ _ hd, ?_, same_at hD sm2, ?_⟩
        · rw [nv_len]
          exact ltLine (Nat.le_trans (rightTo_len l c v) (by omega))
        · rw [upd_same, nv_app, rightTo_succ, if_pos (eu.trans e2)]
      · rw [dec_int] at e
        have e2 := of_decide_eq_false e
        refine ⟨sm2, ?_⟩
        rw [rightTo_succ, if_neg (fun z => e2 (eu.symm.trans z)), List.append_nil]
        exact same_upd hT _ _ hd
    · rintro H' ⟨sm, hd⟩
      rw [nv_len] at hd
      refine ⟨D, nv (rightTo l c l.length), rfl, .inl (sq_new hd), ?_⟩
      rw [nv_len]
      exact k H' sm

/-! ### is_won -/
def spWon (K : PySem.W.Frag) : Sp := fun vs H Q _ => ∃ (a b : Addr) (c l : List Nat), vs = [.ref a, .ref b] ∧ SqL K H a (nv c) ∧ SqL K H b (nv l) ∧ l.length ≤ c.length ∧ l.length ≤ 8 ∧ ∀ H', Same H H' → Q (.bl (wonB l c)) H'
theorem count_two (l : List Nat) : (outs l).count 2 = l.count 2 := by
  unfold outs
  induction l with
  | nil => rfl
  | cons x l ih =>
    rw [List.map_cons, List.count_cons, List.count_cons, ih]
    congr 1
    by_cases h : x = 2
    · subst h
      rfl
    · rw [if_neg (fun z => h (beq_iff_eq.mp z)), if_neg]
      intro z
      have z' := beq_iff_eq.mp z
      omega
theorem ok_is_won {k : Nat} {tP : Tok} (M : Fn K mg "is_won" s_is_won p_is_won) (TR : Fn K mg "right_guesses" s_right_guesses p_right_guesses) (mP : mg "PASSED" = some (.int 2 tP)) (ml : mg "len" = none) (men : mg "enumerate" = none) : FnOk P w K mg base CX0 (k + 2) M.f M.fd p_is_won (spWon K) := by
  have GR : FnOk P w K mg base CX0 (k + 1) TR.f TR.fd p_right_guesses (spRight K) := ok_right_guesses TR ml men
  refine M.F.ok sc_is_won (fun vs H Q E h => ?_) (fun cdv A outer s H vs Q E hr h => ?_)
  · obtain ⟨a, b, c, l, rfl, _⟩ := h
    rfl
  · obtain ⟨a, b, c, l, rfl, hA, hB, hlc, hl8, k⟩ := h
    refine ⟨_, pss_cons (ps_set (i := 2) sc_is_won.nd rfl (.inl rfl) (pe_call GR hr (by rfl) TR.g TR.F.kp TR.b .nil pass0 (pa_cons (pv 0) (pa_cons (pv 1) pa_nil))))
      (pss_one (ps_ret (pe_and (pe_cmpR op_gt (pv 2) pe_int (nomark _))
        (pe_one (pe_cmpR op_eq (pe_op op_add (pv 2) (pe_bm PySem.F.plainAttrs_list PySem.F.slot_list_count PySem.F.type_list_count mt_lcount (pv 1) (pa_cons (pe_glob (v := V.int 2) rfl mP ⟨_, rfl⟩) pa_nil)))
          (pe_callB call_len_seq (by rfl) ml PySem.boot_len (pa_cons (pv 1) pa_nil)) (nomark _)))))), ?_⟩
    refine ⟨.ref a, rfl, .ref b, rfl, a, b, c, l, rfl, hA, hB, hlc, hl8, fun H1 sm1 => ?_⟩
    have e := k H1 sm1
    unfold wonB at e
    refine ⟨.int (((rightTo l c l.length).length : Nat) : Int), rfl, _, _, rfl, rfl, _, rfl, ifB (fun z => ?_) (fun z => ?_)⟩
    · have h1 : 0 < (rightTo l c l.length).length := by
        have := of_decide_eq_true z
        omega
      rw [decide_eq_true h1, Bool.true_and] at e
      refine ⟨.int (((rightTo l c l.length).length : Nat) : Int), rfl, .ref b, rfl, .inl ⟨rfl, _, sm1.seq hB⟩, b, outs l, 2, rfl, rfl, sm1.seq hB, _, _, rfl, rfl, .ref b, rfl, b, nv l, rfl, .inl (sm1.seq hB), rfl, ?_⟩
      have e2 : decide (V.int ((((rightTo l c l.length).length : Nat) : Int) + (((outs l).count 2 : Nat) : Int)) = V.int (((nv l).length : Nat) : Int)) = decide ((rightTo l c l.length).length + l.count 2 = l.length) := by
        rw [← Int.natCast_add, Hb.dec_int, count_two, nv_len]
      rw [← e2] at e
      exact e
    · have h1 : ¬ 0 < (rightTo l c l.length).length := by
        have := of_decide_eq_false z
        omega
      rw [decide_eq_false h1, Bool.false_and] at e
      exact e

/-! ### passing -/
def spMain (K : PySem.W.Frag) : Sp := fun vs H Q _ => ∃ (a : Addr) (t : List Nat) (n : Int), vs = [.int n, .ref a] ∧ SqL K H a (nv t) ∧ (1 ≤ n → n ≤ 8 → t.length = n.toNat * 2 ^ (n.toNat - 1)) ∧ ∀ H' p, H' p = some (.lst ((PySn88.passing n (outs t)).map V.int)) → Q (.ref p) H'
theorem pass_2 {n : Int} {t : List Nat} (h : ¬ (1 ≤ n ∧ n ≤ 8)) : PySn88.passing n (outs t) = [-2] := by
  rw [pass_due]
  unfold passIs
  rw [if_pos]
  cases e : Sn88.between n 1 8 with
  | false => rfl
  | true =>
    unfold Sn88.between at e
    simp only [Bool.and_eq_true, decide_eq_true_eq] at e
    exact absurd e h
theorem pass_n {n : Int} (h1 : 1 ≤ n) (h2 : n ≤ 8) : ¬ Sn88.between n 1 8 = false := fun e => by
  have z : Sn88.between n 1 8 = true := by
    unfold Sn88.between
    simp only [Bool.and_eq_true, decide_eq_true_eq]
    exact ⟨h1, h2⟩
  rw [z] at e
  cases e
theorem pass_3 {n : Int} {t : List Nat} (h1 : 1 ≤ n) (h2 : n ≤ 8) (h : ¬ ∀ x ∈ t, x < 3) : PySn88.passing n (outs t) = [-3] := by
  rw [pass_due]
  unfold passIs
  rw [if_neg (pass_n h1 h2), if_pos]
  cases e : Sn88.passGood n t with
  | false => rfl
  | true =>
    unfold Sn88.passGood Sn88.below at e
    simp only [Bool.and_eq_true, List.all_eq_true, decide_eq_true_eq] at e
    exact absurd e.2 h
theorem pass_w {n : Int} {t : List Nat} (h1 : 1 ≤ n) (h2 : n ≤ 8) (hl : t.length = n.toNat * 2 ^ (n.toNat - 1)) (h : ∀ x ∈ t, x < 3) : PySn88.passing n (outs t) = [((wonTo n.toNat t (2 ^ n.toNat) : Nat) : Int)] := by
  rw [pass_due]
  unfold passIs
  have e : Sn88.passGood n t = true := by
    unfold Sn88.passGood Sn88.below
    simp only [Bool.and_eq_true, List.all_eq_true, decide_eq_true_eq, beq_iff_eq]
    exact ⟨hl, h⟩
  rw [if_neg (pass_n h1 h2), if_neg (by rw [e]; decide)]
theorem but_seen {n v : Nat} (hn : n ≤ 8) (hv : v < n) : butTo v n = Sn88.seen (Sn88.crowd n) v := (crowd_seen (by omega) hv).symm
theorem ok_main {tP : Tok} (M : Fn K mg "passing" s_main p_main) (TA : Fn K mg "all_below" s_all_below p_all_below) (TB : Fn K mg "all_but" s_all_but p_all_but) (TP : Fn K mg "power" s_power p_power) (TH : Fn K mg "hats_of_row" s_hats_of_row p_hats_of_row)
    (TL : Fn K mg "place_of_guess" s_place_of_guess p_place_of_guess) (TU : Fn K mg "guesses_in_row" s_guesses_in_row p_guesses_in_row) (TR : Fn K mg "right_guesses" s_right_guesses p_right_guesses) (TW : Fn K mg "is_won" s_is_won p_is_won)
    (mP : mg "PASSED" = some (.int 2 tP)) (mr : mg "range" = none) (ml : mg "len" = none) (mrv : mg "reversed" = none) (men : mg "enumerate" = none) (mli : mg "list" = none) : FnOk P w K mg base CX0 3 M.f M.fd p_main (spMain K) := by
  have GA : FnOk P w K mg base CX0 2 TA.f TA.fd p_all_below (spBelow K) := ok_all_below (k := 1) TA
  have GB : FnOk P w K mg base CX0 2 TB.f TB.fd p_all_but spBut := ok_all_but (k := 1) TB mr
  have GP : FnOk P w K mg base CX0 2 TP.f TP.fd p_power spPower := ok_power (k := 1) TP mr
  have GH : FnOk P w K mg base CX0 2 TH.f TH.fd p_hats_of_row spHats := ok_hats_of_row (k := 1) TH mr mli mrv
  have GU : FnOk P w K mg base CX0 2 TU.f TU.fd p_guesses_in_row (spGuesses K) := ok_guesses_in_row (k := 0) TU TL TP mr ml mrv
  have GW : FnOk P w K mg base CX0 2 TW.f TW.fd p_is_won (spWon K) := ok_is_won (k := 0) TW TR mP ml men
  refine M.F.ok (k := 2) sc_main (fun vs H Q E h => ?_) (fun cdv A outer s H vs Q E hr h => ?_)
  · obtain ⟨a, t, n, rfl, _⟩ := h
    rfl
  · obtain ⟨a, t, n, rfl, hS, hlen, k⟩ := h
    refine ⟨_, pss_cons (ps_if (PW.pt (pw_or (pt_cmpR op_lt (pv 0) pe_int (nomark _)) (pw_or1 (pt_cmpR op_gt (pv 0) pe_int (nomark _))))) (pss_one (ps_ret (pe_lst (pa_cons (pe_un un_neg pe_int) pa_nil)))) pss_nil)
      (pss_cons (ps_if (pt_not (pt_val (pe_call GA hr (by rfl) TA.g TA.F.kp TA.b .nil pass0 (pa_cons (pe_op op_add (pe_glob (v := V.int 2) rfl mP ⟨_, rfl⟩) pe_int) (pa_cons (pv 1) pa_nil))))) (pss_one (ps_ret (pe_lst (pa_cons (pe_un un_neg pe_int) pa_nil)))) pss_nil)
      (pss_cons (ps_setLc (i := 2) (own := [("v", 3)]) (g := gName 3) (tt := tYes) rfl sc_main.nd rfl rfl (sw_true rfl rfl rfl (by decide +kernel)) (pi_range1 (by rfl) mr (pa_cons (pv 0) pa_nil))
        (blkOk_by (own := [("v", 3)]) (N := n_main) (sc := defScope s_main) (by decide +kernel)) (fun _ _ _ _ _ => pg_name (i := 3) sc_main.nd rfl (Or.inl rfl)) (fun _ _ _ _ _ => pts_nil)
        (fun _ _ _ _ _ => pe_call GB hr (by rfl) TB.g TB.F.kp TB.b .nil pass0 (pa_cons (pv 3) (pa_cons (pv 0) pa_nil))))
      (pss_cons (ps_set (i := 4) sc_main.nd rfl (.inl rfl) pe_int)
      (pss_cons (ps_for PassesOwn.never rfl (pi_range1 (by rfl) mr (pa_cons (pe_call GP hr (by rfl) TP.g TP.F.kp TP.b .nil pass0 (pa_cons pe_int (pa_cons (pv 0) pa_nil))) pa_nil)) (pg_name (i := 5) sc_main.nd rfl (.inl rfl))
        (pss_cons (ps_set (i := 6) sc_main.nd rfl (.inl rfl) (pe_call GH hr (by rfl) TH.g TH.F.kp TH.b .nil pass0 (pa_cons (pv 5) (pa_cons (pv 0) (pa_cons pe_int pa_nil)))))
        (pss_one (ps_if (pt_val (pe_call GW hr (by rfl) TW.g TW.F.kp TW.b .nil pass0 (pa_cons (pv 6) (pa_cons (pe_call GU hr (by rfl) TU.g TU.F.kp TU.b .nil pass0 (pa_cons (pv 6) (pa_cons (pv 2) (pa_cons pe_int (pa_cons (pv 1) pa_nil))))) pa_nil))))
          (pss_one (ps_set (i := 4) sc_main.nd rfl (.inl rfl) (pe_op op_add (pv 4) pe_int))) pss_nil))))
      (pss_one (ps_ret (pe_lst (pa_cons (pv 4) pa_nil)))))))), ?_⟩
    have one : 1 ≤ sizeLine := by decide
    have bad2 : ¬ (1 ≤ n ∧ n ≤ 8) → ∀ p, H p = none → Q (.ref p) (upd H p (.lst [.int (-2)])) := fun hb p _ => k _ p (by
      rw [upd_same, pass_2 hb]
      rfl)
    refine ⟨_, rfl, _, _, rfl, rfl, _, rfl, ifB (fun c => iteT ⟨_, rfl, one, bad2 fun hb => ?_⟩) (fun c1 => ?_)⟩
    · have := of_decide_eq_true c
      omega
    refine ⟨_, rfl, _, _, rfl, rfl, _, rfl, ifB (fun c => ⟨_, rfl, one, bad2 fun hb => ?_⟩) (fun c2 => ?_)⟩
    · have := of_decide_eq_true c
      omega
    have n1 : 1 ≤ n := by
      have := of_decide_eq_false c1
      omega
    have n8 : n ≤ 8 := by
      have := of_decide_eq_false c2
      omega
    have hl := hlen n1 n8
    obtain ⟨n', rfl⟩ := Int.eq_ofNat_of_zero_le (show 0 ≤ n by omega)
    have n8' : n' ≤ 8 := by omega
    rw [Int.toNat_natCast] at hl
    refine ⟨_, _, rfl, rfl, .ref a, rfl, a, t, 2 + 1, rfl, hS, _, rfl, ifB (fun c => ⟨_, rfl, one, fun p hp => k _ p ?_⟩) (fun c3 => ?_)⟩
    · rw [upd_same, pass_3 n1 n8 fun hb => ?_]
      · rfl
      · have e : (t.all fun x => decide ((x : Int) < 2 + 1)) = true := List.all_eq_true.mpr fun x hx => decide_eq_true (by have := hb x hx; omega)
        rw [e] at c
        cases c
    have h3 : ∀ x ∈ t, x < 3 := fun x hx => by
      have e9 : (t.all fun x => decide ((x : Int) < 2 + 1)) = true := by
        cases e : t.all fun x => decide ((x : Int) < 2 + 1) with
        | true => rfl
        | false =>
          rw [e] at c3
          cases c3
      have z := of_decide_eq_true (List.all_eq_true.mp e9 x hx)
      omega
    have hans := pass_w n1 n8 (by rw [Int.toNat_natCast]; exact hl) h3
    rw [Int.toNat_natCast] at hans
    rw [hans] at k
    have hst : t.length = Sn88.start 2 (Sn88.crowd n') n' := by rw [hl, crowd_start (by omega) n' (Nat.le_refl _)]
    refine ⟨.int (n' : Int), rfl, (n' : Int), rfl, by omega, by omega, fun S hSn => lc_range0 (n := n') (fun i H' => Same H H' ∧ ∃ rs : List Addr, H' S = some (.lst (rs.map V.ref)) ∧ rs.length = i ∧ ∀ v, v < i → ∃ r, rs[v]? = some r ∧ r ≠ S ∧ SqL K H' r (nv (butTo v n'))) ⟨same_upd hSn, [], upd_same, rfl, fun v hv => absurd hv (Nat.not_lt_zero v)⟩ ?_ ?_⟩
    · rintro v H' hv ⟨sm, rs, h1, h2, h3⟩
      refine ⟨rfl, .int (v : Int), rfl, .int (n' : Int), rfl, v, n', rfl, n8', fun H2 D sm2 hD hd => ?_⟩
      have h1' : H2 S = some (.lst (rs.map V.ref)) := sm2 _ _ h1
      have hDS : D ≠ S := fun e => by
        rw [e, h1] at hD
        cases hD
      refine ⟨_, h1', ?_, same_at hSn (sm.trans sm2), rs ++ [D], ?_, ?_, fun v' hv' => ?_⟩
      · rw [List.length_map]
        exact small1000 (by omega)
      · rw [upd_same, List.map_append]
        rfl
      · rw [List.length_append, h2]
        rfl
      · by_cases e : v' = v
        · subst e
          refine ⟨D, ?_, hDS, .inl (.inl ?_)⟩
          · rw [List.getElem?_append_right (by omega), h2, Nat.sub_self]
            rfl
          · rw [upd_ne hDS]
            exact hd
        · obtain ⟨r, e1, e2, e3⟩ := h3 v' (by omega)
          refine ⟨r, ?_, e2, ?_⟩
          · rw [List.getElem?_append_left (by omega)]
            exact e1
          · have e4 := sm2.seq e3
            rcases e4 with (z | ⟨o, z⟩) | z
            · exact .inl (.inl (by rw [upd_ne e2]; exact z))
            · exact .inl (.inr ⟨o, by rw [upd_ne e2]; exact z⟩)
            · exact .inr z
    · rintro H1 ⟨sm, rs, h1, h2, h3'⟩
      have hSi : SightsAt K H1 S (Sn88.crowd n') n' := ⟨rs, .inl (.inl h1), h2, fun v hv => by
        obtain ⟨r, e1, _, e3⟩ := h3' v hv
        rw [but_seen n8' hv] at e3
        exact ⟨r, e1, e3⟩⟩
      have hp : 2 ^ n' ≤ 65536 := pow_big (by omega) n8'
      refine ⟨.int (n' : Int), rfl, 2, n', rfl, by omega, n8', ((2 ^ n' : Nat) : Int), rfl, (by generalize 2 ^ n' = m at hp ⊢; omega), (by generalize 2 ^ n' = m at hp ⊢; omega), for_range0 (n := 2 ^ n') (fun i σ H' => (∃ x y z, σ = [some (.int (n' : Int)), some (.ref a), some (.ref S), x, some (.int ((wonTo n' t i : Nat) : Int)), y, z]) ∧ Same H1 H') ⟨⟨_, _, _, rfl⟩, Same.refl H1⟩ ?_ ?_⟩
      · rintro r σ H2 hr2 ⟨⟨x, y, z, rfl⟩, sm2⟩
        refine ⟨.int (r : Int), rfl, .int (n' : Int), rfl, r, n', 2, rfl, n8', by omega, by omega, fun H3 C sm3 hC hc => ?_⟩
        have hrow : ∀ u, u < n' → (rowOf 2 n' r).getD u 0 < 2 := fun u _ => rowOf_lt (by omega) u
        refine ⟨.ref C, rfl, .ref C, rfl, .ref S, rfl, .ref a, rfl, C, S, a, Sn88.crowd n', rowOf 2 n' r, t, n', 2, rfl, sq_new hc, hSi.same (sm2.trans sm3), (sm.trans (sm2.trans sm3)).seq hS, crowd_len n', n8', by omega, rowOf_len 2 n' r, hrow, hst, fun H4 G sm4 hG hg => ?_⟩
        refine ⟨C, G, rowOf 2 n' r, guessesTo 2 (Sn88.crowd n') t (rowOf 2 n' r) n', rfl, sq_new (sm4 _ _ hc), sq_new hg, ?_, ?_, fun H5 sm5 => ?_⟩
        · rw [guessesTo_len, rowOf_len]
          exact Nat.le_refl _
        · rw [guessesTo_len]
          exact n8'
        · have sm6 : Same H1 H5 := sm2.trans (sm3.trans (sm4.trans sm5))
          have ew := wonTo_succ n' t r
          rw [won_is hrow]
          refine ⟨_, rfl, ifB (fun c => ?_) (fun c => ?_)⟩
          · rw [if_pos c] at ew
            refine ⟨.int ((wonTo n' t r : Nat) : Int), rfl, _, _, rfl, rfl, ⟨x, some (.int (r : Int)), some (.ref C), ?_⟩, sm6⟩
            rw [ew]
            rfl
          · rw [if_neg (by rw [c]; decide)] at ew
            refine ⟨⟨x, some (.int (r : Int)), some (.ref C), ?_⟩, sm6⟩
            rw [ew]
            rfl
      · rintro σ H2 ⟨⟨x, y, z, rfl⟩, sm2⟩
        exact ⟨_, rfl, one, fun p hp => k _ p (by
          rw [upd_same]
          rfl)⟩
theorem open_pass {K : PySem.W.Frag} {H : Hp} {xs : List V} {n : Int} {t : List Int} (h : DwAll K H xs [PySem.W.WData.int n, PySem.W.WData.list (t.map PySem.W.WData.int)]) :
    ∃ a, xs = [.int n, .ref a] ∧ SqL K H a (t.map V.int) := by
  cases h with
  | cons h1 h =>
    cases h with
    | cons h2 h =>
      cases h
      cases h1
      cases h2 with
      | lst s4 a4 =>
        have e4 := ints_dw t _ a4
        subst e4
        exact ⟨_, rfl, s4⟩
theorem asked_pass {n : Int} {t : List Int} (h : PySn88.passing_asked n t = true) : ∃ T : List Nat, t = outs T ∧ (1 ≤ n → n ≤ 8 → T.length = n.toNat * 2 ^ (n.toNat - 1)) := by
  have h0 : Sn88Neutral.asked [[[3, n], t]] = true := h
  unfold Sn88Neutral.asked at h0
  rw [Bool.and_eq_true] at h0
  have h1 := h0.1
  rw [List.all_cons, show Sn88Neutral.asked1 [[3, n], t] = (Sn88Neutral.whole32 n && (t.all (fun (z : Int) => Sn88Neutral.natural z 8) && (decide ((t.length : Int) = if 1 ≤ n ∧ n ≤ 8 then n * 2 ^ (n.toNat - 1) else 0)))) from rfl] at h1
  simp only [Bool.and_eq_true, decide_eq_true_eq, List.all_eq_true, Sn88Neutral.natural] at h1
  obtain ⟨⟨_, ht, htl⟩, _⟩ := h1
  refine ⟨Sn88Neutral.nats t, cast_nats (l := t) fun x hx => (ht x hx).1, fun a b => ?_⟩
  rw [if_pos ⟨a, b⟩] at htl
  obtain ⟨n', rfl⟩ := Int.eq_ofNat_of_zero_le (show 0 ≤ n by omega)
  rw [Int.toNat_natCast] at htl ⊢
  unfold Sn88Neutral.nats
  rw [List.length_map]
  have e : ((n' : Int) * 2 ^ (n' - 1)) = ((n' * 2 ^ (n' - 1) : Nat) : Int) := by
    rw [Int.natCast_mul, Int.natCast_pow]
    rfl
  rw [e] at htl
  omega
end

/-! ### the end -/
theorem all_mk {P : Program} {w : World} {K : PySem.W.Frag} {h : Heap} {mg : Str → Option Value} {fa f1 f2 f3 f4 f5 f6 f7 f8 f9 : Addr} (X : K.In h) (G : h.Ns mainGlobals mg) (hfa : mg "passing" = some (.ref fa))
    {od1 an1 od2 an2 od3 an3 od4 an4 od5 an5 od6 an6 od7 an7 od8 an8 od9 an9 : Option Addr} {sl1 sl2 sl3 sl4 sl5 sl6 sl7 sl8 sl9 : Array (Option Value)} {oc1 kV1 dc1 pm1 cd1 ct1 oc2 kV2 dc2 pm2 cd2 ct2 oc3 kV3 dc3 pm3 cd3 ct3 oc4 kV4 dc4 pm4 cd4 ct4 oc5 kV5 dc5 pm5 cd5 ct5 oc6 kV6 dc6 pm6 cd6 ct6 oc7 kV7 dc7 pm7 cd7 ct7 oc8 kV8 dc8 pm8 cd8 ct8 oc9 kV9 dc9 pm9 cd9 ct9 : Value} {t_PASSED : Tok}
    (a1 : PySem.W.nsIn K mainGlobals "passing" = some (some (.ref f1))) (l1 : K.lookup f1 = some ⟨oc1, od1, .func (PySem.W.fnOf "passing" "passing" (defArgs s_main) (defBody s_main) (defScope s_main) .none kV1 dc1 pm1 an1 cd1 ct1), sl1⟩) (c1 : PySem.W.codeIn K cd1 "passing" = true) (k1 : PySem.W.keepIn K (.ref f1) = true)
    (a2 : PySem.W.nsIn K mainGlobals "all_below" = some (some (.ref f2))) (l2 : K.lookup f2 = some ⟨oc2, od2, .func (PySem.W.fnOf "all_below" "all_below" (defArgs s_all_below) (defBody s_all_below) (defScope s_all_below) .none kV2 dc2 pm2 an2 cd2 ct2), sl2⟩) (c2 : PySem.W.codeIn K cd2 "all_below" = true) (k2 : PySem.W.keepIn K (.ref f2) = true)
    (a3 : PySem.W.nsIn K mainGlobals "all_but" = some (some (.ref f3))) (l3 : K.lookup f3 = some ⟨oc3, od3, .func (PySem.W.fnOf "all_but" "all_but" (defArgs s_all_but) (defBody s_all_but) (defScope s_all_but) .none kV3 dc3 pm3 an3 cd3 ct3), sl3⟩) (c3 : PySem.W.codeIn K cd3 "all_but" = true) (k3 : PySem.W.keepIn K (.ref f3) = true)
    (a4 : PySem.W.nsIn K mainGlobals "power" = some (some (.ref f4))) (l4 : K.lookup f4 = some ⟨oc4, od4, .func (PySem.W.fnOf "power" "power" (defArgs s_power) (defBody s_power) (defScope s_power) .none kV4 dc4 pm4 an4 cd4 ct4), sl4⟩) (c4 : PySem.W.codeIn K cd4 "power" = true) (k4 : PySem.W.keepIn K (.ref f4) = true)
    (a5 : PySem.W.nsIn K mainGlobals "hats_of_row" = some (some (.ref f5))) (l5 : K.lookup f5 = some ⟨oc5, od5, .func (PySem.W.fnOf "hats_of_row" "hats_of_row" (defArgs s_hats_of_row) (defBody s_hats_of_row) (defScope s_hats_of_row) .none kV5 dc5 pm5 an5 cd5 ct5), sl5⟩) (c5 : PySem.W.codeIn K cd5 "hats_of_row" = true) (k5 : PySem.W.keepIn K (.ref f5) = true)
    (a6 : PySem.W.nsIn K mainGlobals "place_of_guess" = some (some (.ref f6))) (l6 : K.lookup f6 = some ⟨oc6, od6, .func (PySem.W.fnOf "place_of_guess" "place_of_guess" (defArgs s_place_of_guess) (defBody s_place_of_guess) (defScope s_place_of_guess) .none kV6 dc6 pm6 an6 cd6 ct6), sl6⟩) (c6 : PySem.W.codeIn K cd6 "place_of_guess" = true) (k6 : PySem.W.keepIn K (.ref f6) = true)
    (a7 : PySem.W.nsIn K mainGlobals "guesses_in_row" = some (some (.ref f7))) (l7 : K.lookup f7 = some ⟨oc7, od7, .func (PySem.W.fnOf "guesses_in_row" "guesses_in_row" (defArgs s_guesses_in_row) (defBody s_guesses_in_row) (defScope s_guesses_in_row) .none kV7 dc7 pm7 an7 cd7 ct7), sl7⟩) (c7 : PySem.W.codeIn K cd7 "guesses_in_row" = true) (k7 : PySem.W.keepIn K (.ref f7) = true)
    (a8 : PySem.W.nsIn K mainGlobals "right_guesses" = some (some (.ref f8))) (l8 : K.lookup f8 = some ⟨oc8, od8, .func (PySem.W.fnOf "right_guesses" "right_guesses" (defArgs s_right_guesses) (defBody s_right_guesses) (defScope s_right_guesses) .none kV8 dc8 pm8 an8 cd8 ct8), sl8⟩) (c8 : PySem.W.codeIn K cd8 "right_guesses" = true) (k8 : PySem.W.keepIn K (.ref f8) = true)
    (a9 : PySem.W.nsIn K mainGlobals "is_won" = some (some (.ref f9))) (l9 : K.lookup f9 = some ⟨oc9, od9, .func (PySem.W.fnOf "is_won" "is_won" (defArgs s_is_won) (defBody s_is_won) (defScope s_is_won) .none kV9 dc9 pm9 an9 cd9 ct9), sl9⟩) (c9 : PySem.W.codeIn K cd9 "is_won" = true) (k9 : PySem.W.keepIn K (.ref f9) = true)
    (y_PASSED : PySem.W.nsIn K mainGlobals "PASSED" = some (some (.int 2 t_PASSED)))
    (z_range : PySem.W.nsIn K mainGlobals "range" = some none) (z_len : PySem.W.nsIn K mainGlobals "len" = some none) (z_reversed : PySem.W.nsIn K mainGlobals "reversed" = some none) (z_enumerate : PySem.W.nsIn K mainGlobals "enumerate" = some none) (z_list : PySem.W.nsIn K mainGlobals "list" = some none) :
    ∃ fd : FuncData, (∀ (s : Shared) (us : List Value), us.length = (["n", "table"] : List Str).length → BindsTo s fd ⟨us, []⟩ ((["n", "table"] : List Str).zip us)) ∧ ∀ base : Heap, K.In base → base.Ns mainGlobals mg → FnOk P w K mg base CX0 3 fa fd ["n", "table"] (spMain K) := by
  have e := hfa.symm.trans (PySem.W.mg_of X G a1)
  cases e
  have F1 := fun_mk (st := s_main) l1 c1 k1
  have b1 := F1.binds (ps := ["n", "table"]) fun _ _ _ _ _ _ us hl => match us, hl with | [_, _], _ => rfl
  have g1 := PySem.W.mg_of X G a1
  have F2 := fun_mk (st := s_all_below) l2 c2 k2
  have b2 := F2.binds (ps := ["bound", "numbers"]) fun _ _ _ _ _ _ us hl => match us, hl with | [_, _], _ => rfl
  have g2 := PySem.W.mg_of X G a2
  have F3 := fun_mk (st := s_all_but) l3 c3 k3
  have b3 := F3.binds (ps := ["v", "n"]) fun _ _ _ _ _ _ us hl => match us, hl with | [_, _], _ => rfl
  have g3 := PySem.W.mg_of X G a3
  have F4 := fun_mk (st := s_power) l4 c4 k4
  have b4 := F4.binds (ps := ["base", "exponent"]) fun _ _ _ _ _ _ us hl => match us, hl with | [_, _], _ => rfl
  have g4 := PySem.W.mg_of X G a4
  have F5 := fun_mk (st := s_hats_of_row) l5 c5 k5
  have b5 := F5.binds (ps := ["row", "n", "q"]) fun _ _ _ _ _ _ us hl => match us, hl with | [_, _, _], _ => rfl
  have g5 := PySem.W.mg_of X G a5
  have F6 := fun_mk (st := s_place_of_guess) l6 c6 k6
  have b6 := F6.binds (ps := ["hats", "seen", "q"]) fun _ _ _ _ _ _ us hl => match us, hl with | [_, _, _], _ => rfl
  have g6 := PySem.W.mg_of X G a6
  have F7 := fun_mk (st := s_guesses_in_row) l7 c7 k7
  have b7 := F7.binds (ps := ["hats", "sights", "q", "table"]) fun _ _ _ _ _ _ us hl => match us, hl with | [_, _, _, _], _ => rfl
  have g7 := PySem.W.mg_of X G a7
  have F8 := fun_mk (st := s_right_guesses) l8 c8 k8
  have b8 := F8.binds (ps := ["hats", "guesses"]) fun _ _ _ _ _ _ us hl => match us, hl with | [_, _], _ => rfl
  have g8 := PySem.W.mg_of X G a8
  have F9 := fun_mk (st := s_is_won) l9 c9 k9
  have b9 := F9.binds (ps := ["hats", "guesses"]) fun _ _ _ _ _ _ us hl => match us, hl with | [_, _], _ => rfl
  have g9 := PySem.W.mg_of X G a9
  have m_PASSED := PySem.W.mg_of X G y_PASSED
  have m_range := PySem.W.mg_none_of X G z_range
  have m_len := PySem.W.mg_none_of X G z_len
  have m_reversed := PySem.W.mg_none_of X G z_reversed
  have m_enumerate := PySem.W.mg_none_of X G z_enumerate
  have m_list := PySem.W.mg_none_of X G z_list
  exact ⟨PySem.W.fnOf "passing" "passing" (defArgs s_main) (defBody s_main) (defScope s_main) .none kV1 dc1 pm1 an1 cd1 ct1, fun s us hu => match us, hu with | [_, _], _ => .of_eq rfl, fun base _ _ => ok_main ⟨_, _, F1, b1, g1⟩ ⟨_, _, F2, b2, g2⟩ ⟨_, _, F3, b3, g3⟩ ⟨_, _, F4, b4, g4⟩ ⟨_, _, F5, b5, g5⟩ ⟨_, _, F6, b6, g6⟩ ⟨_, _, F7, b7, g7⟩ ⟨_, _, F8, b8, g8⟩ ⟨_, _, F9, b9, g9⟩ m_PASSED m_range m_len m_reversed m_enumerate m_list⟩
end Hb
open PySem PySem.W PyProof.Rows
set_option maxRecDepth 100000 in
set_option maxHeartbeats 8000000 in
theorem PySem.Challenge.cw_hatboxes_s04_passing_holds : PySem.Challenge.rw_hatboxes_s04_passing.Holds := by
  w_on; k_headS; (case hw => exact ⟨[.int 0, .list []], by decide +kernel, by decide +kernel⟩)
  k_fillS
  refine L2.walk_specK (r := PySem.Challenge.rw_hatboxes_s04_passing) (k := 3) (CX := L2.CX0) (ps := ["n", "table"]) (sp := Hb.spMain) (by decide +kernel) rfl rfl ⟨rfl, by decide, by decide⟩ (fun w h Y => PySem.W.kIn_of Y) ?F ?S (fun _ _ _ _ z => z)
  case F =>
    intro w mg fa h Y KX G hmg
    refine' Hb.all_mk KX G hmg ?a1 ?l1 ?c1 ?k1 ?a2 ?l2 ?c2 ?k2 ?a3 ?l3 ?c3 ?k3 ?a4 ?l4 ?c4 ?k4 ?a5 ?l5 ?c5 ?k5 ?a6 ?l6 ?c6 ?k6 ?a7 ?l7 ?c7 ?k7 ?a8 ?l8 ?c8 ?k8 ?a9 ?l9 ?c9 ?k9 ?y_PASSED ?z_range ?z_len ?z_reversed ?z_enumerate ?z_list
    (case a1 => k_is)
    (case l1 => k_is)
    (case c1 => k_is)
    (case k1 => k_is)
    (case a2 => k_is)
    (case l2 => k_is)
    (case c2 => k_is)
    (case k2 => k_is)
    (case a3 => k_is)
    (case l3 => k_is)
    (case c3 => k_is)
    (case k3 => k_is)
    (case a4 => k_is)
    (case l4 => k_is)
    (case c4 => k_is)
    (case k4 => k_is)
    (case a5 => k_is)
    (case l5 => k_is)
    (case c5 => k_is)
    (case k5 => k_is)
    (case a6 => k_is)
    (case l6 => k_is)
    (case c6 => k_is)
    (case k6 => k_is)
    (case a7 => k_is)
    (case l7 => k_is)
    (case c7 => k_is)
    (case k7 => k_is)
    (case a8 => k_is)
    (case l8 => k_is)
    (case c8 => k_is)
    (case k8 => k_is)
    (case a9 => k_is)
    (case l9 => k_is)
    (case c9 => k_is)
    (case k9 => k_is)
    (case y_PASSED => k_is)
    (case z_range => k_is)
    (case z_len => k_is)
    (case z_reversed => k_is)
    (case z_enumerate => k_is)
    (case z_list => k_is)
  case S =>
    intro K H xs a hO hwi hask hx
    obtain ⟨n, t, u⟩ := a
    obtain ⟨x, e, s4⟩ := Hb.open_pass (show L2.DwAll K H xs [.int n, .list (t.map .int)] from hx)
    obtain ⟨T, et, hl⟩ := Hb.asked_pass (show PySn88.passing_asked n t = true from hask)
    subst e et
    exact ⟨x, T, n, rfl, s4, hl, fun H' p hp => .lst (L2.SqL.of hp) (L2.dw_ints _)⟩
#print axioms PySem.Challenge.cw_hatboxes_s04_passing_holds

