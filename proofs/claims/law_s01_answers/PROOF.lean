import PyProof.Rows.All
import Wide.All
import OpenK.AllK
import Wide.FinOn
import Open.SpecLaws
import KE.OsGo
import HandS.ForSpec
import HandS.ForMost
import HandS.Walk
import HandS.CallLocal
import HandS.NoneIn
import PySem.Challenge.RW_shotsums_s01_answers
set_option Elab.async false
set_option linter.all false
section
namespace Cu
open Sr121

/-! ### the calls, as the program takes them apart -/
/-- a raw call, its number, its parameters -/
inductive Cal : List (List Int) → Int → List Int → Prop where
  | c0 (a b d : Int) : Cal [[0, a, b, d]] 0 [a, b, d]
  | c1 (a : Int) : Cal [[1, a]] 1 [a]
  | c2 (r : List Int) : Cal [[2], r] 2 r
  | c3 : Cal [[3]] 3 []
  | c4 (a b : Int) : Cal [[4, a, b]] 4 [a, b]
  | c5 (a : Int) : Cal [[5, a]] 5 [a]
  | c6 (a b : Int) : Cal [[6, a, b]] 6 [a, b]
  | c7 : Cal [[7]] 7 []
  | c8 : Cal [[8]] 8 []
  | c9 : Cal [[9]] 9 []
  | c10 : Cal [[10]] 10 []
  | c11 (a : Int) : Cal [[11, a]] 11 [a]
  | c12 (a : Int) : Cal [[12, a]] 12 [a]
  | c13 (a : Int) : Cal [[13, a]] 13 [a]
  | c14 : Cal [[14]] 14 []
  | c15 : Cal [[15]] 15 []
  | c16 : Cal [[16]] 16 []
  | c17 : Cal [[17]] 17 []

def counts : List Int := [3, 1, 0, 0, 2, 1, 2, 0, 0, 0, 0, 1, 1, 1, 0, 0, 0, 0]

/-- what the program sees of one call at the head of p :: r -/
def Seen (p : Int) (r : List Int) (ps t : List Int) : Prop :=
  (p = 2 ∧ ∃ (k : Nat) (q : List Int), r = (k : Int) :: q ∧ k ≤ q.length ∧ ps = q.take k ∧ t = q.drop k) ∨
  (p ≠ 2 ∧ ∃ (j k : Nat), p = (j : Int) ∧ counts[j]? = some (k : Int) ∧ k ≤ r.length ∧ ps = r.take k ∧ t = r.drop k)

theorem shape_some {p : Int} {nk : Nat × Nat} (h : PySr121.shape p = some nk) : (0 ≤ p ∧ p ≤ 17) := by
  apply Classical.byContradiction
  intro hn
  have e : PySr121.shape p = none := by
    unfold PySr121.shape
    repeat rw [if_neg (by omega)]
  rw [e] at h
  cases h

theorem take1 {r : List Int} (h : ¬ r.length < 1) : ∃ a q, r = a :: q := by
  match r, h with
  | [], h => simp at h
  | a :: q, _ => exact ⟨a, q, rfl⟩
theorem take2 {r : List Int} (h : ¬ r.length < 2) : ∃ a b q, r = a :: b :: q := by
  match r, h with
  | [], h => simp at h
  | [_], h => simp at h
  | a :: b :: q, _ => exact ⟨a, b, q, rfl⟩
theorem take3 {r : List Int} (h : ¬ r.length < 3) : ∃ a b d q, r = a :: b :: d :: q := by
  match r, h with
  | [], h => simp at h
  | [_], h => simp at h
  | [_, _], h => simp at h
  | a :: b :: d :: q, _ => exact ⟨a, b, d, q, rfl⟩

theorem call0 {p : Int} {r t : List Int} {c : List (List Int)} (hs : PySr121.shape p = some (0, 0)) (h : PyFlat.call PySr121.shape (p :: r) = some (c, t)) : c = [[p]] ∧ t = r := by
  simp [PyFlat.call, hs, PyFlat.rows] at h
  exact ⟨h.1.symm, h.2.symm⟩
theorem call1 {p : Int} {r t : List Int} {c : List (List Int)} (hs : PySr121.shape p = some (1, 0)) (h : PyFlat.call PySr121.shape (p :: r) = some (c, t)) : ∃ a, r = a :: t ∧ c = [[p, a]] := by
  simp [PyFlat.call, hs, PyFlat.rows] at h
  obtain ⟨h1, h2, h3⟩ := h
  obtain ⟨a, q, rfl⟩ := take1 (r := r) (by have := List.length_pos_iff.mpr h1; omega)
  simp at h2 h3
  exact ⟨a, by rw [h3], h2.symm⟩
theorem call2 {p : Int} {r t : List Int} {c : List (List Int)} (hs : PySr121.shape p = some (2, 0)) (h : PyFlat.call PySr121.shape (p :: r) = some (c, t)) : ∃ a b, r = a :: b :: t ∧ c = [[p, a, b]] := by
  simp [PyFlat.call, hs, PyFlat.rows] at h
  obtain ⟨h1, h2, h3⟩ := h
  obtain ⟨a, b, q, rfl⟩ := take2 (r := r) (by omega)
  simp at h2 h3
  exact ⟨a, b, by rw [h3], h2.symm⟩
theorem call3 {p : Int} {r t : List Int} {c : List (List Int)} (hs : PySr121.shape p = some (3, 0)) (h : PyFlat.call PySr121.shape (p :: r) = some (c, t)) : ∃ a b d, r = a :: b :: d :: t ∧ c = [[p, a, b, d]] := by
  simp [PyFlat.call, hs, PyFlat.rows] at h
  obtain ⟨h1, h2, h3⟩ := h
  obtain ⟨a, b, d, q, rfl⟩ := take3 (r := r) (by omega)
  simp at h2 h3
  exact ⟨a, b, d, by rw [h3], h2.symm⟩
theorem callL {p : Int} {r t : List Int} {c : List (List Int)} (hs : PySr121.shape p = some (0, 1)) (h : PyFlat.call PySr121.shape (p :: r) = some (c, t)) :
    ∃ (k : Nat) (q : List Int), r = (k : Int) :: q ∧ k ≤ q.length ∧ c = [[p], q.take k] ∧ t = q.drop k := by
  unfold PyFlat.call at h
  dsimp only at h
  rw [hs] at h
  simp only [PyFlat.rows, Nat.not_lt_zero, if_false, List.drop_zero, List.take_zero] at h
  cases r with
  | nil => simp [PyFlat.row] at h
  | cons n q =>
    simp only [PyFlat.row] at h
    by_cases hn : 0 ≤ n ∧ n.toNat ≤ q.length
    · rw [if_pos hn] at h
      simp at h
      exact ⟨n.toNat, q, by rw [Int.toNat_of_nonneg hn.1], hn.2, h.1.symm, h.2.symm⟩
    · rw [if_neg hn] at h
      simp at h

theorem call_cal {p : Int} {r t : List Int} {c : List (List Int)} (h : PyFlat.call PySr121.shape (p :: r) = some (c, t)) : ∃ ps, Cal c p ps ∧ Seen p r ps t := by
  have hp : 0 ≤ p ∧ p ≤ 17 := by
    have h' := h
    unfold PyFlat.call at h'
    dsimp only at h'
    cases hs : PySr121.shape p with
    | none => rw [hs] at h'; simp at h'
    | some nk => exact shape_some hs
  obtain ⟨n, rfl⟩ := Int.eq_ofNat_of_zero_le hp.1
  have hn : n ≤ 17 := by omega
  have z0 : ∀ n : Nat, PySr121.shape (n : Int) = some (0, 0) → counts[n]? = some 0 → ((n : Int) ≠ 2) → c = [[(n : Int)]] → t = r → Seen (n : Int) r [] t := by
    intro n _ h2 h3 _ e
    exact .inr ⟨h3, n, 0, rfl, h2, Nat.zero_le _, by simp, by simpa using e⟩
  match n, hn with
  | 0, _ =>
    obtain ⟨a, b, d, rfl, rfl⟩ := call3 rfl h
    exact ⟨_, .c0 a b d, .inr ⟨by decide, 0, 3, rfl, rfl, by simp, by simp, by simp⟩⟩
  | 1, _ =>
    obtain ⟨a, rfl, rfl⟩ := call1 rfl h
    exact ⟨_, .c1 a, .inr ⟨by decide, 1, 1, rfl, rfl, by simp, by simp, by simp⟩⟩
  | 2, _ =>
    obtain ⟨k, q, rfl, hk, rfl, rfl⟩ := callL rfl h
    exact ⟨_, .c2 _, .inl ⟨rfl, k, q, rfl, hk, rfl, rfl⟩⟩
  | 3, _ =>
    obtain ⟨rfl, rfl⟩ := call0 rfl h
    exact ⟨_, .c3, .inr ⟨by decide, 3, 0, rfl, rfl, by simp, by simp, by simp⟩⟩
  | 4, _ =>
    obtain ⟨a, b, rfl, rfl⟩ := call2 rfl h
    exact ⟨_, .c4 a b, .inr ⟨by decide, 4, 2, rfl, rfl, by simp, by simp, by simp⟩⟩
  | 5, _ =>
    obtain ⟨a, rfl, rfl⟩ := call1 rfl h
    exact ⟨_, .c5 a, .inr ⟨by decide, 5, 1, rfl, rfl, by simp, by simp, by simp⟩⟩
  | 6, _ =>
    obtain ⟨a, b, rfl, rfl⟩ := call2 rfl h
    exact ⟨_, .c6 a b, .inr ⟨by decide, 6, 2, rfl, rfl, by simp, by simp, by simp⟩⟩
  | 7, _ =>
    obtain ⟨rfl, rfl⟩ := call0 rfl h
    exact ⟨_, .c7, .inr ⟨by decide, 7, 0, rfl, rfl, by simp, by simp, by simp⟩⟩
  | 8, _ =>
    obtain ⟨rfl, rfl⟩ := call0 rfl h
    exact ⟨_, .c8, .inr ⟨by decide, 8, 0, rfl, rfl, by simp, by simp, by simp⟩⟩
  | 9, _ =>
    obtain ⟨rfl, rfl⟩ := call0 rfl h
    exact ⟨_, .c9, .inr ⟨by decide, 9, 0, rfl, rfl, by simp, by simp, by simp⟩⟩
  | 10, _ =>
    obtain ⟨rfl, rfl⟩ := call0 rfl h
    exact ⟨_, .c10, .inr ⟨by decide, 10, 0, rfl, rfl, by simp, by simp, by simp⟩⟩
  | 11, _ =>
    obtain ⟨a, rfl, rfl⟩ := call1 rfl h
    exact ⟨_, .c11 a, .inr ⟨by decide, 11, 1, rfl, rfl, by simp, by simp, by simp⟩⟩
  | 12, _ =>
    obtain ⟨a, rfl, rfl⟩ := call1 rfl h
    exact ⟨_, .c12 a, .inr ⟨by decide, 12, 1, rfl, rfl, by simp, by simp, by simp⟩⟩
  | 13, _ =>
    obtain ⟨a, rfl, rfl⟩ := call1 rfl h
    exact ⟨_, .c13 a, .inr ⟨by decide, 13, 1, rfl, rfl, by simp, by simp, by simp⟩⟩
  | 14, _ =>
    obtain ⟨rfl, rfl⟩ := call0 rfl h
    exact ⟨_, .c14, .inr ⟨by decide, 14, 0, rfl, rfl, by simp, by simp, by simp⟩⟩
  | 15, _ =>
    obtain ⟨rfl, rfl⟩ := call0 rfl h
    exact ⟨_, .c15, .inr ⟨by decide, 15, 0, rfl, rfl, by simp, by simp, by simp⟩⟩
  | 16, _ =>
    obtain ⟨rfl, rfl⟩ := call0 rfl h
    exact ⟨_, .c16, .inr ⟨by decide, 16, 0, rfl, rfl, by simp, by simp, by simp⟩⟩
  | 17, _ =>
    obtain ⟨rfl, rfl⟩ := call0 rfl h
    exact ⟨_, .c17, .inr ⟨by decide, 17, 0, rfl, rfl, by simp, by simp, by simp⟩⟩
  | n + 18, h => omega

theorem whole_id (c : List (List Int)) : PySr121.whole c = c := by
  unfold PySr121.whole
  split <;> rfl

/-- the next call of a list that is taken apart -/
theorem calls_next {f : Nat} {p : Int} {r : List Int} {cs : List (List (List Int))} (h : PyFlat.calls PySr121.shape f (p :: r) = some cs) :
    ∃ c ps t rest f', cs = c :: rest ∧ Cal c p ps ∧ Seen p r ps t ∧ PyFlat.calls PySr121.shape f' t = some rest := by
  cases f with
  | zero => simp [PyFlat.calls] at h
  | succ f =>
    unfold PyFlat.calls at h
    split at h
    · cases h
    · rename_i c t hc
      split at h
      · cases h
      · rename_i rest hr
        obtain ⟨ps, h1, h2⟩ := call_cal hc
        exact ⟨c, ps, t, rest, f, (Option.some.inj h).symm, h1, h2, hr⟩
theorem calls_nil {f : Nat} {cs : List (List (List Int))} (h : PyFlat.calls PySr121.shape f [] = some cs) : cs = [] := by
  cases f <;> (unfold PyFlat.calls at h; exact (Option.some.inj h).symm)

/-! ### the run over the calls -/
abbrev St := Sr121.State
def after (s : St) (cs : List (List (List Int))) : St := cs.foldl (fun s c => (Sr121Neutral.step s c).1) s
theorem played_take : ∀ (cs : List (List (List Int))) (s : St) (i : Nat) (c : List (List Int)), cs[i]? = some c →
    PyFlat.played Sr121Neutral.step s (cs.take (i + 1)) = PyFlat.played Sr121Neutral.step s (cs.take i) ++ [(Sr121Neutral.step (after s (cs.take i)) c).2] ∧
    after s (cs.take (i + 1)) = (Sr121Neutral.step (after s (cs.take i)) c).1
  | [], _, _, _, h => by simp at h
  | d :: cs, s, 0, c, h => by
    have e : d = c := Option.some.inj h
    subst e
    exact ⟨rfl, rfl⟩
  | d :: cs, s, i + 1, c, h => by
    obtain ⟨h1, h2⟩ := played_take cs (Sr121Neutral.step s d).1 i c h
    refine ⟨?_, h2⟩
    show (Sr121Neutral.step s d).2 :: PyFlat.played Sr121Neutral.step (Sr121Neutral.step s d).1 (cs.take (i + 1)) = _
    rw [h1]
    rfl
theorem played_len_le : ∀ (cs : List (List (List Int))) (s : St) (i : Nat), (PyFlat.told (PyFlat.played Sr121Neutral.step s (cs.take i))).length ≤ (PyFlat.told (PyFlat.played Sr121Neutral.step s cs)).length
  | [], _, _ => by simp
  | d :: cs, s, 0 => Nat.zero_le _
  | d :: cs, s, i + 1 => by
    have ih := played_len_le cs (Sr121Neutral.step s d).1 i
    show (PyFlat.told ((Sr121Neutral.step s d).2 :: PyFlat.played Sr121Neutral.step (Sr121Neutral.step s d).1 (cs.take i))).length ≤ (PyFlat.told ((Sr121Neutral.step s d).2 :: PyFlat.played Sr121Neutral.step (Sr121Neutral.step s d).1 cs)).length
    unfold PyFlat.told at ih ⊢
    rw [List.flatMap_cons, List.flatMap_cons, List.length_append, List.length_append]
    omega
theorem told_snoc (l : List (List Int)) (a : List Int) : PyFlat.told (l ++ [a]) = PyFlat.told l ++ ((a.length : Int) :: a) := by
  unfold PyFlat.told
  rw [List.flatMap_append]
  simp

/-! ### cumulative sums -/
def cum (ds : List Int) (r : Int) : List Int := cumulativeSums id ds r
theorem cum_nil (r : Int) : cum [] r = [] := rfl
theorem cum_cons (d : Int) (ds : List Int) (r : Int) : cum (d :: ds) r = max 0 (r + d) :: cum ds (max 0 (r + d)) := rfl
theorem cum_map (dev : Int → Int) : ∀ (ws : List Int) (r : Int), cumulativeSums dev ws r = cum (ws.map dev) r
  | [], _ => rfl
  | x :: ws, r => by
    show max 0 (r + dev x) :: cumulativeSums dev ws (max 0 (r + dev x)) = max 0 (r + dev x) :: cum (ws.map dev) (max 0 (r + dev x))
    rw [cum_map dev ws]
theorem cum_len : ∀ (ds : List Int) (r : Int), (cum ds r).length = ds.length
  | [], _ => rfl
  | d :: ds, r => by
    rw [cum_cons, List.length_cons, List.length_cons, cum_len ds]
theorem cum_nonneg : ∀ (ds : List Int) (r : Int), ∀ x ∈ cum ds r, 0 ≤ x
  | [], _, x, h => by simp [cum_nil] at h
  | d :: ds, r, x, h => by
    rw [cum_cons] at h
    rcases List.mem_cons.mp h with e | e
    · omega
    · exact cum_nonneg ds _ x e
theorem upper_eq (c : Chart) : upperSums c = cum (c.weights.map (excess c)) 0 := cum_map _ _ _
theorem lower_eq (c : Chart) : lowerSums c = cum (c.weights.map (shortfall c)) 0 := cum_map _ _ _
theorem upper_len (c : Chart) : (upperSums c).length = c.weights.length := by rw [upper_eq, cum_len, List.length_map]
theorem lower_len (c : Chart) : (lowerSums c).length = c.weights.length := by rw [lower_eq, cum_len, List.length_map]
theorem upper_nonneg (c : Chart) : ∀ x ∈ upperSums c, 0 ≤ x := by rw [upper_eq]; exact cum_nonneg _ _
theorem lower_nonneg (c : Chart) : ∀ x ∈ lowerSums c, 0 ≤ x := by rw [lower_eq]; exact cum_nonneg _ _
/-- one turn of the program's loop -/
theorem cum_turn {ds done : List Int} {r d : Int} {i : Nat} (h : done ++ cum (ds.drop i) r = cum ds 0) (hd : ds[i]? = some d) :
    (done ++ [max 0 (r + d)]) ++ cum (ds.drop (i + 1)) (max 0 (r + d)) = cum ds 0 := by
  obtain ⟨hi, e⟩ := List.getElem?_eq_some_iff.mp hd
  rw [← h, List.drop_eq_getElem_cons hi, e, cum_cons, List.append_assoc]
  rfl
theorem max_prog (x : Int) : (if x > 0 then x else 0) = max 0 x := by
  by_cases h : x > 0
  · rw [if_pos h]; omega
  · rw [if_neg h]; omega

/-! ### alarms -/
def codeOf (th u l : Int) : Int := (if u > th then 1 else 0) + (if l > th then 2 else 0)
def codesOf (c : Chart) : List Int := (List.range c.weights.length).map fun n => (alarmAt c n : Int)
theorem codes_len (c : Chart) : (codesOf c).length = c.weights.length := by simp [codesOf]
theorem alarm_code (c : Chart) (n : Nat) : (alarmAt c n : Int) = codeOf c.threshold ((upperSums c).getD n 0) ((lowerSums c).getD n 0) := by
  unfold alarmAt codeOf
  by_cases h1 : (c.threshold : Int) < (upperSums c).getD n 0 <;> by_cases h2 : (c.threshold : Int) < (lowerSums c).getD n 0 <;> simp [h1, h2, -List.getD_eq_getElem?_getD]
theorem codes_at {c : Chart} {i : Nat} {u l : Int} (hu : (upperSums c)[i]? = some u) (hl : (lowerSums c)[i]? = some l) : (codesOf c)[i]? = some (codeOf c.threshold u l) := by
  obtain ⟨hi, _⟩ := List.getElem?_eq_some_iff.mp hu
  rw [upper_len] at hi
  unfold codesOf
  rw [List.getElem?_map, List.getElem?_range hi, Option.map_some, alarm_code, List.getD_eq_getElem?_getD, List.getD_eq_getElem?_getD, hu, hl]
  rfl
theorem codes_nat {c : Chart} {i : Nat} {x : Int} (h : (codesOf c)[i]? = some x) : i < c.weights.length ∧ x = (alarmAt c i : Int) := by
  unfold codesOf at h
  obtain ⟨hi, e⟩ := List.getElem?_eq_some_iff.mp h
  simp at hi e
  exact ⟨hi, e.symm⟩

theorem find_range_aux (p : Nat → Bool) : ∀ (n i : Nat), i ≤ n → (∀ j, j < i → p j = false) → (List.range n).find? p = (List.range' i (n - i)).find? p := by
  intro n i hi hj
  rw [List.range_eq_range', show n = i + (n - i) by omega, ← List.range'_append_1, List.find?_append]
  have : (List.range' 0 i).find? p = none := by
    rw [List.find?_eq_none]
    intro x hx
    have := List.mem_range'_1.mp hx
    rw [hj x (by omega)]
    simp
  rw [this]
  simp
theorem find_hit {p : Nat → Bool} {n i : Nat} (hi : i < n) (hj : ∀ j, j < i → p j = false) (h : p i = true) : (List.range n).find? p = some i := by
  rw [find_range_aux p n i (by omega) hj, show n - i = (n - i - 1) + 1 by omega, List.range'_succ, List.find?_cons_of_pos h]
theorem find_none {p : Nat → Bool} {n : Nat} (hj : ∀ j, j < n → p j = false) : (List.range n).find? p = none := by
  rw [List.find?_eq_none]
  intro x hx
  rw [hj x (List.mem_range.mp hx)]
  simp

/-- the shots with an alarm among the first i -/
def hits (c : Chart) (i : Nat) : List Int := ((List.range i).filter fun n => decide (0 < alarmAt c n)).map fun (x : Nat) => (x : Int)
theorem hits_yes {c : Chart} {i : Nat} (h : 0 < alarmAt c i) : hits c (i + 1) = hits c i ++ [(i : Int)] := by
  unfold hits
  rw [List.range_succ, List.filter_append, List.map_append]
  simp [h]
theorem hits_no {c : Chart} {i : Nat} (h : ¬ 0 < alarmAt c i) : hits c (i + 1) = hits c i := by
  unfold hits
  rw [List.range_succ, List.filter_append, List.map_append]
  simp [h]
theorem hits_len (c : Chart) (i : Nat) : (hits c i).length ≤ i := by
  unfold hits
  rw [List.length_map]
  refine Nat.le_trans (List.length_filter_le _ _) ?_
  simp

/-! ### the onset -/
/-- down from start while the sums are above 0 -/
theorem onset_down {sums : List Int} : ∀ {n start : Nat}, start ≤ n + 1 → (∀ k, start ≤ k → k ≤ n → sums.getD k 0 ≠ 0) → (start = 0 ∨ sums.getD (start - 1) 0 = 0) → Sr121.onset sums n = start := by
  intro n start hs hk hz
  unfold Sr121.onset
  rw [List.range_eq_range', show n + 1 = start + (n + 1 - start) by omega, ← List.range'_append_1, List.reverse_append, List.find?_append]
  have e : ((List.range' (0 + start) (n + 1 - start)).reverse.find? fun k => sums.getD k 0 == 0) = none := by
    rw [List.find?_eq_none]
    intro x hx
    have := List.mem_range'_1.mp (List.mem_reverse.mp hx)
    simpa using hk x (by omega) (by omega)
  rw [e]
  rcases hz with rfl | hz
  · simp
  · cases start with
    | zero => simp
    | succ m =>
      rw [List.range'_1_concat, List.reverse_append]
      have hz' : sums.getD m 0 = 0 := hz
      simp [List.find?_cons, -List.getD_eq_getElem?_getD, hz']

/-! ### the worst run -/
def upW (f : Nat → Int) (b : Int × Nat) (l : List Nat) : Int × Nat := l.foldl (fun b a => if b.1 < f a then (f a, a) else b) b
def downW (f : Nat → Int) (e : Nat) : List Nat → Int × Nat
  | [] => (0, e)
  | a :: l => if 0 < f a ∧ (downW f e l).1 ≤ f a then (f a, a) else downW f e l
theorem downW_nonneg (f : Nat → Int) (e : Nat) : ∀ l, 0 ≤ (downW f e l).1
  | [] => Int.le_refl _
  | a :: l => by
    unfold downW
    split
    · rename_i h; exact Int.le_of_lt h.1
    · exact downW_nonneg f e l
theorem upW_downW (f : Nat → Int) (e : Nat) : ∀ (l : List Nat) (b : Int × Nat), 0 ≤ b.1 → upW f b l = if b.1 < (downW f e l).1 then downW f e l else b
  | [], b, hb => by
    show b = if b.1 < 0 then _ else b
    rw [if_neg (by omega)]
  | a :: l, b, hb => by
    have nn := downW_nonneg f e l
    have ih := upW_downW f e l
    show upW f (if b.1 < f a then (f a, a) else b) l = _
    have u : downW f e (a :: l) = if 0 < f a ∧ (downW f e l).1 ≤ f a then (f a, a) else downW f e l := rfl
    rw [u]
    by_cases h1 : b.1 < f a
    · rw [if_pos h1, ih _ (show 0 ≤ f a by omega)]
      by_cases h2 : (downW f e l).1 ≤ f a
      · rw [if_pos (show 0 < f a ∧ (downW f e l).1 ≤ f a from ⟨by omega, h2⟩), if_neg (show ¬ f a < (downW f e l).1 by omega), if_pos (show b.1 < f a from h1)]
      · rw [if_neg (show ¬ (0 < f a ∧ (downW f e l).1 ≤ f a) from fun z => h2 z.2), if_pos (show f a < (downW f e l).1 by omega), if_pos (show b.1 < (downW f e l).1 by omega)]
    · rw [if_neg h1, ih b hb]
      by_cases h2 : 0 < f a ∧ (downW f e l).1 ≤ f a
      · rw [if_pos h2, if_neg (show ¬ b.1 < f a from h1), if_neg (show ¬ b.1 < (downW f e l).1 by omega)]
      · rw [if_neg h2]
/-- the program's turn: ds, e = its length, from the end; place: what is still to come below -/
def tail (ds : List Int) (a : Nat) : Int := (ds.drop a).sum
def worstFrom (ds : List Int) (i : Nat) : Int × Nat := downW (tail ds) ds.length (List.range' (ds.length - i) i)
theorem worst_zero (ds : List Int) : worstFrom ds 0 = (0, ds.length) := rfl
theorem worst_turn {ds : List Int} {i : Nat} (hi : i < ds.length) : worstFrom ds (i + 1) =
    if 0 < tail ds (ds.length - (i + 1)) ∧ (worstFrom ds i).1 ≤ tail ds (ds.length - (i + 1)) then (tail ds (ds.length - (i + 1)), ds.length - (i + 1)) else worstFrom ds i := by
  unfold worstFrom
  rw [List.range'_succ, show ds.length - (i + 1) + 1 = ds.length - i by omega]
  rfl
theorem tail_turn {ds : List Int} {i : Nat} {d : Int} (hi : i < ds.length) (hd : ds[ds.length - (i + 1)]? = some d) : tail ds (ds.length - i) + d = tail ds (ds.length - (i + 1)) := by
  obtain ⟨h, e⟩ := List.getElem?_eq_some_iff.mp hd
  unfold tail
  rw [List.drop_eq_getElem_cons h, e, List.sum_cons, show ds.length - (i + 1) + 1 = ds.length - i by omega]
  omega
theorem tail_end (ds : List Int) : tail ds (ds.length - 0) = 0 := by
  unfold tail
  simp
theorem foldl_sum : ∀ (l : List Int) (a : Int), l.foldl (· + ·) a = a + l.sum
  | [], a => by simp
  | x :: l, a => by
    rw [List.foldl_cons, foldl_sum l, List.sum_cons]
    omega
theorem devsum (dev : Int → Int) (ws : List Int) (a n : Nat) : deviationSum dev ws a n = tail ((ws.map dev).take n) a := by
  unfold deviationSum tail
  rw [foldl_sum, List.drop_take, List.map_take, List.map_drop]
  omega
theorem worst_eq {dev : Int → Int} {ws : List Int} {n : Nat} (hn : n < ws.length) : worstRun dev ws n = worstFrom ((ws.map dev).take (n + 1)) (n + 1) := by
  have hl : ((ws.map dev).take (n + 1)).length = n + 1 := by
    rw [List.length_take, List.length_map]
    omega
  unfold worstFrom
  rw [hl, show n + 1 - (n + 1) = 0 by omega, ← List.range_eq_range']
  have e : worstRun dev ws n = upW (tail ((ws.map dev).take (n + 1))) (0, n + 1) (List.range (n + 1)) := by
    unfold worstRun upW
    simp only [devsum]
  rw [e, upW_downW _ (n + 1) _ _ (Int.le_refl _)]
  have nn := downW_nonneg (tail ((ws.map dev).take (n + 1))) (n + 1) (List.range (n + 1))
  by_cases h : (0 : Int) < (downW (tail ((ws.map dev).take (n + 1))) (n + 1) (List.range (n + 1))).1
  · rw [if_pos h]
  · rw [if_neg h]
    have z : ∀ l : List Nat, (downW (tail ((ws.map dev).take (n + 1))) (n + 1) l).1 = 0 → downW (tail ((ws.map dev).take (n + 1))) (n + 1) l = (0, n + 1) := by
      intro l
      induction l with
      | nil => intro _; rfl
      | cons a l ih =>
        intro h0
        unfold downW at h0 ⊢
        split at h0
        · rename_i hh
          have h00 : tail ((ws.map dev).take (n + 1)) a = 0 := h0
          exact absurd hh.1 (by omega)
        · rename_i hh
          rw [if_neg hh]
          exact ih h0
    exact (z _ (by omega)).symm

/-! ### the longest run -/
def runS (l : List Int) : Int × Int := l.foldl (fun m d => (max m.1 (if d > 0 then m.2 + 1 else 0), if d > 0 then m.2 + 1 else 0)) (0, 0)
theorem run_turn {l : List Int} {i : Nat} {d : Int} (h : l[i]? = some d) : runS (l.take (i + 1)) =
    (max (runS (l.take i)).1 (if d > 0 then (runS (l.take i)).2 + 1 else 0), if d > 0 then (runS (l.take i)).2 + 1 else 0) := by
  obtain ⟨hi, e⟩ := List.getElem?_eq_some_iff.mp h
  unfold runS
  rw [← List.take_append_getElem hi, List.foldl_append, e]
  rfl
theorem run_gen (p : Int → Bool) (g : Int → Int) (hp : ∀ x, p x = true ↔ g x > 0) : ∀ (ws : List Int) (m : Nat × Nat),
    (ws.map g).foldl (fun (m : Int × Int) d => (max m.1 (if d > 0 then m.2 + 1 else 0), if d > 0 then m.2 + 1 else 0)) ((m.1 : Int), (m.2 : Int)) =
    (((ws.foldl (fun (m : Nat × Nat) x => (max m.1 (if p x then m.2 + 1 else 0), if p x then m.2 + 1 else 0)) m).1 : Int), ((ws.foldl (fun (m : Nat × Nat) x => (max m.1 (if p x then m.2 + 1 else 0), if p x then m.2 + 1 else 0)) m).2 : Int))
  | [], m => rfl
  | x :: ws, m => by
    rw [List.map_cons, List.foldl_cons, List.foldl_cons]
    have e : (if g x > 0 then (m.2 : Int) + 1 else 0) = ((if p x then m.2 + 1 else 0 : Nat) : Int) := by
      by_cases h : p x = true
      · rw [if_pos ((hp x).mp h), if_pos h]
        rfl
      · rw [if_neg fun z => h ((hp x).mpr z), if_neg h]
        rfl
    have e2 : max (m.1 : Int) ((if p x then m.2 + 1 else 0 : Nat) : Int) = ((max m.1 (if p x then m.2 + 1 else 0) : Nat) : Int) := by omega
    dsimp only
    rw [e, e2]
    exact run_gen p g hp ws (_, _)
theorem run_eq (p : Int → Bool) (g : Int → Int) (hp : ∀ x, p x = true ↔ g x > 0) (ws : List Int) : (runS (ws.map g)).1 = (longestRun p ws : Int) := by
  have h := run_gen p g hp ws (0, 0)
  exact congrArg Prod.fst h
theorem max_prog2 (a b : Int) : (if b > a then b else a) = max a b := by
  by_cases h : b > a
  · rw [if_pos h]; omega
  · rw [if_neg h]; omega

/-! ### fractions -/
theorem gcd_step {a b : Nat} (hb : 0 < b) : Nat.gcd b (a % b) = Nat.gcd a b := by
  rw [Nat.gcd_comm a b, Nat.gcd_rec b a, Nat.gcd_comm]
theorem abs_prog (n : Int) : (if n < 0 then -n else n) = (n.natAbs : Int) := by
  by_cases h : n < 0
  · rw [if_pos h]; omega
  · rw [if_neg h]; omega
theorem mk_eq {num : Int} {den : Nat} (hd : 0 < den) : SrFraction.encode (SrFraction.mk num den) = [num.fdiv ((Nat.gcd num.natAbs den : Nat) : Int), (den : Int).fdiv ((Nat.gcd num.natAbs den : Nat) : Int)] := by
  have hg : 0 < Nat.gcd num.natAbs den := Nat.gcd_pos_of_pos_right _ hd
  have hle : Nat.gcd num.natAbs den ≤ den := Nat.le_of_dvd hd (Nat.gcd_dvd_right _ _)
  have hq : 0 < den / Nat.gcd num.natAbs den := Nat.div_pos hle hg
  unfold SrFraction.mk SrFraction.encode
  simp only [if_neg (Nat.ne_of_gt hg), if_neg (Nat.ne_of_gt hq)]
  rw [Int.fdiv_eq_ediv_of_nonneg _ (by omega), Int.fdiv_eq_ediv_of_nonneg _ (by omega)]
  rfl

/-! ### the state -/
def Few (s : St) : Prop := ∀ c, s = some c → c.weights.length ≤ 24
theorem total_eq (c : Chart) : totalWeight c = c.weights.sum := by
  unfold totalWeight
  rw [foldl_sum]
  omega
theorem last_cons (l : List Int) : (0 :: l)[l.length]? = some (l.getLastD 0) := by
  cases l with
  | nil => rfl
  | cons x l => simp [List.getLast?_eq_getElem?, List.getLastD_eq_getLast?]
end Cu
end

section
namespace Cu
open Sr121

abbrev stp (s : St) (raw : List (List Int)) : St × List Int := Sr121Neutral.step s raw
/-! ### what a call does and answers, call by call -/
theorem s0_bad {s : St} {a b d : Int} (h : (isWeight a && (isLimit b && isLimit d)) = false) : stp s [[0, a, b, d]] = (s, [-22]) := by
  have e : (isWeight a = false ∨ isLimit b = false ∨ isLimit d = false) := by
    cases h1 : isWeight a <;> cases h2 : isLimit b <;> cases h3 : isLimit d <;> simp [h1, h2, h3] at h ⊢
  have e2 : Sr121.step s (.create a b d) = (s, .ofCode (-22)) := if_pos e
  show ((Sr121.step s (.create a b d)).1, (Sr121.step s (.create a b d)).2.code :: (Sr121.step s (.create a b d)).2.values) = _
  rw [e2]
  rfl
theorem s0_ok {s : St} {a b d : Int} (h : (isWeight a && (isLimit b && isLimit d)) = true) : stp s [[0, a, b, d]] = (some ⟨a, b.toNat, d.toNat, []⟩, [0]) := by
  have e : ¬ (isWeight a = false ∨ isLimit b = false ∨ isLimit d = false) := by
    cases h1 : isWeight a <;> cases h2 : isLimit b <;> cases h3 : isLimit d <;> simp [h1, h2, h3] at h ⊢
  have e2 : Sr121.step s (.create a b d) = (some ⟨a, b.toNat, d.toNat, []⟩, .ofCode 0) := if_neg e
  show ((Sr121.step s (.create a b d)).1, (Sr121.step s (.create a b d)).2.code :: (Sr121.step s (.create a b d)).2.values) = _
  rw [e2]
  rfl
theorem limit_nat {x : Int} (h : isLimit x = true) : ∃ n : Nat, x = (n : Int) := by
  have h' : (decide (0 ≤ x) && decide (x ≤ 999)) = true := h
  rw [Bool.and_eq_true, decide_eq_true_eq] at h'
  exact Int.eq_ofNat_of_zero_le h'.1
/-- a change of an existing chart -/
theorem s_of {c : Chart} {raw : List (List Int)} {call : Sr121.Call} {c' : Chart} {r : SrCommon.Result} (hp : Sr121Neutral.parseCall raw = some call) (hs : Sr121.step (some c) call = match perform c call with
      | (some changed, result) => (some changed, result)
      | (none, result) => (some c, result)) (h : perform c call = (some c', r)) : stp (some c) raw = (some c', r.code :: r.values) := by
  unfold stp Sr121Neutral.step
  rw [hp]
  dsimp only
  rw [hs, h]
theorem q_of {c : Chart} {raw : List (List Int)} {call : Sr121.Call} {r : SrCommon.Result} (hp : Sr121Neutral.parseCall raw = some call) (hs : Sr121.step (some c) call = match perform c call with
      | (some changed, result) => (some changed, result)
      | (none, result) => (some c, result)) (h : perform c call = (none, r)) : stp (some c) raw = (some c, r.code :: r.values) := by
  unfold stp Sr121Neutral.step
  rw [hp]
  dsimp only
  rw [hs, h]
/-- the state at the last shot -/
def lastS (c : Chart) : List Int := [codeOf c.threshold ((upperSums c).getLastD 0) ((lowerSums c).getLastD 0), (upperSums c).getLastD 0, (lowerSums c).getLastD 0]
theorem getLastD_getD {l : List Int} (h : 0 < l.length) : l.getD (l.length - 1) 0 = l.getLastD 0 := by
  rw [List.getD_eq_getElem?_getD, List.getLastD_eq_getLast?, List.getLast?_eq_getElem?]
theorem lastS_eq {c : Chart} (h : 0 < c.weights.length) : (lastShotResult c).code :: (lastShotResult c).values = lastS c := by
  show (alarmAt c (c.weights.length - 1) : Int) :: [(upperSums c).getLastD 0, (lowerSums c).getLastD 0] = _
  rw [alarm_code]
  have e1 : (upperSums c).getD (c.weights.length - 1) 0 = (upperSums c).getLastD 0 := by
    rw [← upper_len c]
    exact getLastD_getD (by rw [upper_len]; exact h)
  have e2 : (lowerSums c).getD (c.weights.length - 1) 0 = (lowerSums c).getLastD 0 := by
    rw [← lower_len c]
    exact getLastD_getD (by rw [lower_len]; exact h)
  rw [e1, e2]
  rfl
theorem withShot_pos (c : Chart) (x : Int) : 0 < (withShot c x).weights.length := by
  show 0 < (c.weights ++ [x]).length
  simp
theorem withShot_len (c : Chart) (x : Int) : (withShot c x).weights.length = c.weights.length + 1 := by
  show (c.weights ++ [x]).length = _
  simp
theorem s1_bad {c : Chart} {x : Int} (h : isWeight x = false) : stp (some c) [[1, x]] = (some c, [-22]) := q_of (call := .addShot x) rfl rfl (if_pos h)
theorem s1_full {c : Chart} {x : Int} (h : isWeight x = true) (h2 : 24 ≤ c.weights.length) : stp (some c) [[1, x]] = (some c, [-28]) :=
  q_of (call := .addShot x) (r := .ofCode (-28)) rfl rfl ((if_neg (by rw [h]; exact Bool.noConfusion)).trans (if_pos h2))
theorem s1_ok {c : Chart} {x : Int} (h : isWeight x = true) (h2 : ¬ 24 ≤ c.weights.length) : stp (some c) [[1, x]] = (some (withShot c x), lastS (withShot c x)) := by
  rw [s_of (c' := withShot c x) (r := lastShotResult (withShot c x)) (call := .addShot x) rfl rfl ((if_neg (by rw [h]; exact Bool.noConfusion)).trans (if_neg h2)), lastS_eq (withShot_pos c x)]
theorem s2_bad {c : Chart} {ps : List Int} (h : 24 < ps.length ∨ ps.all isWeight = false) : stp (some c) [[2], ps] = (some c, [-22]) := q_of (call := .setShots ps) rfl rfl (if_pos h)
theorem s2_ok {c : Chart} {ps : List Int} (h : ¬ 24 < ps.length) (h2 : ps.all isWeight = true) : stp (some c) [[2], ps] = (some { c with weights := ps }, [(ps.length : Int)]) :=
  s_of (call := .setShots ps) (r := countResult ps.length) rfl rfl (if_neg (by rw [h2]; exact fun z => z.elim h Bool.noConfusion))
theorem s3_ok {c : Chart} : stp (some c) [[3]] = (some { c with weights := [] }, [(c.weights.length : Int)]) := rfl
theorem s4_no {c : Chart} {i x : Int} (h : isShot c i = false) : stp (some c) [[4, i, x]] = (some c, [-2]) := q_of (call := .setWeight i x) rfl rfl (if_pos h)
theorem s4_bad {c : Chart} {i x : Int} (h : isShot c i = true) (h2 : isWeight x = false) : stp (some c) [[4, i, x]] = (some c, [-22]) :=
  q_of (call := .setWeight i x) (r := .ofCode (-22)) rfl rfl ((if_neg (by rw [h]; exact Bool.noConfusion)).trans (if_pos h2))
theorem s4_ok {c : Chart} {i x : Int} (h : isShot c i = true) (h2 : isWeight x = true) : stp (some c) [[4, i, x]] = (some { c with weights := c.weights.set i.toNat x }, [0, c.weights.getD i.toNat 0]) :=
  s_of (call := .setWeight i x) (r := ⟨0, [c.weights.getD i.toNat 0]⟩) rfl rfl ((if_neg (by rw [h]; exact Bool.noConfusion)).trans (if_neg (by rw [h2]; exact Bool.noConfusion)))
theorem s5_bad {c : Chart} {x : Int} (h : isWeight x = false) : stp (some c) [[5, x]] = (some c, [-22]) := q_of (call := .setTarget x) rfl rfl (if_pos h)
theorem s5_ok {c : Chart} {x : Int} (h : isWeight x = true) : stp (some c) [[5, x]] = (some { c with target := x }, [0, c.target]) :=
  s_of (call := .setTarget x) (r := ⟨0, [c.target]⟩) rfl rfl (if_neg (by rw [h]; exact Bool.noConfusion))
theorem s6_bad {c : Chart} {a b : Int} (h : (isLimit a && isLimit b) = false) : stp (some c) [[6, a, b]] = (some c, [-22]) :=
  q_of (call := .setLimits a b) rfl rfl (if_pos (by cases h1 : isLimit a <;> cases h2 : isLimit b <;> simp [h1, h2] at h ⊢))
theorem s6_ok {c : Chart} {a b : Nat} (h : (isLimit a && isLimit b) = true) : stp (some c) [[6, (a : Int), (b : Int)]] = (some { c with allowance := a, threshold := b }, [0, (c.allowance : Int), (c.threshold : Int)]) :=
  s_of (call := .setLimits a b) (r := ⟨0, [(c.allowance : Int), (c.threshold : Int)]⟩) rfl rfl (if_neg (by cases h1 : isLimit (a : Int) <;> cases h2 : isLimit (b : Int) <;> simp [h1, h2] at h ⊢))
theorem s7 {c : Chart} : stp (some c) [[7]] = (some c, (c.weights.length : Int) :: upperSums c) := rfl
theorem s8 {c : Chart} : stp (some c) [[8]] = (some c, (c.weights.length : Int) :: lowerSums c) := rfl
theorem s9_no {c : Chart} (h : ∀ j, j < c.weights.length → ¬ 0 < alarmAt c j) : stp (some c) [[9]] = (some c, [-33]) := by
  have e : firstAlarm c = none := find_none fun j hj => decide_eq_false (h j hj)
  refine q_of (call := .firstAlarm) (r := .ofCode (-33)) rfl rfl ?_
  show ((none : Option Chart), (match firstAlarm c with
    | none => SrCommon.Result.ofCode SrCommon.noSolution
    | some n => SrCommon.Result.mk (n : Int) [(alarmAt c n : Int)])) = _
  rw [e]
  rfl
theorem s9_ok {c : Chart} {i : Nat} (hi : i < c.weights.length) (h : ∀ j, j < i → ¬ 0 < alarmAt c j) (h2 : 0 < alarmAt c i) : stp (some c) [[9]] = (some c, [(i : Int), (alarmAt c i : Int)]) := by
  have e : firstAlarm c = some i := find_hit hi (fun j hj => decide_eq_false (h j hj)) (decide_eq_true h2)
  refine q_of (call := .firstAlarm) (r := ⟨(i : Int), [(alarmAt c i : Int)]⟩) rfl rfl ?_
  show ((none : Option Chart), (match firstAlarm c with
    | none => SrCommon.Result.ofCode SrCommon.noSolution
    | some n => SrCommon.Result.mk (n : Int) [(alarmAt c n : Int)])) = _
  rw [e]
theorem s10 {c : Chart} : stp (some c) [[10]] = (some c, ((hits c c.weights.length).length : Int) :: hits c c.weights.length) := by
  have e : (hits c c.weights.length).length = ((List.range c.weights.length).filter fun n => decide (0 < alarmAt c n)).length := by
    unfold hits
    rw [List.length_map]
  rw [e]
  rfl
theorem s11_no {c : Chart} {n : Int} (h : isShot c n = false) : stp (some c) [[11, n]] = (some c, [-2]) := q_of (call := .onset n) (r := .ofCode (-2)) rfl rfl (congrArg _ (if_pos h))
theorem s11_ok {c : Chart} {n : Int} (h : isShot c n = true) : stp (some c) [[11, n]] = (some c, [(Sr121.onset (upperSums c) n.toNat : Int), (Sr121.onset (lowerSums c) n.toNat : Int)]) :=
  q_of (call := .onset n) (r := ⟨(Sr121.onset (upperSums c) n.toNat : Int), [(Sr121.onset (lowerSums c) n.toNat : Int)]⟩) rfl rfl (congrArg _ (if_neg (by rw [h]; exact Bool.noConfusion)))
theorem s12_no {c : Chart} {n : Int} (h : isShot c n = false) : stp (some c) [[12, n]] = (some c, [-2]) := q_of (call := .worstRuns n) (r := .ofCode (-2)) rfl rfl (congrArg _ (if_pos h))
theorem s12_ok {c : Chart} {n : Int} (h : isShot c n = true) : stp (some c) [[12, n]] = (some c, [0, (worstRun (excess c) c.weights n.toNat).1, ((worstRun (excess c) c.weights n.toNat).2 : Int), (worstRun (shortfall c) c.weights n.toNat).1, ((worstRun (shortfall c) c.weights n.toNat).2 : Int)]) :=
  q_of (call := .worstRuns n) (r := ⟨0, [(worstRun (excess c) c.weights n.toNat).1, ((worstRun (excess c) c.weights n.toNat).2 : Int), (worstRun (shortfall c) c.weights n.toNat).1, ((worstRun (shortfall c) c.weights n.toNat).2 : Int)]⟩) rfl rfl (congrArg _ (if_neg (by rw [h]; exact Bool.noConfusion)))
theorem s13_bad {c : Chart} {x : Int} (h : isWeight x = false) : stp (some c) [[13, x]] = (some c, [-22]) := q_of (call := .addShotIf x) (r := .ofCode (-22)) rfl rfl (congrArg _ (if_pos h))
theorem s13_ok {c : Chart} {x : Int} (h : isWeight x = true) : stp (some c) [[13, x]] = (some c, lastS (withShot c x)) := by
  rw [q_of (call := .addShotIf x) (r := lastShotResult (withShot c x)) rfl rfl (congrArg _ (if_neg (by rw [h]; exact Bool.noConfusion))), lastS_eq (withShot_pos c x)]
theorem s14 {c : Chart} : stp (some c) [[14]] = (some c, [0, smallestAlarmingWeight c]) := rfl
theorem s15 {c : Chart} : stp (some c) [[15]] = (some c, [(longestRun (fun x => decide (c.target < x)) c.weights : Int), (longestRun (fun x => decide (x < c.target)) c.weights : Int)]) := rfl
theorem s16_no {c : Chart} (h : c.weights = []) : stp (some c) [[16]] = (some c, [-6]) := q_of (call := .meanWeight) (r := .ofCode (-6)) rfl rfl (congrArg _ (if_pos h))
theorem s16_ok {c : Chart} (h : c.weights ≠ []) : stp (some c) [[16]] = (some c, 0 :: SrFraction.encode (SrFraction.mk c.weights.sum c.weights.length)) := by
  rw [← total_eq]
  exact q_of (call := .meanWeight) (r := ⟨0, SrFraction.encode (SrFraction.mk (totalWeight c) c.weights.length)⟩) rfl rfl (congrArg _ (if_neg h))
theorem s17 {c : Chart} : stp (some c) [[17]] = (some c, (c.weights.length : Int) :: ([c.target, (c.allowance : Int), (c.threshold : Int)] ++ c.weights)) := rfl
/-- no chart yet -/
theorem s_none {raw : List (List Int)} {n : Int} {ps : List Int} (h : Cal raw n ps) (hn : n ≠ 0) : stp none raw = (none, [-11]) := by
  cases h <;> first | rfl | exact absurd rfl hn
/-- at most 24 weights, at every call -/
theorem few_step {raw : List (List Int)} {n : Int} {ps : List Int} (h : Cal raw n ps) {s : St} (f : Few s) : Few (stp s raw).1 := by
  have few0 : ∀ t a b : Int, ∀ x y : Nat, Few (some ⟨t, x, y, []⟩) := fun _ _ _ _ _ c e => by
    cases e
    exact Nat.zero_le _
  cases s with
  | none =>
    by_cases hn : n = 0
    · cases h with
      | c0 a b d =>
        cases e : (isWeight a && (isLimit b && isLimit d)) with
        | false => rw [s0_bad e]; exact f
        | true => rw [s0_ok e]; exact few0 _ 0 0 _ _
      | _ => exact absurd hn (by decide)
    · rw [s_none h hn]
      exact fun c e => nomatch e
  | some c =>
    have fc : c.weights.length ≤ 24 := f c rfl
    have few1 : ∀ (t : Int) (x y : Nat) (l : List Int), l.length ≤ 24 → Few (some ⟨t, x, y, l⟩) := fun _ _ _ _ hl c e => by
      cases e
      exact hl
    cases h with
    | c0 a b d =>
      cases e : (isWeight a && (isLimit b && isLimit d)) with
      | false => rw [s0_bad e]; exact f
      | true => rw [s0_ok e]; exact few0 _ 0 0 _ _
    | c1 x =>
      cases e : isWeight x with
      | false => rw [s1_bad e]; exact f
      | true =>
        by_cases hl : 24 ≤ c.weights.length
        · rw [s1_full e hl]; exact f
        · rw [s1_ok e hl]
          exact few1 _ _ _ _ (by have := withShot_len c x; show (withShot c x).weights.length ≤ 24; omega)
    | c2 r =>
      by_cases hl : 24 < ps.length
      · rw [s2_bad (.inl hl)]; exact f
      · cases e : ps.all isWeight with
        | false => rw [s2_bad (.inr e)]; exact f
        | true => rw [s2_ok hl e]; exact few1 _ _ _ _ (by omega)
    | c3 => exact few1 _ _ _ _ (Nat.zero_le _)
    | c4 i x =>
      cases e : isShot c i with
      | false => rw [s4_no e]; exact f
      | true =>
        cases e2 : isWeight x with
        | false => rw [s4_bad e e2]; exact f
        | true => rw [s4_ok e e2]; exact few1 _ _ _ _ (by rw [List.length_set]; exact fc)
    | c5 x =>
      cases e : isWeight x with
      | false => rw [s5_bad e]; exact f
      | true => rw [s5_ok e]; exact few1 _ _ _ _ fc
    | c6 a b =>
      cases e : (isLimit a && isLimit b) with
      | false => rw [s6_bad e]; exact f
      | true =>
        have e' := e
        rw [Bool.and_eq_true] at e'
        obtain ⟨x, rfl⟩ := limit_nat e'.1
        obtain ⟨y, rfl⟩ := limit_nat e'.2
        rw [s6_ok e]
        exact few1 _ _ _ _ fc
    | _ => exact f
end Cu
end

section
set_option maxRecDepth 100000
set_option maxHeartbeats 4000000
namespace Cu
open PySem PySem.Spec PyProof.Rows L2
open Sr121 (Chart upperSums lowerSums isWeight isLimit isShot withShot)

/-! ### calls by name -/
section
variable {P : Program} {w : World} {K : PySem.W.Frag} {mg : Str → Option Value} {base : Heap}
/-- a def of the text at a name of the top -/
structure Df (K : PySem.W.Frag) (mg : Str → Option Value) (x : Str) (st : Stmt) (ps : List Str) (f : Addr) (fd : FuncData) : Prop where
  gl : mg x = some (.ref f)
  fn : Fun K x x st f fd
  bd : Binds K fd ps []
/-- a name of the top that holds a def which keeps its promise -/
structure Ok (P : Program) (w : World) (K : PySem.W.Frag) (mg : Str → Option Value) (base : Heap) (k : Nat) (x : Str) (sp : Sp) : Prop where
  ex : ∃ (f : Addr) (fd : FuncData) (ps : List Str), mg x = some (.ref f) ∧ PySem.W.keepIn K (.ref f) = true ∧ Binds K fd ps [] ∧ FnOk P w K mg base CX0 k f fd ps sp
theorem Df.ok {x : Str} {st : Stmt} {ps : List Str} {f : Addr} {fd : FuncData} {k : Nat} {sp : Sp} (D : Df K mg x st ps f fd) (F : FnOk P w K mg base CX0 k f fd ps sp) : Ok P w K mg base k x sp :=
  ⟨f, fd, ps, D.gl, D.fn.kp, D.bd, F⟩
end
section
variable {X : Cx} {k : Nat} {sp : Sp} {x : Str} {p pos : Pos} {e : Expr} {es : List Expr} {t : TA}
theorem pe_ok (G : Ok X.prog X.w X.K X.mg X.base k x sp) (hr : Room k X.A) (hg : Gl X x) (ha : PA X (e :: es) t) (hdb : (x == ("__debug__" : Str)) = false := by decide)
    (he : starEach (e :: es) X.env = (false, eval e X.env) :: starEach es X.env := by rfl) (hpl : (backTo pos (starEach es X.env)).any (·.1) = false := by rfl) :
    PE X (.Call (.Name x p) (e :: es) [] pos) (tCall sp [] E0 t) := by
  obtain ⟨f, fd, ps, gl, kp, bd, F⟩ := G.ex
  exact pe_call F hr hg gl kp bd .nil pass0 ha hdb he hpl
/-- a whole number of the top -/
def Num (mg : Str → Option Value) (x : Str) (z : Int) : Prop := ∃ t, mg x = some (.int z t)
theorem pe_num {z : Int} (h : Num X.mg x z) (hg : Gl X x) (hd : (x == ("__debug__" : Str)) = false := by decide) : PE X (.Name x pos) (tC (.int z)) := by
  obtain ⟨t, h⟩ := h
  exact pe_glob hg h ⟨t, rfl⟩ hd
end

/-! ### a dict of the written part with whole numbers for keys -/
/-- at a: the dict of these keys, each with the object at an address -/
structure Tab (K : PySem.W.Frag) (a : Addr) (tab : List (Int × Addr)) : Prop where
  ex : ∃ (es : Array DictEntry) (n : Nat), K.lookup a = some ⟨.type "dict", none, .dict es n, #[]⟩ ∧
    Paired (fun (p : Int × Addr) (e : DictEntry) => (∃ t, e.key = .int p.1 t) ∧ e.hash = hashInt p.1 ∧ e.val = .ref p.2) tab es.toList
  low : (a == sysModules) = false
theorem paired_find : ∀ {tab : List (Int × Addr)} {es : List DictEntry} (k : Int), Paired (fun (p : Int × Addr) (e : DictEntry) => (∃ t, e.key = .int p.1 t) ∧ e.hash = hashInt p.1 ∧ e.val = .ref p.2) tab es →
    (es.find? fun e => Value.isInt k e.key).map (·.val) = (tab.lookup k).map Value.ref
  | [], _, _, .nil => rfl
  | (i, b) :: tab, e :: es, k, .cons ⟨⟨t, h1⟩, h2, h3⟩ r => by
    have ih := paired_find k r
    have ek : Value.isInt k e.key = (k == i) := by
      rw [h1]
      show Value.isInt k (.int i t) = (k == i)
      by_cases c : k = i
      · subst c; simp [Value.isInt]
      · simp [Value.isInt, c, Ne.symm c, beq_eq_false_iff_ne.mpr c]
    rw [List.find?_cons, ek]
    cases c : (k == i) with
    | true => simp [List.lookup, c, h3]
    | false => simpa [List.lookup, c] using ih
theorem paired_keys {tab : List (Int × Addr)} {es : List DictEntry} (h : Paired (fun (p : Int × Addr) (e : DictEntry) => (∃ t, e.key = .int p.1 t) ∧ e.hash = hashInt p.1 ∧ e.val = .ref p.2) tab es) :
    ∀ e ∈ es, ∃ k t, e.key = .int k t ∧ e.hash = hashInt k := by
  induction h with
  | nil => intro e he; simp at he
  | cons r _ ih =>
    intro e he
    rcases List.mem_cons.mp he with q | q
    · subst q
      obtain ⟨⟨t, h1⟩, h2, _⟩ := r
      exact ⟨_, t, h1, h2⟩
    · exact ih e q
section
variable {prog : Program} {w : World} {h : Heap} {K : PySem.W.Frag} {a : Addr} {tab : List (Int × Addr)}
theorem Tab.map (T : Tab K a tab) (X : K.In h) : ∃ f : Int → Option Value, h.MapOf (intKind prog w) a f ∧ ∀ k, f k = (tab.lookup k).map Value.ref := by
  obtain ⟨es, n, hl, pr⟩ := T.ex
  refine ⟨fun k => findBy Value.isInt es k, ⟨_, es, n, X _ _ hl, ⟨rfl, rfl, rfl⟩, rfl, fun e he => ?_, fun _ => rfl⟩, fun k => ?_⟩
  · obtain ⟨k, t, e1, e2⟩ := paired_keys pr e (Array.mem_toList_iff.mpr he)
    exact ⟨k, by rw [e1]; show Value.isInt k (.int k t) = true; simp [Value.isInt], e2⟩
  · show findBy Value.isInt es k = _
    unfold findBy
    rw [← Array.find?_toList]
    exact paired_find k pr
end
section
variable {X : Cx} {a : Addr} {tab : List (Int × Addr)}
theorem op_inT (T : Tab X.K a tab) : OpR X (compareOp .In) (fun x y H Q => ∃ z, x = .int z ∧ y = .ref a ∧ Q (.bl (tab.lookup z).isSome) H) := by
  intro pins s σ H x y v u Q I rx ry h
  obtain ⟨z, rfl, rfl, q⟩ := h
  obtain ⟨t, rfl⟩ := rx
  cases ry
  obtain ⟨f, hm, hf⟩ := T.map (prog := X.prog) (w := X.w) I.kIn
  refine wpAny_in_of (show (intKind X.prog X.w).is z (.int z t) = true by show Value.isInt z (.int z t) = true; simp [Value.isInt]) T.low hm ?_
  rw [hf]
  exact ⟨.bl (tab.lookup z).isSome, H, by rw [Option.isSome_map]; exact ⟨I.tok _, rfl, q⟩⟩
/-- d[key], d a table of the written part -/
def rIxTab (a : Addr) (tab : List (Int × Addr)) : R2 := fun x y H Q => ∃ z b, x = .ref a ∧ y = .int z ∧ tab.lookup z = some b ∧ Q (.ref b) H
theorem ix_tab (T : Tab X.K a tab) : IxR X (rIxTab a tab) := by
  intro value slice pins s σ H x y v u Q I rx ry h hs
  obtain ⟨z, b, rfl, rfl, e, q⟩ := h
  cases rx
  obtain ⟨t, rfl⟩ := ry
  obtain ⟨f, hm, hf⟩ := T.map (prog := X.prog) (w := X.w) I.kIn
  have e2 : f z = some (.ref b) := by rw [hf, e]; rfl
  exact tail_any hm.typeIs slot_dict_getitem.lookup (wpAny_getItem_of (show (intKind X.prog X.w).is z (.int z t) = true by show Value.isInt z (.int z t) = true; simp [Value.isInt]) hm e2 ⟨.ref b, H, I.tok _, rfl, q⟩) hs
end

/-! ### heaps -/
theorem same_upd {H : Hp} {p : Addr} {o : HO} (h : H p = none) : Same H (upd H p o) := fun b x e => by
  rw [upd_ne (ne_of_none e h)]
  exact e
/-- a change at an address that was not there -/
theorem same_at {H H1 : Hp} {p : Addr} {o : HO} (s : Same H H1) (h : H p = none) : Same H (upd H1 p o) := fun b x e => by
  rw [upd_ne (ne_of_none e h)]
  exact s _ _ e
theorem tr {xs : List V} {H : Hp} {p : Addr} : upd H p (.lst xs) p = some (.lst xs) := upd_same

/-! ### the chart's object -/
def iF (t a h : Int) (wl : Addr) : List (Str × V) := [("target", .int t), ("allowance", .int a), ("threshold", .int h), ("weights", .ref wl)]
theorem lk_here {k : Str} {v : V} {r : List (Str × V)} : List.lookup k ((k, v) :: r) = some v := by
  have e : (k == k) = true := beq_self_eq_true k
  simp only [List.lookup, e]
theorem lk_past {k g : Str} {v : V} {r : List (Str × V)} (h : (k == g) = false) : List.lookup k ((g, v) :: r) = List.lookup k r := by
  simp only [List.lookup, h]
theorem put_past {f g : Str} {v x : V} {r : List (Str × V)} (h : ¬ g = f) : putF f v ((g, x) :: r) = (g, x) :: putF f v r := if_neg h
section
variable {t a h : Int} {wl : Addr}
theorem iF_t : (iF t a h wl).lookup ("target" : Str) = some (.int t) := lk_here
theorem iF_a : (iF t a h wl).lookup ("allowance" : Str) = some (.int a) := (lk_past (by decide +kernel)).trans lk_here
theorem iF_h : (iF t a h wl).lookup ("threshold" : Str) = some (.int h) := (lk_past (by decide +kernel)).trans ((lk_past (by decide +kernel)).trans lk_here)
theorem iF_w : (iF t a h wl).lookup ("weights" : Str) = some (.ref wl) := (lk_past (by decide +kernel)).trans ((lk_past (by decide +kernel)).trans ((lk_past (by decide +kernel)).trans lk_here))
theorem iF_new : putF "weights" (.ref wl) (putF "threshold" (.int h) (putF "allowance" (.int a) (putF "target" (.int t) []))) = iF t a h wl := by
  have e1 : putF "allowance" (.int a) (putF "target" (.int t) []) = ([("target", .int t), ("allowance", .int a)] : List (Str × V)) := (put_past (by decide +kernel)).trans rfl
  have e2 : putF "threshold" (.int h) ([("target", V.int t), ("allowance", .int a)] : List (Str × V)) = ([("target", .int t), ("allowance", .int a), ("threshold", .int h)] : List (Str × V)) := (put_past (by decide +kernel)).trans (congrArg _ ((put_past (by decide +kernel)).trans rfl))
  rw [e1, e2]
  exact (put_past (by decide +kernel)).trans (congrArg _ ((put_past (by decide +kernel)).trans (congrArg _ ((put_past (by decide +kernel)).trans rfl))))
end
/-- the chart c stands at a, its weights at wl -/
structure InstAt (C : Addr) (H : Hp) (a : Addr) (c : Chart) (wl : Addr) : Prop where
  ob : ∃ dx, H a = some (.ins C dx (iF c.target (c.allowance : Int) (c.threshold : Int) wl))
  ws : H wl = some (.lst (c.weights.map V.int))
theorem InstAt.same {C : Addr} {H H' : Hp} {a : Addr} {c : Chart} {wl : Addr} (I : InstAt C H a c wl) (s : Same H H') : InstAt C H' a c wl :=
  ⟨let ⟨dx, e⟩ := I.ob; ⟨dx, s _ _ e⟩, s _ _ I.ws⟩
def StAt (C : Addr) (H : Hp) (v : V) (s : Option Chart) (ok : Addr → Prop) : Prop := match s with
  | none => v = .non
  | some c => ∃ a wl, v = .ref a ∧ ok wl ∧ InstAt C H a c wl
theorem StAt.same {C : Addr} {H H' : Hp} {v : V} {s : Option Chart} {ok : Addr → Prop} (I : StAt C H v s ok) (q : Same H H') : StAt C H' v s ok := by
  cases s with
  | none => exact I
  | some c =>
    obtain ⟨a, wl, e, o, i⟩ := I
    exact ⟨a, wl, e, o, i.same q⟩

/-! ### what the top has written -/
structure Txt (K : PySem.W.Frag) (mg : Str → Option Value) (C : Addr) : Prop where
  cl : Cls K C
  nT : NoAttr K C "target"
  nA : NoAttr K C "allowance"
  nH : NoAttr K C "threshold"
  nW : NoAttr K C "weights"
  gC : mg "Instance" = some (.ref C)
  setShots : Num mg "SET_SHOTS" 2
  noShot : Num mg "NO_SUCH_SHOT" (-2)
  noShots : Num mg "NO_SHOTS" (-6)
  noInst : Num mg "NO_INSTANCE" (-11)
  outR : Num mg "OUT_OF_RANGE" (-22)
  tooMany : Num mg "TOO_MANY_SHOTS" (-28)
  noAlarm : Num mg "NO_ALARM" (-33)
  mostShots : Num mg "MOST_SHOTS" 24
  mostW : Num mg "MOST_WEIGHT" 9999
  mostL : Num mg "MOST_LIMIT" 999
  create : Num mg "CREATE" 0
  len : mg "len" = none
  range : mg "range" = none
  max : mg "max" = none
  abs : mg "abs" = none
  sum : mg "sum" = none
  list : mg "list" = none
  enumerate : mg "enumerate" = none
  zip : mg "zip" = none
theorem line_of {n : Nat} (h : n ≤ 16000000) : n ≤ sizeLine := by rw [sizeLine_eq]; omega
theorem line_lt {n : Nat} (h : n ≤ 16000000) : n < sizeLine := by rw [sizeLine_eq]; omega

/-- the i-th statement of the program -/
def top (i : Nat) : Stmt := PySem.Challenge.pw_shotsums_s01_answers.main.body.getD i (.Pass ⟨0, 0, 0, 0⟩)
end Cu
end

section
set_option maxRecDepth 100000
set_option maxHeartbeats 4000000
namespace Cu
open PySem PySem.Spec PyProof.Rows L2
open Sr121 (Chart upperSums lowerSums isWeight isLimit isShot withShot)
section
variable {P : Program} {w : World} {K : PySem.W.Frag} {mg : Str → Option Value} {base : Heap} {C : Addr}

def spExc (C : Addr) : Sp := fun vs H Q _ => ∃ (a : Addr) (x : Int) (c : Chart) (wl : Addr), vs = [.ref a, .int x] ∧ InstAt C H a c wl ∧ Q (.int (Sr121.excess c x)) H
def spSho (C : Addr) : Sp := fun vs H Q _ => ∃ (a : Addr) (x : Int) (c : Chart) (wl : Addr), vs = [.ref a, .int x] ∧ InstAt C H a c wl ∧ Q (.int (Sr121.shortfall c x)) H
def spHas (C : Addr) : Sp := fun vs H Q _ => ∃ (a : Addr) (x : Int) (c : Chart) (wl : Addr), vs = [.ref a, .int x] ∧ InstAt C H a c wl ∧ Q (.bl (isShot c x)) H
def spInW : Sp := fun vs H Q _ => ∃ (x : Int), vs = [.int x] ∧ Q (.bl (isWeight x)) H
def spInL : Sp := fun vs H Q _ => ∃ (x : Int), vs = [.int x] ∧ Q (.bl (isLimit x)) H
def spAll : Sp := fun vs H Q _ => ∃ (a : Addr) (ns : List Int), vs = [.ref a] ∧ H a = some (.lst (ns.map V.int)) ∧ Q (.bl (ns.all isWeight)) H
def spCode (C : Addr) : Sp := fun vs H Q _ => ∃ (a : Addr) (u l : Int) (c : Chart) (wl : Addr), vs = [.ref a, .int u, .int l] ∧ InstAt C H a c wl ∧ Q (.int (codeOf c.threshold u l)) H
def spGcd : Sp := fun vs H Q _ => ∃ (m n : Nat), vs = [.int (m : Int), .int (n : Int)] ∧ Q (.int ((Nat.gcd m n : Nat) : Int)) H
abbrev sExcess : Stmt := top 32
theorem scExcess : FnScope ["instance", "weight"] ["instance", "weight"] (defScope sExcess) := ⟨rfl, rfl, rfl, by decide +kernel, rfl, by decide +kernel, by decide +kernel⟩
theorem ok_excess {f : Addr} {fd : FuncData} (T : Txt K mg C) (D : Df K mg "excess" sExcess ["instance", "weight"] f fd) : Ok P w K mg base 1 "excess" (spExc C) := by
  refine D.ok (D.fn.ok scExcess (fun vs H Q E h => ?_) (fun cdv A outer s H vs Q E hr h => ?_))
  · obtain ⟨a, x, c, wl, rfl, _⟩ := h
    rfl
  · obtain ⟨a, x, c, wl, rfl, I, q⟩ := h
    refine ⟨_, (pss_one (ps_ret (pe_op op_sub (pe_op op_sub (pv 1) (pe_fld (pv 0) rfl)) (pe_fld (pv 0) rfl)))), ?_⟩
    obtain ⟨dx, eo⟩ := I.ob
    exact ⟨_, rfl, _, rfl, _, C, _, _, _, rfl, eo, T.cl, T.nT, iF_t, _, _, rfl, rfl, _, rfl, _, C, _, _, _, rfl, eo, T.cl, T.nA, iF_a, _, _, rfl, rfl, q⟩
abbrev sShortfall : Stmt := top 33
theorem scShortfall : FnScope ["instance", "weight"] ["instance", "weight"] (defScope sShortfall) := ⟨rfl, rfl, rfl, by decide +kernel, rfl, by decide +kernel, by decide +kernel⟩
theorem ok_shortfall {f : Addr} {fd : FuncData} (T : Txt K mg C) (D : Df K mg "shortfall" sShortfall ["instance", "weight"] f fd) : Ok P w K mg base 1 "shortfall" (spSho C) := by
  refine D.ok (D.fn.ok scShortfall (fun vs H Q E h => ?_) (fun cdv A outer s H vs Q E hr h => ?_))
  · obtain ⟨a, x, c, wl, rfl, _⟩ := h
    rfl
  · obtain ⟨a, x, c, wl, rfl, I, q⟩ := h
    refine ⟨_, (pss_one (ps_ret (pe_op op_sub (pe_op op_sub (pe_fld (pv 0) rfl) (pv 1)) (pe_fld (pv 0) rfl)))), ?_⟩
    obtain ⟨dx, eo⟩ := I.ob
    exact ⟨_, rfl, _, C, _, _, _, rfl, eo, T.cl, T.nT, iF_t, _, rfl, _, _, rfl, rfl, _, rfl, _, C, _, _, _, rfl, eo, T.cl, T.nA, iF_a, _, _, rfl, rfl, q⟩
abbrev sHasShot : Stmt := top 10
theorem scHasShot : FnScope ["instance", "shot"] ["instance", "shot"] (defScope sHasShot) := ⟨rfl, rfl, rfl, by decide +kernel, rfl, by decide +kernel, by decide +kernel⟩
theorem ok_has_shot {f : Addr} {fd : FuncData} (T : Txt K mg C) (D : Df K mg "has_shot" sHasShot ["instance", "shot"] f fd) : Ok P w K mg base 1 "has_shot" (spHas C) := by
  refine D.ok (D.fn.ok scHasShot (fun vs H Q E h => ?_) (fun cdv A outer s H vs Q E hr h => ?_))
  · obtain ⟨a, x, c, wl, rfl, _⟩ := h
    rfl
  · obtain ⟨a, x, c, wl, rfl, I, q⟩ := h
    refine ⟨_, (pss_one (ps_ret (pe_chain op_le op_lt pe_int (pv 1) (pe_callB call_len_seq (by rfl) T.len PySem.boot_len (pa_cons (pe_fld (pv 0) rfl) pa_nil))))), ?_⟩
    obtain ⟨dx, eo⟩ := I.ob
    refine ⟨_, rfl, _, _, rfl, rfl, _, rfl, ?_⟩
    by_cases h0 : (0 : Int) ≤ x
    · rw [decide_eq_true h0]
      refine iteT ⟨_, rfl, _, C, _, _, _, rfl, eo, T.cl, T.nW, iF_w, _, _, rfl, .inl (.inl (.inl I.ws)), _, _, rfl, rfl, ?_⟩
      have e : isShot c x = decide (x < ((c.weights.map V.int).length : Int)) := by
        show (decide (0 ≤ x) && decide (x < (c.weights.length : Int))) = _
        rw [decide_eq_true h0, List.length_map, Bool.true_and]
      rw [e] at q
      exact q
    · rw [decide_eq_false h0]
      refine iteF ?_
      have e : isShot c x = false := by
        show (decide (0 ≤ x) && decide (x < (c.weights.length : Int))) = _
        rw [decide_eq_false h0, Bool.false_and]
      rw [e] at q
      exact q
abbrev sInWeightRange : Stmt := top 21
theorem scInWeightRange : FnScope ["number"] ["number"] (defScope sInWeightRange) := ⟨rfl, rfl, rfl, by decide +kernel, rfl, by decide +kernel, by decide +kernel⟩
theorem ok_in_weight_range {f : Addr} {fd : FuncData} (T : Txt K mg C) (D : Df K mg "in_weight_range" sInWeightRange ["number"] f fd) : Ok P w K mg base 1 "in_weight_range" spInW := by
  refine D.ok (D.fn.ok scInWeightRange (fun vs H Q E h => ?_) (fun cdv A outer s H vs Q E hr h => ?_))
  · obtain ⟨x, rfl, _⟩ := h
    rfl
  · obtain ⟨x, rfl, q⟩ := h
    refine ⟨_, (pss_one (ps_ret (pe_chain op_le op_le (pe_un un_neg (pe_num T.mostW (by rfl))) (pv 0) (pe_num T.mostW (by rfl))))), ?_⟩
    refine ⟨_, rfl, _, rfl, _, _, rfl, rfl, _, rfl, ?_⟩
    by_cases h0 : (-9999 : Int) ≤ x
    · rw [decide_eq_true h0]
      refine iteT ⟨_, _, rfl, rfl, ?_⟩
      have e : isWeight x = decide (x ≤ 9999) := by
        show (decide (-9999 ≤ x) && decide (x ≤ 9999)) = _
        rw [decide_eq_true h0, Bool.true_and]
      rw [e] at q
      exact q
    · rw [decide_eq_false h0]
      refine iteF ?_
      have e : isWeight x = false := by
        show (decide (-9999 ≤ x) && decide (x ≤ 9999)) = _
        rw [decide_eq_false h0, Bool.false_and]
      rw [e] at q
      exact q
abbrev sInLimitRange : Stmt := top 22
theorem scInLimitRange : FnScope ["number"] ["number"] (defScope sInLimitRange) := ⟨rfl, rfl, rfl, by decide +kernel, rfl, by decide +kernel, by decide +kernel⟩
theorem ok_in_limit_range {f : Addr} {fd : FuncData} (T : Txt K mg C) (D : Df K mg "in_limit_range" sInLimitRange ["number"] f fd) : Ok P w K mg base 1 "in_limit_range" spInL := by
  refine D.ok (D.fn.ok scInLimitRange (fun vs H Q E h => ?_) (fun cdv A outer s H vs Q E hr h => ?_))
  · obtain ⟨x, rfl, _⟩ := h
    rfl
  · obtain ⟨x, rfl, q⟩ := h
    refine ⟨_, (pss_one (ps_ret (pe_chain op_le op_le pe_int (pv 0) (pe_num T.mostL (by rfl))))), ?_⟩
    refine ⟨_, rfl, _, _, rfl, rfl, _, rfl, ?_⟩
    by_cases h0 : (0 : Int) ≤ x
    · rw [decide_eq_true h0]
      refine iteT ⟨_, _, rfl, rfl, ?_⟩
      have e : isLimit x = decide (x ≤ 999) := by
        show (decide (0 ≤ x) && decide (x ≤ 999)) = _
        rw [decide_eq_true h0, Bool.true_and]
      rw [e] at q
      exact q
    · rw [decide_eq_false h0]
      refine iteF ?_
      have e : isLimit x = false := by
        show (decide (0 ≤ x) && decide (x ≤ 999)) = _
        rw [decide_eq_false h0, Bool.false_and]
      rw [e] at q
      exact q
theorem map_at {ns : List Int} {i : Nat} {y : V} (h : (ns.map V.int)[i]? = some y) : ∃ z, ns[i]? = some z ∧ y = V.int z := by
  rw [List.getElem?_map] at h
  cases e : ns[i]? with
  | none => rw [e] at h; cases h
  | some z => rw [e] at h; exact ⟨z, rfl, (Option.some.inj h).symm⟩
theorem all_take {ns : List Int} {p : Int → Bool} {i : Nat} {z : Int} (h : ns[i]? = some z) : (ns.take (i + 1)).all p = ((ns.take i).all p && p z) := by
  obtain ⟨hi, e⟩ := List.getElem?_eq_some_iff.mp h
  rw [← List.take_append_getElem hi, List.all_append, e]
  simp
theorem not_all {ns : List Int} {p : Int → Bool} {i : Nat} {z : Int} (h : ns[i]? = some z) (hz : p z = false) : ns.all p = false := by
  obtain ⟨hi, e⟩ := List.getElem?_eq_some_iff.mp h
  rw [List.all_eq_false]
  exact ⟨z, by rw [← e]; exact List.getElem_mem hi, by rw [hz]; exact Bool.false_ne_true⟩
abbrev sAllInWeightRange : Stmt := top 23
theorem scAllInWeightRange : FnScope ["numbers", "number"] ["numbers"] (defScope sAllInWeightRange) := ⟨rfl, rfl, rfl, by decide +kernel, rfl, by decide +kernel, by decide +kernel⟩
theorem ok_all_in_weight_range {f : Addr} {fd : FuncData} (T : Txt K mg C) (D : Df K mg "all_in_weight_range" sAllInWeightRange ["numbers"] f fd) (G_in_weight_range : Ok P w K mg base 1 "in_weight_range" spInW) : Ok P w K mg base 2 "all_in_weight_range" spAll := by
  refine D.ok (D.fn.ok scAllInWeightRange (fun vs H Q E h => ?_) (fun cdv A outer s H vs Q E hr h => ?_))
  · obtain ⟨a, ns, rfl, _⟩ := h
    rfl
  · obtain ⟨a, ns, rfl, hS, q⟩ := h
    refine ⟨_, (pss_cons (ps_for PassesOwn.never rfl (pi_list (pv 0)) (pg_name (i := 1) scAllInWeightRange.nd rfl (Or.inl rfl)) (pss_one (ps_if (pt_not (pt_val (pe_ok G_in_weight_range (hr.mono (by decide)) (by rfl) (pa_cons (pv 1) pa_nil)))) (pss_one (ps_ret pe_bl)) pss_nil)))
      (pss_one (ps_ret pe_bl))), ?_⟩
    refine ⟨_, rfl, a, rfl, ⟨_, .inl (.inl hS)⟩, for_list (K := K) (a := a) (xs := ns.map V.int) (fun i σ H' => ∃ v, σ = [some (.ref a), v] ∧ H' = H ∧ (ns.take i).all isWeight = true)
      ⟨none, rfl, rfl, rfl⟩ (fun i σ H' _ ⟨_, _, e, _⟩ => by rw [e]; exact .inl (.inl hS)) ?_ ?_⟩
    · rintro i y σ H' hi ⟨v, rfl, rfl, ha⟩
      obtain ⟨z, hz, rfl⟩ := map_at hi
      refine ⟨_, rfl, z, rfl, _, rfl, ?_⟩
      cases e : isWeight z with
      | true => exact iteF ⟨_, rfl, rfl, by rw [all_take hz, ha, e]; rfl⟩
      | false =>
        refine iteT ?_
        rw [not_all hz e] at q
        exact q
    · rintro σ H' ⟨v, rfl, rfl, ha⟩
      rw [List.length_map, List.take_length] at ha
      rw [ha] at q
      exact q
abbrev sAlarmCode : Stmt := top 39
theorem scAlarmCode : FnScope ["instance", "upper", "lower", "code"] ["instance", "upper", "lower"] (defScope sAlarmCode) := ⟨rfl, rfl, rfl, by decide +kernel, rfl, by decide +kernel, by decide +kernel⟩
theorem ok_alarm_code {f : Addr} {fd : FuncData} (T : Txt K mg C) (D : Df K mg "alarm_code" sAlarmCode ["instance", "upper", "lower"] f fd) : Ok P w K mg base 1 "alarm_code" (spCode C) := by
  refine D.ok (D.fn.ok scAlarmCode (fun vs H Q E h => ?_) (fun cdv A outer s H vs Q E hr h => ?_))
  · obtain ⟨a, u, l, c, wl, rfl, _⟩ := h
    rfl
  · obtain ⟨a, u, l, c, wl, rfl, I, q⟩ := h
    refine ⟨_, (pss_cons (ps_set (i := 3) scAlarmCode.nd rfl (Or.inl rfl) pe_int)
      (pss_cons (ps_if (pt_cmpR op_gt (pv 1) (pe_fld (pv 0) rfl) (nomark _)) (pss_one (ps_set (i := 3) scAlarmCode.nd rfl (Or.inl rfl) (pe_op op_add (pv 3) pe_int))) pss_nil)
      (pss_cons (ps_if (pt_cmpR op_gt (pv 2) (pe_fld (pv 0) rfl) (nomark _)) (pss_one (ps_set (i := 3) scAlarmCode.nd rfl (Or.inl rfl) (pe_op op_add (pv 3) pe_int))) pss_nil)
      (pss_one (ps_ret (pv 3)))))), ?_⟩
    obtain ⟨dx, eo⟩ := I.ob
    refine ⟨_, rfl, _, rfl, _, C, _, _, _, rfl, eo, T.cl, T.nH, iF_h, _, _, rfl, rfl, _, rfl, ?_⟩
    by_cases h1 : u > (c.threshold : Int)
    · rw [decide_eq_true h1]
      refine iteT ⟨_, rfl, _, _, rfl, rfl, _, rfl, _, rfl, _, C, _, _, _, rfl, eo, T.cl, T.nH, iF_h, _, _, rfl, rfl, _, rfl, ?_⟩
      by_cases h2 : l > (c.threshold : Int)
      · rw [decide_eq_true h2]
        refine iteT ⟨_, rfl, _, _, rfl, rfl, _, rfl, ?_⟩
        unfold codeOf at q
        rw [if_pos h1, if_pos h2] at q
        exact q
      · rw [decide_eq_false h2]
        refine iteF ⟨_, rfl, ?_⟩
        unfold codeOf at q
        rw [if_pos h1, if_neg h2] at q
        exact q
    · rw [decide_eq_false h1]
      refine iteF ⟨_, rfl, _, rfl, _, C, _, _, _, rfl, eo, T.cl, T.nH, iF_h, _, _, rfl, rfl, _, rfl, ?_⟩
      by_cases h2 : l > (c.threshold : Int)
      · rw [decide_eq_true h2]
        refine iteT ⟨_, rfl, _, _, rfl, rfl, _, rfl, ?_⟩
        unfold codeOf at q
        rw [if_neg h1, if_pos h2] at q
        exact q
      · rw [decide_eq_false h2]
        refine iteF ⟨_, rfl, ?_⟩
        unfold codeOf at q
        rw [if_neg h1, if_neg h2] at q
        exact q
abbrev sGreatestCommonDivisor : Stmt := top 25
theorem scGreatestCommonDivisor : FnScope ["first", "second"] ["first", "second"] (defScope sGreatestCommonDivisor) := ⟨rfl, rfl, rfl, by decide +kernel, rfl, by decide +kernel, by decide +kernel⟩
theorem ok_greatest_common_divisor {f : Addr} {fd : FuncData} (T : Txt K mg C) (D : Df K mg "greatest_common_divisor" sGreatestCommonDivisor ["first", "second"] f fd) : Ok P w K mg base 1 "greatest_common_divisor" spGcd := by
  refine D.ok (D.fn.ok scGreatestCommonDivisor (fun vs H Q E h => ?_) (fun cdv A outer s H vs Q E hr h => ?_))
  · obtain ⟨m, n, rfl, _⟩ := h
    rfl
  · obtain ⟨m, n, rfl, q⟩ := h
    refine ⟨_, (pss_cons (ps_while PassesOwn.never (pt_cmpR op_gt (pv 1) pe_int (nomark _)) (pss_one (ps_par (i := 0) (j := 1) rfl scGreatestCommonDivisor.nd rfl rfl (by decide) rfl rfl (pa_cons (pv 1) (pa_cons (pe_op op_modN (pv 0) (pv 1)) pa_nil)) (by rfl))))
      (pss_one (ps_ret (pv 0)))), ?_⟩
    refine ⟨fun t σ H' => ∃ m' n' : Nat, σ = [some (.int (m' : Int)), some (.int (n' : Int))] ∧ H' = H ∧ n' = t ∧ Nat.gcd m' n' = Nat.gcd m n, ⟨n, m, n, rfl, rfl, rfl, rfl⟩, ?_⟩
    rintro t σ H' ⟨m', n', rfl, rfl, rfl, eg⟩
    refine ⟨_, rfl, _, _, rfl, rfl, _, rfl, ?_⟩
    by_cases h0 : (0 : Int) < (n' : Int)
    · rw [decide_eq_true h0]
      refine iteT ⟨fun σ2 H2 => σ2 = [some (.int (n' : Int)), some (.int ((m' % n' : Nat) : Int))] ∧ H2 = H', fun σ2 H2 h2 => ?_, ?_⟩
      · obtain ⟨rfl, rfl⟩ := h2
        exact ⟨m' % n', Nat.mod_lt _ (by omega), n', m' % n', rfl, rfl, rfl, by rw [gcd_step (by omega)]; exact eg⟩
      · refine ⟨_, rfl, _, rfl, _, rfl, _, _, rfl, rfl, (by omega), _, _, rfl, ?_, rfl⟩
        have ef : (m' : Int).fmod (n' : Int) = ((m' % n' : Nat) : Int) := by
          rw [Int.fmod_eq_emod_of_nonneg _ (by omega)]
          rfl
        show [some (V.int (n' : Int)), some (V.int ((m' : Int).fmod (n' : Int)))] = _
        rw [ef]
    · rw [decide_eq_false h0]
      refine iteF ⟨_, rfl, ?_⟩
      have e0 : n' = 0 := by omega
      subst e0
      rw [Nat.gcd_zero_right] at eg
      rw [← eg] at q
      exact q
end
end Cu
end

section
set_option maxRecDepth 100000
set_option maxHeartbeats 4000000
namespace Cu
open PySem PySem.Spec PyProof.Rows L2
open Sr121 (Chart upperSums lowerSums isWeight isLimit isShot withShot)
section
variable {P : Program} {w : World} {K : PySem.W.Frag} {mg : Str → Option Value} {base : Heap} {C : Addr}

def spOns : Sp := fun vs H Q _ => ∃ (a : Addr) (xs : List Int), vs = [.ref a] ∧ H a = some (.lst (xs.map V.int)) ∧
  ∀ st : Nat, st ≤ xs.length → (∀ k, st ≤ k → k < xs.length → xs.getD k 0 > 0) → (st = 0 ∨ ¬ xs.getD (st - 1) 0 > 0) → Q (.int (st : Int)) H
def spWor : Sp := fun vs H Q _ => ∃ (a : Addr) (ds : List Int), vs = [.ref a] ∧ H a = some (.lst (ds.map V.int)) ∧ ds.length ≤ 100 ∧
  ∀ H' p, Same H H' → H' p = some (.lst [.int (worstFrom ds ds.length).1, .int ((worstFrom ds ds.length).2 : Int)]) → Q (.ref p) H'
def spLon : Sp := fun vs H Q _ => ∃ (a : Addr) (ds : List Int), vs = [.ref a] ∧ H a = some (.lst (ds.map V.int)) ∧ Q (.int (runS ds).1) H
def spCum : Sp := fun vs H Q _ => ∃ (a : Addr) (ds : List Int), vs = [.ref a] ∧ H a = some (.lst (ds.map V.int)) ∧ ds.length ≤ 100 ∧
  ∀ H' p, Same H H' → H' p = some (.lst ((cum ds 0).map V.int)) → Q (.ref p) H'
def spLow : Sp := fun vs H Q _ => ∃ (num : Int) (den : Nat), vs = [.int num, .int (den : Int)] ∧ 0 < den ∧ den ≤ 100 ∧
  ∀ H' p, Same H H' → H' p = some (.lst ((SrFraction.encode (SrFraction.mk num den)).map V.int)) → Q (.ref p) H'
theorem at_map {ns : List Int} {i : Nat} {z : Int} (h : ns[i]? = some z) : (ns.map V.int)[i]? = some (V.int z) := by
  rw [List.getElem?_map, h]
  rfl
theorem getD_of {ns : List Int} {i : Nat} {z : Int} (h : ns[i]? = some z) : ns.getD i 0 = z := by
  rw [List.getD_eq_getElem?_getD, h]
  rfl
abbrev sOnsetAtLast : Stmt := top 28
theorem scOnsetAtLast : FnScope ["sums", "start"] ["sums"] (defScope sOnsetAtLast) := ⟨rfl, rfl, rfl, by decide +kernel, rfl, by decide +kernel, by decide +kernel⟩
theorem ok_onset_at_last {f : Addr} {fd : FuncData} (T : Txt K mg C) (D : Df K mg "onset_at_last" sOnsetAtLast ["sums"] f fd) : Ok P w K mg base 1 "onset_at_last" spOns := by
  refine D.ok (D.fn.ok scOnsetAtLast (fun vs H Q E h => ?_) (fun cdv A outer s H vs Q E hr h => ?_))
  · obtain ⟨a, xs, rfl, _⟩ := h
    rfl
  · obtain ⟨a, xs, rfl, hS, q⟩ := h
    refine ⟨_, (pss_cons (ps_set (i := 1) scOnsetAtLast.nd rfl (Or.inl rfl) (pe_callB call_len_seq (by rfl) T.len PySem.boot_len (pa_cons (pv 0) pa_nil)))
      (pss_cons (ps_while PassesOwn.never (PW.pt (pw_and (pt_cmpR op_gt (pv 1) pe_int (nomark _)) (pw_and1 (pt_cmpR op_gt (pe_ix ix_list (pv 0) (pe_op op_sub (pv 1) pe_int) (fun _ _ => rfl)) pe_int (nomark _))))) (pss_one (ps_set (i := 1) scOnsetAtLast.nd rfl (Or.inl rfl) (pe_op op_sub (pv 1) pe_int))))
      (pss_one (ps_ret (pv 1))))), ?_⟩
    refine ⟨_, rfl, a, _, rfl, .inl (.inl (.inl hS)), ?_⟩
    refine ⟨fun t σ H' => ∃ st : Nat, σ = [some (.ref a), some (.int (st : Int))] ∧ H' = H ∧ st = t ∧ st ≤ xs.length ∧ (∀ k, st ≤ k → k < xs.length → xs.getD k 0 > 0),
      ⟨xs.length, xs.length, by rw [List.length_map]; rfl, rfl, rfl, Nat.le_refl _, fun k h1 h2 => by omega⟩, ?_⟩
    rintro t σ H' ⟨st, rfl, rfl, rfl, hle, hk⟩
    refine ⟨_, rfl, _, _, rfl, rfl, _, rfl, ?_⟩
    by_cases h0 : (0 : Int) < (st : Int)
    · rw [decide_eq_true h0]
      obtain ⟨m, rfl⟩ : ∃ m, st = m + 1 := ⟨st - 1, by omega⟩
      have hm : xs[m]? = some xs[m] := List.getElem?_eq_getElem (by omega)
      have em : ((m + 1 : Nat) : Int) - 1 = (m : Int) := by omega
      refine iteT ⟨_, rfl, _, rfl, _, _, rfl, rfl, a, _, _, .int xs[m], rfl, rfl, .inl (.inl hS), by rw [em]; exact atI_nat (at_map hm), _, _, rfl, rfl, _, rfl, ?_⟩
      by_cases h1 : (0 : Int) < xs[m]
      · rw [decide_eq_true h1]
        refine iteT ⟨fun σ2 H2 => σ2 = [some (.ref a), some (.int (m : Int))] ∧ H2 = H', fun σ2 H2 h2 => ?_, ?_⟩
        · obtain ⟨rfl, rfl⟩ := h2
          refine ⟨m, by omega, m, rfl, rfl, rfl, by omega, fun k hk1 hk2 => ?_⟩
          by_cases e : k = m
          · subst e
            rw [getD_of hm]
            exact h1
          · exact hk k (by omega) hk2
        · refine ⟨_, rfl, _, _, rfl, rfl, ?_, rfl⟩
          show [some (V.ref a), some (V.int (((m + 1 : Nat) : Int) - 1))] = _
          rw [em]
      · rw [decide_eq_false h1]
        refine iteF ⟨_, rfl, q (m + 1) hle hk (.inr ?_)⟩
        show ¬ xs.getD m 0 > 0
        rw [getD_of hm]
        exact h1
    · rw [decide_eq_false h0]
      refine iteF (iteF ⟨_, rfl, q st hle hk (.inl (by omega))⟩)
abbrev sWorstRunAtLast : Stmt := top 29
theorem scWorstRunAtLast : FnScope ["deviations", "value", "start", "total", "place"] ["deviations"] (defScope sWorstRunAtLast) := ⟨rfl, rfl, rfl, by decide +kernel, rfl, by decide +kernel, by decide +kernel⟩
theorem ok_worst_run_at_last {f : Addr} {fd : FuncData} (T : Txt K mg C) (D : Df K mg "worst_run_at_last" sWorstRunAtLast ["deviations"] f fd) : Ok P w K mg base 1 "worst_run_at_last" spWor := by
  refine D.ok (D.fn.ok scWorstRunAtLast (fun vs H Q E h => ?_) (fun cdv A outer s H vs Q E hr h => ?_))
  · obtain ⟨a, ds, rfl, _⟩ := h
    rfl
  · obtain ⟨a, ds, rfl, hS, hlen, q⟩ := h
    refine ⟨_, (pss_cons (ps_set (i := 1) scWorstRunAtLast.nd rfl (Or.inl rfl) pe_int)
      (pss_cons (ps_set (i := 2) scWorstRunAtLast.nd rfl (Or.inl rfl) (pe_callB call_len_seq (by rfl) T.len PySem.boot_len (pa_cons (pv 0) pa_nil)))
      (pss_cons (ps_set (i := 3) scWorstRunAtLast.nd rfl (Or.inl rfl) pe_int)
      (pss_cons (ps_for PassesOwn.never rfl (pi_range3 (by rfl) T.range (pa_cons (pe_op op_sub (pe_callB call_len_seq (by rfl) T.len PySem.boot_len (pa_cons (pv 0) pa_nil)) pe_int) (pa_cons (pe_un un_neg pe_int) (pa_cons (pe_un un_neg pe_int) pa_nil)))) (pg_name (i := 4) scWorstRunAtLast.nd rfl (Or.inl rfl)) (pss_cons (ps_set (i := 3) scWorstRunAtLast.nd rfl (Or.inl rfl) (pe_op op_add (pv 3) (pe_ix ix_list (pv 0) (pv 4) (fun _ _ => rfl))))
      (pss_one (ps_if (PW.pt (pw_and (pt_cmpR op_gt (pv 3) pe_int (nomark _)) (pw_and1 (pt_cmpR op_ge (pv 3) (pv 1) (nomark _))))) (pss_cons (ps_set (i := 1) scWorstRunAtLast.nd rfl (Or.inl rfl) (pv 3))
      (pss_one (ps_set (i := 2) scWorstRunAtLast.nd rfl (Or.inl rfl) (pv 4)))) pss_nil))))
      (pss_one (ps_ret (pe_lst (pa_cons (pv 1) (pa_cons (pv 2) pa_nil))))))))), ?_⟩
    refine ⟨_, rfl, a, _, rfl, .inl (.inl (.inl hS)), ?_⟩
    refine ⟨_, rfl, a, _, rfl, .inl (.inl (.inl hS)), _, _, rfl, rfl, _, rfl, _, rfl, ((ds.length : Int) - 1), -1, -1, ds.length, by rw [List.length_map], ?_, ?_⟩
    · have z := RgC.neg (i := (ds.length : Int) - 1) (j := -1) (by omega) (by omega) (by omega) (by omega)
      rw [show ((ds.length : Int) - 1 - -1).toNat = ds.length by omega] at z
      exact z
    refine for_it walk_rangeC (fun i σ H' => ∃ v, σ = [some (.ref a), some (.int (worstFrom ds i).1), some (.int ((worstFrom ds i).2 : Int)), some (.int (tail ds (ds.length - i))), v] ∧ H' = H)
      ⟨none, ?_, rfl⟩ (fun _ _ _ _ _ => trivial) ?_ ?_
    · rw [tail_end, worst_zero, List.length_map]
      rfl
    · rintro i y σ H' H2 hi ⟨v, rfl, rfl⟩ ⟨rfl, rfl⟩
      have ei : (ds.length : Int) - 1 + (i : Int) * -1 = ((ds.length - (i + 1) : Nat) : Int) := by omega
      have hd : ds[ds.length - (i + 1)]? = some ds[ds.length - (i + 1)] := List.getElem?_eq_getElem (by omega)
      refine ⟨_, rfl, _, rfl, _, rfl, a, _, _, .int ds[ds.length - (i + 1)], rfl, rfl, .inl (.inl hS), by rw [ei]; exact atI_nat (at_map hd), _, _, rfl, rfl, ?_⟩
      dsimp only
      rw [tail_turn hi hd]
      have w := worst_turn hi
      refine ⟨_, rfl, _, _, rfl, rfl, _, rfl, ?_⟩
      by_cases h1 : (0 : Int) < tail ds (ds.length - (i + 1))
      · rw [decide_eq_true h1]
        refine iteT ⟨_, rfl, _, rfl, _, _, rfl, rfl, _, rfl, ?_⟩
        by_cases h2 : (worstFrom ds i).1 ≤ tail ds (ds.length - (i + 1))
        · rw [decide_eq_true h2]
          rw [if_pos ⟨h1, h2⟩] at w
          refine iteT ⟨_, rfl, _, rfl, some (.int ((ds.length - (i + 1) : Nat) : Int)), ?_, rfl⟩
          rw [w, ei]
          rfl
        · rw [decide_eq_false h2]
          rw [if_neg fun z => h2 z.2] at w
          refine iteF ⟨some (.int ((ds.length - (i + 1) : Nat) : Int)), ?_, rfl⟩
          rw [w, ei]
          rfl
      · rw [decide_eq_false h1]
        rw [if_neg fun z => h1 z.1] at w
        refine iteF (iteF ⟨some (.int ((ds.length - (i + 1) : Nat) : Int)), ?_, rfl⟩)
        rw [w, ei]
        rfl
    · rintro σ H' ⟨v, rfl, rfl⟩
      exact ⟨_, rfl, _, rfl, (by show 2 ≤ sizeLine; decide), fun p hp => q _ p (same_upd hp) tr⟩
abbrev sLongestPositiveRun : Stmt := top 30
theorem scLongestPositiveRun : FnScope ["differences", "longest", "length", "difference"] ["differences"] (defScope sLongestPositiveRun) := ⟨rfl, rfl, rfl, by decide +kernel, rfl, by decide +kernel, by decide +kernel⟩
theorem ok_longest_positive_run {f : Addr} {fd : FuncData} (T : Txt K mg C) (D : Df K mg "longest_positive_run" sLongestPositiveRun ["differences"] f fd) : Ok P w K mg base 1 "longest_positive_run" spLon := by
  refine D.ok (D.fn.ok scLongestPositiveRun (fun vs H Q E h => ?_) (fun cdv A outer s H vs Q E hr h => ?_))
  · obtain ⟨a, ds, rfl, _⟩ := h
    rfl
  · obtain ⟨a, ds, rfl, hS, q⟩ := h
    refine ⟨_, (pss_cons (ps_set (i := 1) scLongestPositiveRun.nd rfl (Or.inl rfl) pe_int)
      (pss_cons (ps_set (i := 2) scLongestPositiveRun.nd rfl (Or.inl rfl) pe_int)
      (pss_cons (ps_for PassesOwn.never rfl (pi_list (pv 0)) (pg_name (i := 3) scLongestPositiveRun.nd rfl (Or.inl rfl)) (pss_cons (ps_if (pt_cmpR op_gt (pv 3) pe_int (nomark _)) (pss_one (ps_set (i := 2) scLongestPositiveRun.nd rfl (Or.inl rfl) (pe_op op_add (pv 2) pe_int))) (pss_one (ps_set (i := 2) scLongestPositiveRun.nd rfl (Or.inl rfl) pe_int)))
      (pss_one (ps_set (i := 1) scLongestPositiveRun.nd rfl (Or.inl rfl) (pe_callB (call_max2 rfl) (by rfl) T.max (by decide +kernel) (pa_cons (pv 1) (pa_cons (pv 2) pa_nil)))))))
      (pss_one (ps_ret (pv 1)))))), ?_⟩
    refine ⟨_, rfl, a, rfl, ⟨_, .inl (.inl hS)⟩, for_list (K := K) (a := a) (xs := ds.map V.int) (fun i σ H' => ∃ v, σ = [some (.ref a), some (.int (runS (ds.take i)).1), some (.int (runS (ds.take i)).2), v] ∧ H' = H)
      ⟨none, rfl, rfl⟩ (fun i σ H' _ ⟨_, _, e⟩ => by rw [e]; exact .inl (.inl hS)) ?_ ?_⟩
    · rintro i y σ H' hi ⟨v, rfl, rfl⟩
      obtain ⟨z, hz, rfl⟩ := map_at hi
      have w := run_turn hz
      refine ⟨_, rfl, _, _, rfl, rfl, _, rfl, ?_⟩
      by_cases h1 : (0 : Int) < z
      · rw [decide_eq_true h1]
        rw [if_pos h1] at w
        refine iteT ⟨_, rfl, _, _, rfl, rfl, _, rfl, _, rfl, _, _, rfl, some (.int z), ?_, rfl⟩
        rw [w, ← max_prog2]
        rfl
      · rw [decide_eq_false h1]
        rw [if_neg h1] at w
        refine iteF ⟨_, rfl, _, rfl, _, _, rfl, some (.int z), ?_, rfl⟩
        rw [w, ← max_prog2]
        rfl
    · rintro σ H' ⟨v, rfl, rfl⟩
      rw [List.length_map, List.take_length]
      exact ⟨_, rfl, q⟩
abbrev sCumulative : Stmt := top 36
theorem scCumulative : FnScope ["deviations", "reached", "sums", "deviation"] ["deviations"] (defScope sCumulative) := ⟨rfl, rfl, rfl, by decide +kernel, rfl, by decide +kernel, by decide +kernel⟩
theorem ok_cumulative {f : Addr} {fd : FuncData} (T : Txt K mg C) (D : Df K mg "cumulative" sCumulative ["deviations"] f fd) : Ok P w K mg base 1 "cumulative" spCum := by
  refine D.ok (D.fn.ok scCumulative (fun vs H Q E h => ?_) (fun cdv A outer s H vs Q E hr h => ?_))
  · obtain ⟨a, ds, rfl, _⟩ := h
    rfl
  · obtain ⟨a, ds, rfl, hS, hlen, q⟩ := h
    refine ⟨_, (pss_cons (ps_set (i := 1) scCumulative.nd rfl (Or.inl rfl) pe_int)
      (pss_cons (ps_set (i := 2) scCumulative.nd rfl (Or.inl rfl) (pe_lst pa_nil))
      (pss_cons (ps_for PassesOwn.never rfl (pi_list (pv 0)) (pg_name (i := 3) scCumulative.nd rfl (Or.inl rfl)) (pss_cons (ps_set (i := 1) scCumulative.nd rfl (Or.inl rfl) (pe_callB (call_max2 rfl) (by rfl) T.max (by decide +kernel) (pa_cons pe_int (pa_cons (pe_op op_add (pv 1) (pv 3)) pa_nil))))
      (pss_one (ps_expr (pe_bm PySem.F.plainAttrs_list PySem.F.slot_list_append PySem.F.type_list_append mt_append (pv 2) (pa_cons (pv 1) pa_nil))))))
      (pss_one (ps_ret (pv 2)))))), ?_⟩
    refine ⟨Nat.zero_le _, fun o no => ?_⟩
    have ne : a ≠ o := ne_of_none hS no
    refine ⟨_, rfl, a, rfl, ⟨_, .inl (.inl (same_upd no _ _ hS))⟩, for_list (K := K) (a := a) (xs := ds.map V.int)
      (fun i σ H' => ∃ (v : Option V) (r : Int) (done : List Int), σ = [some (.ref a), some (.int r), some (.ref o), v] ∧ Same H H' ∧ H' o = some (.lst (done.map V.int)) ∧ done.length = i ∧ done ++ cum (ds.drop i) r = cum ds 0)
      ⟨none, 0, [], rfl, same_upd no, tr, rfl, rfl⟩ (fun i σ H' _ ⟨_, _, _, _, s, _⟩ => .inl (.inl (s _ _ hS))) ?_ ?_⟩
    · rintro i y σ H' hi ⟨v, r, done, rfl, s1, ho, hl, hc⟩
      obtain ⟨z, hz, rfl⟩ := map_at hi
      have hi' : i < ds.length := (List.getElem?_eq_some_iff.mp hz).1
      have w := cum_turn hc hz
      refine ⟨_, rfl, _, rfl, _, _, rfl, rfl, _, _, rfl, ?_⟩
      rw [max_prog]
      refine ⟨_, rfl, .inl ⟨rfl, _, .inl (.inl ho)⟩, _, rfl, o, _, _, rfl, rfl, ho, ?_, ?_⟩
      · rw [List.length_map, hl]
        exact line_lt (by omega)
      · refine ⟨_, _, done ++ [max 0 (r + z)], rfl, same_at s1 no, ?_, ?_, w⟩
        · rw [upd_same, List.map_append]
          rfl
        · rw [List.length_append, hl]
          rfl
    · rintro σ H' ⟨v, r, done, rfl, s1, ho, hl, hc⟩
      rw [List.length_map, List.drop_length, cum_nil, List.append_nil] at hc
      rw [hc] at ho
      exact ⟨_, rfl, q H' o s1 ho⟩
abbrev sLowestTerms : Stmt := top 26
theorem scLowestTerms : FnScope ["numerator", "denominator", "divisor"] ["numerator", "denominator"] (defScope sLowestTerms) := ⟨rfl, rfl, rfl, by decide +kernel, rfl, by decide +kernel, by decide +kernel⟩
theorem ok_lowest_terms {f : Addr} {fd : FuncData} (T : Txt K mg C) (D : Df K mg "lowest_terms" sLowestTerms ["numerator", "denominator"] f fd) (G_greatest_common_divisor : Ok P w K mg base 1 "greatest_common_divisor" spGcd) : Ok P w K mg base 2 "lowest_terms" spLow := by
  refine D.ok (D.fn.ok scLowestTerms (fun vs H Q E h => ?_) (fun cdv A outer s H vs Q E hr h => ?_))
  · obtain ⟨num, den, rfl, _⟩ := h
    rfl
  · obtain ⟨num, den, rfl, h0, h1, q⟩ := h
    refine ⟨_, (pss_cons (ps_set (i := 2) scLowestTerms.nd rfl (Or.inl rfl) (pe_ok G_greatest_common_divisor (hr.mono (by decide)) (by rfl) (pa_cons (pe_callB call_abs (by rfl) T.abs (by decide +kernel) (pa_cons (pv 0) pa_nil)) (pa_cons (pv 1) pa_nil))))
      (pss_one (ps_ret (pe_lst (pa_cons (pe_op op_fdivN (pv 0) (pv 2)) (pa_cons (pe_op op_fdivN (pv 1) (pv 2)) pa_nil)))))), ?_⟩
    have hg : 0 < Nat.gcd num.natAbs den := Nat.gcd_pos_of_pos_right _ h0
    have hle : Nat.gcd num.natAbs den ≤ den := Nat.le_of_dvd h0 (Nat.gcd_dvd_right _ _)
    refine ⟨_, rfl, _, rfl, _, rfl, num.natAbs, den, ?_, ?_⟩
    · rw [abs_prog]
      rfl
    refine ⟨_, rfl, _, rfl, _, _, rfl, rfl, ⟨by omega, by omega⟩, _, rfl, _, rfl, _, _, rfl, rfl, ⟨by omega, by omega⟩, (by show 2 ≤ sizeLine; decide), fun p hp => q _ p (same_upd hp) ?_⟩
    rw [mk_eq h0]
    exact tr
end
end Cu
end

section
set_option maxRecDepth 100000
set_option maxHeartbeats 4000000
namespace Cu
open PySem PySem.Spec PyProof.Rows L2
open Sr121 (Chart upperSums lowerSums isWeight isLimit isShot withShot)
section
variable {P : Program} {w : World} {K : PySem.W.Frag} {mg : Str → Option Value} {base : Heap} {C : Addr}

def spInit (C : Addr) : Sp := fun vs H Q _ => ∃ (p dx : Addr) (t a h : Int) (wl : Addr), vs = [.ref p, .int t, .int a, .int h, .ref wl] ∧ H p = some (.ins C dx []) ∧
  ∀ H' : Hp, H' p = some (.ins C dx (iF t a h wl)) → (∀ b o, H b = some o → b ≠ p → H' b = some o) → Q .non H'
def spWW (C : Addr) : Sp := fun vs H Q _ => ∃ (a : Addr) (c : Chart) (wl nl : Addr) (ns : List Int), vs = [.ref a, .ref nl] ∧ InstAt C H a c wl ∧ H nl = some (.lst (ns.map V.int)) ∧
  ∀ H' p, Same H H' → InstAt C H' p { c with weights := ns } nl → Q (.ref p) H'
def spWS (C : Addr) : Sp := fun vs H Q _ => ∃ (a : Addr) (x : Int) (c : Chart) (wl : Addr), vs = [.ref a, .int x] ∧ InstAt C H a c wl ∧ c.weights.length ≤ 100 ∧
  ∀ H' p nl, Same H H' → H nl = none → InstAt C H' p (withShot c x) nl → Q (.ref p) H'
def spWT (C : Addr) : Sp := fun vs H Q _ => ∃ (a : Addr) (x : Int) (c : Chart) (wl : Addr), vs = [.ref a, .int x] ∧ InstAt C H a c wl ∧
  ∀ H' p, Same H H' → InstAt C H' p { c with target := x } wl → Q (.ref p) H'
def spWL (C : Addr) : Sp := fun vs H Q _ => ∃ (a : Addr) (x y : Nat) (c : Chart) (wl : Addr), vs = [.ref a, .int (x : Int), .int (y : Int)] ∧ InstAt C H a c wl ∧
  ∀ H' p, Same H H' → InstAt C H' p { c with allowance := x, threshold := y } wl → Q (.ref p) H'
def spDev (C : Addr) (dev : Chart → Int → Int) : Sp := fun vs H Q _ => ∃ (a : Addr) (c : Chart) (wl : Addr), vs = [.ref a] ∧ InstAt C H a c wl ∧ c.weights.length ≤ 100 ∧
  ∀ H' p, Same H H' → H' p = some (.lst ((c.weights.map (dev c)).map V.int)) → Q (.ref p) H'
def spSums (C : Addr) (f : Chart → List Int) : Sp := fun vs H Q _ => ∃ (a : Addr) (c : Chart) (wl : Addr), vs = [.ref a] ∧ InstAt C H a c wl ∧ c.weights.length ≤ 100 ∧
  ∀ H' p, Same H H' → H' p = some (.lst ((f c).map V.int)) → Q (.ref p) H'
def spState (C : Addr) : Sp := fun vs H Q _ => ∃ (a : Addr) (c : Chart) (wl : Addr), vs = [.ref a] ∧ InstAt C H a c wl ∧ c.weights.length ≤ 100 ∧ 0 < c.weights.length ∧
  ∀ H' p, Same H H' → H p = none → H' p = some (.lst ((lastS c).map V.int)) → Q (.ref p) H'
theorem put_len (f : Str) (v : V) : ∀ l : List (Str × V), (putF f v l).length ≤ l.length + 1
  | [] => Nat.le_refl _
  | (g, x) :: r => by
    by_cases h : g = f
    · subst h
      have e : putF g v ((g, x) :: r) = (g, v) :: r := if_pos rfl
      rw [e]
      exact Nat.le_succ _
    · rw [put_past h]
      exact Nat.succ_le_succ (put_len f v r)
theorem put_few {f : Str} {v : V} {l : List (Str × V)} {n : Nat} (h : l.length ≤ n) : (putF f v l).length ≤ n + 1 := Nat.le_trans (put_len f v l) (Nat.succ_le_succ h)
theorem sm {H H1 H2 : Hp} (s : Same H H1) (s2 : Same H1 H2) : Same H H2 := fun b o e => s2 b o (s b o e)
theorem sm0 {H : Hp} : Same H H := fun _ _ e => e
theorem none_of {H H1 : Hp} {p : Addr} (s : Same H H1) (h : H1 p = none) : H p = none := by
  cases e : H p with
  | none => rfl
  | some o => rw [s p o e] at h; cases h
theorem at_last {ns : List Int} (h : 0 < ns.length) : atI (ns.map V.int) (-1) = some (.int (ns.getLastD 0)) := by
  have e : ixN (ns.map V.int).length (-1) = some (ns.length - 1) := by
    unfold ixN
    rw [if_neg (by decide), List.length_map, if_pos (by omega)]
    exact congrArg some (by omega)
  have e1 : atI (ns.map V.int) (-1) = (ixN (ns.map V.int).length (-1)).bind fun j => (ns.map V.int)[j]? := rfl
  rw [e1, e]
  show (ns.map V.int)[ns.length - 1]? = _
  rw [List.getElem?_map, List.getLastD_eq_getLast?, List.getLast?_eq_getElem?, List.getElem?_eq_getElem (by omega : ns.length - 1 < ns.length)]
  rfl
abbrev sInit : Stmt := inClass (top 5) 0
theorem scInit : FnScope ["self", "target", "allowance", "threshold", "weights"] ["self", "target", "allowance", "threshold", "weights"] (defScope sInit) := ⟨rfl, rfl, rfl, by decide +kernel, rfl, by decide +kernel, by decide +kernel⟩
theorem ok_init {f : Addr} {fd : FuncData} (T : Txt K mg C) (F : Fun K "__init__" "Instance.__init__" sInit f fd) : FnOk P w K mg base CX0 1 f fd ["self", "target", "allowance", "threshold", "weights"] (spInit C) := by
  refine F.ok scInit (fun vs H Q E h => ?_) (fun cdv A outer s H vs Q E hr h => ?_)
  · obtain ⟨p, dx, t, a, h, wl, rfl, _⟩ := h
    rfl
  · obtain ⟨p, dx, t, a, h, wl, rfl, hp, k⟩ := h
    refine ⟨_, (pss_cons (ps_fld (pv 0) (pv 1) rfl)
      (pss_cons (ps_fld (pv 0) (pv 2) rfl)
      (pss_cons (ps_fld (pv 0) (pv 3) rfl)
      (pss_one (ps_fld (pv 0) (pv 4) rfl))))), ?_⟩
    refine ⟨_, rfl, _, rfl, p, C, dx, [], rfl, hp, T.cl, T.nT, (by show 0 < 1000; decide), ?_⟩
    refine ⟨_, rfl, _, rfl, p, C, dx, _, rfl, upd_same, T.cl, T.nA, Nat.lt_of_le_of_lt (put_few (Nat.le_refl 0)) (by decide), ?_⟩
    refine ⟨_, rfl, _, rfl, p, C, dx, _, rfl, upd_same, T.cl, T.nH, Nat.lt_of_le_of_lt (put_few (put_few (Nat.le_refl 0))) (by decide), ?_⟩
    refine ⟨_, rfl, _, rfl, p, C, dx, _, rfl, upd_same, T.cl, T.nW, Nat.lt_of_le_of_lt (put_few (put_few (put_few (Nat.le_refl 0)))) (by decide), ?_⟩
    exact k _ (Eq.trans upd_same (congrArg (fun q => some (HO.ins C dx q)) iF_new)) fun b o e hb => by
      rw [upd_ne hb, upd_ne hb, upd_ne hb, upd_ne hb]
      exact e
abbrev sWithWeights : Stmt := top 6
theorem scWithWeights : FnScope ["instance", "weights"] ["instance", "weights"] (defScope sWithWeights) := ⟨rfl, rfl, rfl, by decide +kernel, rfl, by decide +kernel, by decide +kernel⟩
theorem ok_with_weights {f : Addr} {fd : FuncData} (T : Txt K mg C) (D : Df K mg "with_weights" sWithWeights ["instance", "weights"] f fd) {fI : Addr} {fdI : FuncData} (M : Mk K C fI) (GI : FnOk P w K mg base CX0 1 fI fdI ["self", "target", "allowance", "threshold", "weights"] (spInit C)) (bI : Binds K fdI ["self", "target", "allowance", "threshold", "weights"] []) : Ok P w K mg base 3 "with_weights" (spWW C) := by
  refine D.ok (D.fn.ok scWithWeights (fun vs H Q E h => ?_) (fun cdv A outer s H vs Q E hr h => ?_))
  · obtain ⟨a, c, wl, nl, ns, rfl, _⟩ := h
    rfl
  · obtain ⟨a, c, wl, nl, ns, rfl, I, hN, q⟩ := h
    refine ⟨_, (pss_one (ps_ret (pe_make M GI hr rfl T.gC bI .nil pass0 (pa_cons (pe_fld (pv 0) rfl) (pa_cons (pe_fld (pv 0) rfl) (pa_cons (pe_fld (pv 0) rfl) (pa_cons (pv 1) pa_nil))))))), ?_⟩
    obtain ⟨dx, eo⟩ := I.ob
    refine ⟨_, rfl, _, C, _, _, _, rfl, eo, T.cl, T.nT, iF_t, _, rfl, _, C, _, _, _, rfl, eo, T.cl, T.nA, iF_a, _, rfl, _, C, _, _, _, rfl, eo, T.cl, T.nH, iF_h, _, rfl, ?_⟩
    intro x dx2 nx nd ne
    refine ⟨x, dx2, _, _, _, _, rfl, upd_same, fun H1 J kp => ⟨rfl, ?_⟩⟩
    have s1 : Same H H1 := Same.made nx nd kp
    exact q H1 x s1 ⟨⟨dx2, J⟩, s1 _ _ hN⟩
abbrev sWithTarget : Stmt := top 8
theorem scWithTarget : FnScope ["instance", "target"] ["instance", "target"] (defScope sWithTarget) := ⟨rfl, rfl, rfl, by decide +kernel, rfl, by decide +kernel, by decide +kernel⟩
theorem ok_with_target {f : Addr} {fd : FuncData} (T : Txt K mg C) (D : Df K mg "with_target" sWithTarget ["instance", "target"] f fd) {fI : Addr} {fdI : FuncData} (M : Mk K C fI) (GI : FnOk P w K mg base CX0 1 fI fdI ["self", "target", "allowance", "threshold", "weights"] (spInit C)) (bI : Binds K fdI ["self", "target", "allowance", "threshold", "weights"] []) : Ok P w K mg base 3 "with_target" (spWT C) := by
  refine D.ok (D.fn.ok scWithTarget (fun vs H Q E h => ?_) (fun cdv A outer s H vs Q E hr h => ?_))
  · obtain ⟨a, x, c, wl, rfl, _⟩ := h
    rfl
  · obtain ⟨a, z, c, wl, rfl, I, q⟩ := h
    refine ⟨_, (pss_one (ps_ret (pe_make M GI hr rfl T.gC bI .nil pass0 (pa_cons (pv 1) (pa_cons (pe_fld (pv 0) rfl) (pa_cons (pe_fld (pv 0) rfl) (pa_cons (pe_fld (pv 0) rfl) pa_nil))))))), ?_⟩
    obtain ⟨dx, eo⟩ := I.ob
    refine ⟨_, rfl, _, rfl, _, C, _, _, _, rfl, eo, T.cl, T.nA, iF_a, _, rfl, _, C, _, _, _, rfl, eo, T.cl, T.nH, iF_h, _, rfl, _, C, _, _, _, rfl, eo, T.cl, T.nW, iF_w, ?_⟩
    intro x dx2 nx nd ne
    refine ⟨x, dx2, _, _, _, _, rfl, upd_same, fun H1 J kp => ⟨rfl, ?_⟩⟩
    have s1 : Same H H1 := Same.made nx nd kp
    exact q H1 x s1 ⟨⟨dx2, J⟩, s1 _ _ I.ws⟩
abbrev sWithLimits : Stmt := top 9
theorem scWithLimits : FnScope ["instance", "allowance", "threshold"] ["instance", "allowance", "threshold"] (defScope sWithLimits) := ⟨rfl, rfl, rfl, by decide +kernel, rfl, by decide +kernel, by decide +kernel⟩
theorem ok_with_limits {f : Addr} {fd : FuncData} (T : Txt K mg C) (D : Df K mg "with_limits" sWithLimits ["instance", "allowance", "threshold"] f fd) {fI : Addr} {fdI : FuncData} (M : Mk K C fI) (GI : FnOk P w K mg base CX0 1 fI fdI ["self", "target", "allowance", "threshold", "weights"] (spInit C)) (bI : Binds K fdI ["self", "target", "allowance", "threshold", "weights"] []) : Ok P w K mg base 3 "with_limits" (spWL C) := by
  refine D.ok (D.fn.ok scWithLimits (fun vs H Q E h => ?_) (fun cdv A outer s H vs Q E hr h => ?_))
  · obtain ⟨a, x, y, c, wl, rfl, _⟩ := h
    rfl
  · obtain ⟨a, z, y, c, wl, rfl, I, q⟩ := h
    refine ⟨_, (pss_one (ps_ret (pe_make M GI hr rfl T.gC bI .nil pass0 (pa_cons (pe_fld (pv 0) rfl) (pa_cons (pv 1) (pa_cons (pv 2) (pa_cons (pe_fld (pv 0) rfl) pa_nil))))))), ?_⟩
    obtain ⟨dx, eo⟩ := I.ob
    refine ⟨_, rfl, _, C, _, _, _, rfl, eo, T.cl, T.nT, iF_t, _, rfl, _, rfl, _, rfl, _, C, _, _, _, rfl, eo, T.cl, T.nW, iF_w, ?_⟩
    intro x dx2 nx nd ne
    refine ⟨x, dx2, _, _, _, _, rfl, upd_same, fun H1 J kp => ⟨rfl, ?_⟩⟩
    have s1 : Same H H1 := Same.made nx nd kp
    exact q H1 x s1 ⟨⟨dx2, J⟩, s1 _ _ I.ws⟩
abbrev sWithShot : Stmt := top 7
theorem scWithShot : FnScope ["instance", "weight"] ["instance", "weight"] (defScope sWithShot) := ⟨rfl, rfl, rfl, by decide +kernel, rfl, by decide +kernel, by decide +kernel⟩
theorem ok_with_shot {f : Addr} {fd : FuncData} (T : Txt K mg C) (D : Df K mg "with_shot" sWithShot ["instance", "weight"] f fd) (G_with_weights : Ok P w K mg base 3 "with_weights" (spWW C)) : Ok P w K mg base 4 "with_shot" (spWS C) := by
  refine D.ok (D.fn.ok scWithShot (fun vs H Q E h => ?_) (fun cdv A outer s H vs Q E hr h => ?_))
  · obtain ⟨a, x, c, wl, rfl, _⟩ := h
    rfl
  · obtain ⟨a, x, c, wl, rfl, I, hlen, q⟩ := h
    refine ⟨_, (pss_one (ps_ret (pe_ok G_with_weights (hr.mono (by decide)) (by rfl) (pa_cons (pv 0) (pa_cons (pe_op op_cat (pe_fld (pv 0) rfl) (pe_lst (pa_cons (pv 1) pa_nil))) pa_nil))))), ?_⟩
    obtain ⟨dx, eo⟩ := I.ob
    refine ⟨_, rfl, _, rfl, _, C, _, _, _, rfl, eo, T.cl, T.nW, iF_w, _, rfl, (by show 1 ≤ sizeLine; decide), fun p1 n1 => ⟨_, _, c.weights.map V.int, [.int x], rfl, rfl, same_upd n1 _ _ I.ws, tr, ?_, fun p2 n2 => ?_⟩⟩
    · rw [List.length_map]
      exact line_of (by show c.weights.length + 1 ≤ _; omega)
    · have s1 := same_upd (o := .lst [.int x]) n1
      have s2 := sm s1 (same_upd (o := .lst (c.weights.map V.int ++ [.int x])) n2)
      refine ⟨a, c, wl, p2, c.weights ++ [x], rfl, I.same s2, ?_, fun H' p s J => q H' p p2 (sm s2 s) (none_of s1 n2) J⟩
      rw [List.map_append]
      exact tr
abbrev sExcesses : Stmt := top 34
theorem scExcesses : FnScope ["instance", "weight"] ["instance"] (defScope sExcesses) := ⟨rfl, rfl, rfl, by decide +kernel, rfl, by decide +kernel, by decide +kernel⟩
theorem ok_excesses {f : Addr} {fd : FuncData} (T : Txt K mg C) (D : Df K mg "excesses" sExcesses ["instance"] f fd) (G_excess : Ok P w K mg base 1 "excess" (spExc C)) : Ok P w K mg base 2 "excesses" (spDev C Sr121.excess) := by
  refine D.ok (D.fn.ok scExcesses (fun vs H Q E h => ?_) (fun cdv A outer s H vs Q E hr h => ?_))
  · obtain ⟨a, c, wl, rfl, _⟩ := h
    rfl
  · obtain ⟨a, c, wl, rfl, I, hlen, q⟩ := h
    refine ⟨_, (pss_one (ps_ret (pe_lc (own := [("weight", 1)]) rfl scExcesses.nd (pi_list (pe_fld (pv 0) rfl)) (blkOk_by (own := [("weight", 1)]) (N := ["instance", "weight"]) (sc := defScope sExcesses) (by decide +kernel)) (fun _ _ _ _ _ => (pg_name (i := 1) scExcesses.nd rfl (Or.inl rfl))) (fun _ _ _ _ _ => pts_nil) (fun _ _ _ _ _ => (pe_ok G_excess (hr.mono (by decide)) (by rfl) (pa_cons (pv 0) (pa_cons (pv 1) pa_nil))))))), ?_⟩
    obtain ⟨dx, eo⟩ := I.ob
    refine ⟨_, rfl, _, C, _, _, _, rfl, eo, T.cl, T.nW, iF_w, wl, rfl, ⟨_, SqL.of I.ws⟩, fun Dn nD => lc_list (K := K) (a := wl) (xs := c.weights.map V.int) (fun i H' => Same H H' ∧ H' Dn = some (.lst (((c.weights.take i).map (Sr121.excess c)).map V.int)))
      ⟨same_upd nD, tr⟩ (fun i H' _ ⟨s, _⟩ => SqL.of (s _ _ I.ws)) ?_ ?_⟩
    · rintro i y H' hi ⟨s, hD⟩
      obtain ⟨z, hz, rfl⟩ := map_at hi
      refine ⟨rfl, _, rfl, _, rfl, a, z, c, wl, rfl, I.same s, _, hD, ?_, same_at s nD, ?_⟩
      · rw [List.length_map, List.length_map, List.length_take]
        exact line_lt (by omega)
      · rw [upd_same]
        obtain ⟨h3, e3⟩ := List.getElem?_eq_some_iff.mp hz
        rw [← List.take_append_getElem h3, e3, List.map_append, List.map_append]
        rfl
    · rintro H' ⟨s, hD⟩
      rw [List.length_map, List.take_length] at hD
      exact q H' Dn s hD
abbrev sShortfalls : Stmt := top 35
theorem scShortfalls : FnScope ["instance", "weight"] ["instance"] (defScope sShortfalls) := ⟨rfl, rfl, rfl, by decide +kernel, rfl, by decide +kernel, by decide +kernel⟩
theorem ok_shortfalls {f : Addr} {fd : FuncData} (T : Txt K mg C) (D : Df K mg "shortfalls" sShortfalls ["instance"] f fd) (G_shortfall : Ok P w K mg base 1 "shortfall" (spSho C)) : Ok P w K mg base 2 "shortfalls" (spDev C Sr121.shortfall) := by
  refine D.ok (D.fn.ok scShortfalls (fun vs H Q E h => ?_) (fun cdv A outer s H vs Q E hr h => ?_))
  · obtain ⟨a, c, wl, rfl, _⟩ := h
    rfl
  · obtain ⟨a, c, wl, rfl, I, hlen, q⟩ := h
    refine ⟨_, (pss_one (ps_ret (pe_lc (own := [("weight", 1)]) rfl scShortfalls.nd (pi_list (pe_fld (pv 0) rfl)) (blkOk_by (own := [("weight", 1)]) (N := ["instance", "weight"]) (sc := defScope sShortfalls) (by decide +kernel)) (fun _ _ _ _ _ => (pg_name (i := 1) scShortfalls.nd rfl (Or.inl rfl))) (fun _ _ _ _ _ => pts_nil) (fun _ _ _ _ _ => (pe_ok G_shortfall (hr.mono (by decide)) (by rfl) (pa_cons (pv 0) (pa_cons (pv 1) pa_nil))))))), ?_⟩
    obtain ⟨dx, eo⟩ := I.ob
    refine ⟨_, rfl, _, C, _, _, _, rfl, eo, T.cl, T.nW, iF_w, wl, rfl, ⟨_, SqL.of I.ws⟩, fun Dn nD => lc_list (K := K) (a := wl) (xs := c.weights.map V.int) (fun i H' => Same H H' ∧ H' Dn = some (.lst (((c.weights.take i).map (Sr121.shortfall c)).map V.int)))
      ⟨same_upd nD, tr⟩ (fun i H' _ ⟨s, _⟩ => SqL.of (s _ _ I.ws)) ?_ ?_⟩
    · rintro i y H' hi ⟨s, hD⟩
      obtain ⟨z, hz, rfl⟩ := map_at hi
      refine ⟨rfl, _, rfl, _, rfl, a, z, c, wl, rfl, I.same s, _, hD, ?_, same_at s nD, ?_⟩
      · rw [List.length_map, List.length_map, List.length_take]
        exact line_lt (by omega)
      · rw [upd_same]
        obtain ⟨h3, e3⟩ := List.getElem?_eq_some_iff.mp hz
        rw [← List.take_append_getElem h3, e3, List.map_append, List.map_append]
        rfl
    · rintro H' ⟨s, hD⟩
      rw [List.length_map, List.take_length] at hD
      exact q H' Dn s hD
abbrev sUpperCumulative : Stmt := top 37
theorem scUpperCumulative : FnScope ["instance"] ["instance"] (defScope sUpperCumulative) := ⟨rfl, rfl, rfl, by decide +kernel, rfl, by decide +kernel, by decide +kernel⟩
theorem ok_upper_cumulative {f : Addr} {fd : FuncData} (T : Txt K mg C) (D : Df K mg "upper_cumulative" sUpperCumulative ["instance"] f fd) (G_excesses : Ok P w K mg base 2 "excesses" (spDev C Sr121.excess)) (G_cumulative : Ok P w K mg base 1 "cumulative" spCum) : Ok P w K mg base 3 "upper_cumulative" (spSums C Sr121.upperSums) := by
  refine D.ok (D.fn.ok scUpperCumulative (fun vs H Q E h => ?_) (fun cdv A outer s H vs Q E hr h => ?_))
  · obtain ⟨a, c, wl, rfl, _⟩ := h
    rfl
  · obtain ⟨a, c, wl, rfl, I, hlen, q⟩ := h
    refine ⟨_, (pss_one (ps_ret (pe_ok G_cumulative (hr.mono (by decide)) (by rfl) (pa_cons (pe_ok G_excesses (hr.mono (by decide)) (by rfl) (pa_cons (pv 0) pa_nil)) pa_nil)))), ?_⟩
    refine ⟨_, rfl, a, c, wl, rfl, I, hlen, fun H1 p1 s1 h1 => ⟨p1, c.weights.map (Sr121.excess c), rfl, h1, by rw [List.length_map]; exact hlen, fun H2 p2 s2 h2 => q H2 p2 (sm s1 s2) ?_⟩⟩
    rw [upper_eq]
    exact h2
abbrev sLowerCumulative : Stmt := top 38
theorem scLowerCumulative : FnScope ["instance"] ["instance"] (defScope sLowerCumulative) := ⟨rfl, rfl, rfl, by decide +kernel, rfl, by decide +kernel, by decide +kernel⟩
theorem ok_lower_cumulative {f : Addr} {fd : FuncData} (T : Txt K mg C) (D : Df K mg "lower_cumulative" sLowerCumulative ["instance"] f fd) (G_shortfalls : Ok P w K mg base 2 "shortfalls" (spDev C Sr121.shortfall)) (G_cumulative : Ok P w K mg base 1 "cumulative" spCum) : Ok P w K mg base 3 "lower_cumulative" (spSums C Sr121.lowerSums) := by
  refine D.ok (D.fn.ok scLowerCumulative (fun vs H Q E h => ?_) (fun cdv A outer s H vs Q E hr h => ?_))
  · obtain ⟨a, c, wl, rfl, _⟩ := h
    rfl
  · obtain ⟨a, c, wl, rfl, I, hlen, q⟩ := h
    refine ⟨_, (pss_one (ps_ret (pe_ok G_cumulative (hr.mono (by decide)) (by rfl) (pa_cons (pe_ok G_shortfalls (hr.mono (by decide)) (by rfl) (pa_cons (pv 0) pa_nil)) pa_nil)))), ?_⟩
    refine ⟨_, rfl, a, c, wl, rfl, I, hlen, fun H1 p1 s1 h1 => ⟨p1, c.weights.map (Sr121.shortfall c), rfl, h1, by rw [List.length_map]; exact hlen, fun H2 p2 s2 h2 => q H2 p2 (sm s1 s2) ?_⟩⟩
    rw [lower_eq]
    exact h2
abbrev sAlarmCodes : Stmt := top 40
theorem scAlarmCodes : FnScope ["instance", "uppers", "lowers", "upper", "lower"] ["instance"] (defScope sAlarmCodes) := ⟨rfl, rfl, rfl, by decide +kernel, rfl, by decide +kernel, by decide +kernel⟩
theorem ok_alarm_codes {f : Addr} {fd : FuncData} (T : Txt K mg C) (D : Df K mg "alarm_codes" sAlarmCodes ["instance"] f fd) (G_alarm_code : Ok P w K mg base 1 "alarm_code" (spCode C)) (G_lower_cumulative : Ok P w K mg base 3 "lower_cumulative" (spSums C Sr121.lowerSums)) (G_upper_cumulative : Ok P w K mg base 3 "upper_cumulative" (spSums C Sr121.upperSums)) : Ok P w K mg base 4 "alarm_codes" (spSums C codesOf) := by
  refine D.ok (D.fn.ok scAlarmCodes (fun vs H Q E h => ?_) (fun cdv A outer s H vs Q E hr h => ?_))
  · obtain ⟨a, c, wl, rfl, _⟩ := h
    rfl
  · obtain ⟨a, c, wl, rfl, I, hlen, q⟩ := h
    refine ⟨_, (pss_cons (ps_set (i := 1) scAlarmCodes.nd rfl (Or.inl rfl) (pe_ok G_upper_cumulative (hr.mono (by decide)) (by rfl) (pa_cons (pv 0) pa_nil)))
      (pss_cons (ps_set (i := 2) scAlarmCodes.nd rfl (Or.inl rfl) (pe_ok G_lower_cumulative (hr.mono (by decide)) (by rfl) (pa_cons (pv 0) pa_nil)))
      (pss_one (ps_ret (pe_lc (own := [("upper", 3), ("lower", 4)]) (g := gTup K 2 (gCons (gName 3) (gCons (gName 4) gNil))) rfl scAlarmCodes.nd (pi_zip (by rfl) T.zip (pa_cons (pv 1) (pa_cons (pv 2) pa_nil))) (blkOk_by (own := [("upper", 3), ("lower", 4)]) (N := ["instance", "uppers", "lowers", "upper", "lower"]) (sc := defScope sAlarmCodes) (by decide +kernel)) (fun _ _ _ _ _ => (pg_tup rfl (pgs_cons (pg_name (i := 3) scAlarmCodes.nd rfl (Or.inl rfl)) (pgs_cons (pg_name (i := 4) scAlarmCodes.nd rfl (Or.inl rfl)) pgs_nil)))) (fun _ _ _ _ _ => pts_nil) (fun _ _ _ _ _ => (pe_ok G_alarm_code (hr.mono (by decide)) (by rfl) (pa_cons (pv 0) (pa_cons (pv 3) (pa_cons (pv 4) pa_nil)))))))))), ?_⟩
    refine ⟨_, rfl, a, c, wl, rfl, I, hlen, fun H1 p1 s1 h1 => ⟨_, rfl, a, c, wl, rfl, I.same s1, hlen, fun H2 p2 s2 h2 => ?_⟩⟩
    have en : c.weights.length = min ((upperSums c).map V.int).length ((lowerSums c).map V.int).length := by
      rw [List.length_map, List.length_map, upper_len, lower_len]
      exact (Nat.min_self _).symm
    refine ⟨_, rfl, _, rfl, p1, p2, (upperSums c).map V.int, (lowerSums c).map V.int, rfl, SqL.of (s2 _ _ h1), SqL.of h2, fun Dn nD => lc_it (walk_zip en) (fun i H' => Same H2 H' ∧ H' Dn = some (.lst (((codesOf c).take i).map V.int)))
      ⟨same_upd nD, tr⟩ (fun i H' _ ⟨s, _⟩ => ⟨SqL.of (s _ _ (s2 _ _ h1)), SqL.of (s _ _ h2)⟩) ?_ ?_⟩
    · rintro i y H3 H4 hi ⟨s, hD⟩ ⟨Tp, x1, x2, rfl, nT, rfl, e1, e2⟩
      obtain ⟨u, hu, rfl⟩ := map_at e1
      obtain ⟨l, hl, rfl⟩ := map_at e2
      have s5 := sm s (same_upd (o := .tup [.int u, .int l]) nT)
      have hD2 := same_upd (o := .tup [.int u, .int l]) nT _ _ hD
      refine ⟨Tp, _, rfl, SqT.of upd_same, rfl, _, _, rfl, _, _, rfl, rfl, rfl, _, rfl, _, rfl, _, rfl, a, u, l, c, wl, rfl, I.same (sm s1 (sm s2 s5)), _, hD2, ?_, same_at s5 nD, ?_⟩
      · rw [List.length_map, List.length_take]
        exact line_lt (by omega)
      · rw [upd_same]
        have hc := codes_at hu hl
        obtain ⟨h3, e3⟩ := List.getElem?_eq_some_iff.mp hc
        rw [← List.take_append_getElem h3, e3, List.map_append]
        rfl
    · rintro H' ⟨s, hD⟩
      rw [← codes_len c, List.take_length] at hD
      exact q H' Dn (sm s1 (sm s2 s)) hD
abbrev sStateAtLastShot : Stmt := top 41
theorem scStateAtLastShot : FnScope ["instance", "upper", "lower"] ["instance"] (defScope sStateAtLastShot) := ⟨rfl, rfl, rfl, by decide +kernel, rfl, by decide +kernel, by decide +kernel⟩
theorem ok_state_at_last_shot {f : Addr} {fd : FuncData} (T : Txt K mg C) (D : Df K mg "state_at_last_shot" sStateAtLastShot ["instance"] f fd) (G_alarm_code : Ok P w K mg base 1 "alarm_code" (spCode C)) (G_lower_cumulative : Ok P w K mg base 3 "lower_cumulative" (spSums C Sr121.lowerSums)) (G_upper_cumulative : Ok P w K mg base 3 "upper_cumulative" (spSums C Sr121.upperSums)) : Ok P w K mg base 4 "state_at_last_shot" (spState C) := by
  refine D.ok (D.fn.ok scStateAtLastShot (fun vs H Q E h => ?_) (fun cdv A outer s H vs Q E hr h => ?_))
  · obtain ⟨a, c, wl, rfl, _⟩ := h
    rfl
  · obtain ⟨a, c, wl, rfl, I, hlen, hpos, q⟩ := h
    refine ⟨_, (pss_cons (ps_set (i := 1) scStateAtLastShot.nd rfl (Or.inl rfl) (pe_ix ix_list (pe_ok G_upper_cumulative (hr.mono (by decide)) (by rfl) (pa_cons (pv 0) pa_nil)) (pe_un un_neg pe_int) (fun _ _ => rfl)))
      (pss_cons (ps_set (i := 2) scStateAtLastShot.nd rfl (Or.inl rfl) (pe_ix ix_list (pe_ok G_lower_cumulative (hr.mono (by decide)) (by rfl) (pa_cons (pv 0) pa_nil)) (pe_un un_neg pe_int) (fun _ _ => rfl)))
      (pss_one (ps_ret (pe_lst (pa_cons (pe_ok G_alarm_code (hr.mono (by decide)) (by rfl) (pa_cons (pv 0) (pa_cons (pv 1) (pa_cons (pv 2) pa_nil)))) (pa_cons (pv 1) (pa_cons (pv 2) pa_nil)))))))), ?_⟩
    refine ⟨_, rfl, a, c, wl, rfl, I, hlen, fun H1 p1 s1 h1 => ⟨_, rfl, p1, _, -1, _, rfl, rfl, SqL.of h1, at_last (by rw [upper_len]; exact hpos), ?_⟩⟩
    refine ⟨_, rfl, a, c, wl, rfl, I.same s1, hlen, fun H2 p2 s2 h2 => ⟨_, rfl, p2, _, -1, _, rfl, rfl, SqL.of h2, at_last (by rw [lower_len]; exact hpos), ?_⟩⟩
    refine ⟨_, rfl, _, rfl, _, rfl, a, _, _, c, wl, rfl, I.same (sm s1 s2), _, rfl, _, rfl, (by show 3 ≤ sizeLine; decide), fun p hp => ?_⟩
    exact q _ p (sm (sm s1 s2) (same_upd hp)) (none_of (sm s1 s2) hp) tr
end
end Cu
end

section
set_option maxRecDepth 100000
set_option maxHeartbeats 4000000
namespace Cu
open PySem PySem.Spec PyProof.Rows L2
open Sr121 (Chart upperSums lowerSums isWeight isLimit isShot withShot)
section
variable {P : Program} {w : World} {K : PySem.W.Frag} {mg : Str → Option Value} {base : Heap} {C : Addr}

def spQR (C : Addr) (raw : List (List Int)) (ps : List Int) : Sp := fun vs H Q _ => ∃ (a pa : Addr) (c : Chart) (wl : Addr), vs = [.ref a, .ref pa] ∧ InstAt C H a c wl ∧ H pa = some (.lst (ps.map V.int)) ∧ c.weights.length ≤ 24 ∧
  ∀ H' p, Same H H' → H p = none → H' p = some (.lst ((stp (some c) raw).2.map V.int)) → Q (.ref p) H'
theorem shot_nat {c : Chart} {n : Int} (h : isShot c n = true) : ∃ i : Nat, n = (i : Int) ∧ i < c.weights.length := by
  have h' : (decide (0 ≤ n) && decide (n < (c.weights.length : Int))) = true := h
  rw [Bool.and_eq_true, decide_eq_true_eq, decide_eq_true_eq] at h'
  obtain ⟨i, rfl⟩ := Int.eq_ofNat_of_zero_le h'.1
  exact ⟨i, rfl, by omega⟩
theorem cut_to {ns : List Int} {i : Nat} (hi : i < ns.length) : cutV (ns.map V.int) none (some ((i : Int) + 1)) = (ns.take (i + 1)).map V.int := by
  have e : ((i : Int) + 1) = ((i + 1 : Nat) : Int) := by omega
  unfold cutV
  rw [e, HT.sIx_none, HT.sIx_nat, List.length_map, Nat.min_eq_left (by omega), List.drop_zero, Nat.sub_zero, List.map_take]
theorem cut_mid {ns : List Int} {s k : Nat} (h : s + k ≤ ns.length) : cutV (ns.map V.int) (some (s : Int)) (some ((s : Int) + (k : Int))) = ((ns.drop s).take k).map V.int := by
  have e : ((s : Int) + (k : Int)) = ((s + k : Nat) : Int) := by omega
  unfold cutV
  rw [e, HT.sIx_nat, HT.sIx_nat, List.length_map, Nat.min_eq_left (by omega), Nat.min_eq_left (by omega), Nat.add_sub_cancel_left, List.map_take, List.map_drop]
theorem onset_is {sums : List Int} (nn : ∀ x ∈ sums, 0 ≤ x) {i st : Nat} (hi : i < sums.length) (hle : st ≤ (sums.take (i + 1)).length) (hk : ∀ k, st ≤ k → k < (sums.take (i + 1)).length → (sums.take (i + 1)).getD k 0 > 0)
    (hz : st = 0 ∨ ¬ (sums.take (i + 1)).getD (st - 1) 0 > 0) : Sr121.onset sums i = st := by
  have hl : (sums.take (i + 1)).length = i + 1 := by rw [List.length_take]; omega
  have eg : ∀ k, k < i + 1 → (sums.take (i + 1)).getD k 0 = sums.getD k 0 := fun k h => by
    rw [List.getD_eq_getElem?_getD, List.getD_eq_getElem?_getD, List.getElem?_take_of_lt h]
  refine onset_down (by omega) (fun k h1 h2 => ?_) ?_
  · have := hk k h1 (by omega)
    rw [eg k (by omega)] at this
    omega
  · rcases hz with h | h
    · exact .inl h
    · by_cases h0 : st = 0
      · exact .inl h0
      · rw [eg (st - 1) (by omega)] at h
        refine .inr ?_
        have hlt : st - 1 < sums.length := by omega
        have hm : sums.getD (st - 1) 0 = sums[st - 1] := by
          rw [List.getD_eq_getElem?_getD, List.getElem?_eq_getElem hlt]
          rfl
        have := nn _ (List.getElem_mem hlt)
        omega
theorem lenV (l : List Int) : (l.map V.int).length = l.length := List.length_map ..
abbrev sUpperSums : Stmt := top 43
theorem scUpperSums : FnScope ["instance", "parameters"] ["instance", "parameters"] (defScope sUpperSums) := ⟨rfl, rfl, rfl, by decide +kernel, rfl, by decide +kernel, by decide +kernel⟩
theorem ok_upper_sums {f : Addr} {fd : FuncData} (T : Txt K mg C) (D : Df K mg "upper_sums" sUpperSums ["instance", "parameters"] f fd) (G_upper_cumulative : Ok P w K mg base 3 "upper_cumulative" (spSums C Sr121.upperSums)) : Ok P w K mg base 5 "upper_sums" (spQR C [[7]] []) := by
  refine D.ok (D.fn.ok scUpperSums (fun vs H Q E h => ?_) (fun cdv A outer s H vs Q E hr h => ?_))
  · obtain ⟨a, pa, c, wl, rfl, _⟩ := h
    rfl
  · obtain ⟨a, pa, c, wl, rfl, I, hP, few, q⟩ := h
    refine ⟨_, (pss_one (ps_ret (pe_op op_cat (pe_lst (pa_cons (pe_callB call_len_seq (by rfl) T.len PySem.boot_len (pa_cons (pe_fld (pv 0) rfl) pa_nil)) pa_nil)) (pe_ok G_upper_cumulative (hr.mono (by decide)) (by rfl) (pa_cons (pv 0) pa_nil))))), ?_⟩
    have hlen : c.weights.length ≤ 100 := Nat.le_trans few (by decide)
    obtain ⟨dx, eo⟩ := I.ob
    refine ⟨_, rfl, _, C, _, _, _, rfl, eo, T.cl, T.nW, iF_w, _, _, rfl, .inl (SqL.of I.ws), (by show 1 ≤ sizeLine; decide), fun p1 n1 => ?_⟩
    have s1 := same_upd (o := .lst [.int ((c.weights.map V.int).length : Int)]) n1
    refine ⟨_, rfl, a, c, wl, rfl, I.same s1, hlen, fun H2 p2 s2 h2 => ⟨p1, p2, _, _, rfl, rfl, s2 _ _ tr, h2, ?_, fun p3 n3 => q _ p3 (sm s1 (sm s2 (same_upd n3))) (none_of (sm s1 s2) n3) ?_⟩⟩
    · rw [lenV (upperSums c), upper_len]
      exact line_of (by show 1 + c.weights.length ≤ _; omega)
    · rw [s7, upd_same, lenV]
      rfl
abbrev sLowerSums : Stmt := top 44
theorem scLowerSums : FnScope ["instance", "parameters"] ["instance", "parameters"] (defScope sLowerSums) := ⟨rfl, rfl, rfl, by decide +kernel, rfl, by decide +kernel, by decide +kernel⟩
theorem ok_lower_sums {f : Addr} {fd : FuncData} (T : Txt K mg C) (D : Df K mg "lower_sums" sLowerSums ["instance", "parameters"] f fd) (G_lower_cumulative : Ok P w K mg base 3 "lower_cumulative" (spSums C Sr121.lowerSums)) : Ok P w K mg base 5 "lower_sums" (spQR C [[8]] []) := by
  refine D.ok (D.fn.ok scLowerSums (fun vs H Q E h => ?_) (fun cdv A outer s H vs Q E hr h => ?_))
  · obtain ⟨a, pa, c, wl, rfl, _⟩ := h
    rfl
  · obtain ⟨a, pa, c, wl, rfl, I, hP, few, q⟩ := h
    refine ⟨_, (pss_one (ps_ret (pe_op op_cat (pe_lst (pa_cons (pe_callB call_len_seq (by rfl) T.len PySem.boot_len (pa_cons (pe_fld (pv 0) rfl) pa_nil)) pa_nil)) (pe_ok G_lower_cumulative (hr.mono (by decide)) (by rfl) (pa_cons (pv 0) pa_nil))))), ?_⟩
    have hlen : c.weights.length ≤ 100 := Nat.le_trans few (by decide)
    obtain ⟨dx, eo⟩ := I.ob
    refine ⟨_, rfl, _, C, _, _, _, rfl, eo, T.cl, T.nW, iF_w, _, _, rfl, .inl (SqL.of I.ws), (by show 1 ≤ sizeLine; decide), fun p1 n1 => ?_⟩
    have s1 := same_upd (o := .lst [.int ((c.weights.map V.int).length : Int)]) n1
    refine ⟨_, rfl, a, c, wl, rfl, I.same s1, hlen, fun H2 p2 s2 h2 => ⟨p1, p2, _, _, rfl, rfl, s2 _ _ tr, h2, ?_, fun p3 n3 => q _ p3 (sm s1 (sm s2 (same_upd n3))) (none_of (sm s1 s2) n3) ?_⟩⟩
    · rw [lenV (lowerSums c), lower_len]
      exact line_of (by show 1 + c.weights.length ≤ _; omega)
    · rw [s8, upd_same, lenV]
      rfl
abbrev sFirstAlarm : Stmt := top 45
theorem scFirstAlarm : FnScope ["instance", "parameters", "shot", "code"] ["instance", "parameters"] (defScope sFirstAlarm) := ⟨rfl, rfl, rfl, by decide +kernel, rfl, by decide +kernel, by decide +kernel⟩
theorem ok_first_alarm {f : Addr} {fd : FuncData} (T : Txt K mg C) (D : Df K mg "first_alarm" sFirstAlarm ["instance", "parameters"] f fd) (G_alarm_codes : Ok P w K mg base 4 "alarm_codes" (spSums C codesOf)) : Ok P w K mg base 5 "first_alarm" (spQR C [[9]] []) := by
  refine D.ok (D.fn.ok scFirstAlarm (fun vs H Q E h => ?_) (fun cdv A outer s H vs Q E hr h => ?_))
  · obtain ⟨a, pa, c, wl, rfl, _⟩ := h
    rfl
  · obtain ⟨a, pa, c, wl, rfl, I, hP, few, q⟩ := h
    refine ⟨_, (pss_cons (ps_for PassesOwn.never rfl (pi_enum (by rfl) T.enumerate (pa_cons (pe_ok G_alarm_codes (hr.mono (by decide)) (by rfl) (pa_cons (pv 0) pa_nil)) pa_nil)) (pg_tup rfl (pgs_cons (pg_name (i := 2) scFirstAlarm.nd rfl (Or.inl rfl)) (pgs_cons (pg_name (i := 3) scFirstAlarm.nd rfl (Or.inl rfl)) pgs_nil))) (pss_one (ps_if (pt_cmpR op_gt (pv 3) pe_int (nomark _)) (pss_one (ps_ret (pe_lst (pa_cons (pv 2) (pa_cons (pv 3) pa_nil))))) pss_nil)))
      (pss_one (ps_ret (pe_lst (pa_cons (pe_num T.noAlarm (by rfl)) pa_nil))))), ?_⟩
    have hlen : c.weights.length ≤ 100 := Nat.le_trans few (by decide)
    obtain ⟨dx, eo⟩ := I.ob
    refine ⟨_, rfl, a, c, wl, rfl, I, hlen, fun H1 p1 s1 h1 => ⟨p1, (codesOf c).map V.int, rfl, SqL.of h1, for_it walk_enum
      (fun i σ H' => ∃ v1 v2, σ = [some (.ref a), some (.ref pa), v1, v2] ∧ Same H1 H' ∧ ∀ j, j < i → ¬ 0 < Sr121.alarmAt c j)
      ⟨none, none, rfl, sm0, fun j h => absurd h (Nat.not_lt_zero j)⟩ (fun i σ H' _ ⟨_, _, _, s, _⟩ => SqL.of (s _ _ h1)) ?_ ?_⟩⟩
    · rintro i y σ H3 H4 hi ⟨v1, v2, rfl, s, hj⟩ ⟨Tp, x1, x2, rfl, nT, rfl, e1, e2⟩
      obtain rfl := Option.some.inj e1
      obtain ⟨z, hz, rfl⟩ := map_at e2
      obtain ⟨hlt, rfl⟩ := codes_nat hz
      have s4 := sm s (same_upd (o := .tup [.int (i : Nat), .int (Sr121.alarmAt c i : Nat)]) nT)
      refine ⟨Tp, _, rfl, SqT.of upd_same, rfl, _, _, rfl, _, _, rfl, rfl, _, rfl, _, _, rfl, rfl, _, rfl, ?_⟩
      by_cases h0 : (0 : Int) < (Sr121.alarmAt c i : Int)
      · rw [decide_eq_true h0]
        refine iteT ⟨_, rfl, _, rfl, (by show 2 ≤ sizeLine; decide), fun p hp => q _ p (sm s1 (sm s4 (same_upd hp))) (none_of (sm s1 s4) hp) ?_⟩
        rw [s9_ok hlt hj (by omega)]
        exact tr
      · rw [decide_eq_false h0]
        refine iteF ⟨_, _, rfl, s4, fun j hj2 => ?_⟩
        by_cases e : j = i
        · subst e
          omega
        · exact hj j (by omega)
    · rintro σ H' ⟨v1, v2, rfl, s, hj⟩
      rw [lenV, codes_len] at hj
      refine ⟨(by show 1 ≤ sizeLine; decide), fun p hp => q _ p (sm s1 (sm s (same_upd hp))) (none_of (sm s1 s) hp) ?_⟩
      rw [s9_no hj]
      exact tr
abbrev sAlarms : Stmt := top 46
theorem scAlarms : FnScope ["instance", "parameters", "shots", "shot", "code"] ["instance", "parameters"] (defScope sAlarms) := ⟨rfl, rfl, rfl, by decide +kernel, rfl, by decide +kernel, by decide +kernel⟩
theorem ok_alarms {f : Addr} {fd : FuncData} (T : Txt K mg C) (D : Df K mg "alarms" sAlarms ["instance", "parameters"] f fd) (G_alarm_codes : Ok P w K mg base 4 "alarm_codes" (spSums C codesOf)) : Ok P w K mg base 5 "alarms" (spQR C [[10]] []) := by
  refine D.ok (D.fn.ok scAlarms (fun vs H Q E h => ?_) (fun cdv A outer s H vs Q E hr h => ?_))
  · obtain ⟨a, pa, c, wl, rfl, _⟩ := h
    rfl
  · obtain ⟨a, pa, c, wl, rfl, I, hP, few, q⟩ := h
    refine ⟨_, (pss_cons (ps_setLc (i := 2) (own := [("shot", 3), ("code", 4)]) (g := gTup K 2 (gCons (gName 3) (gCons (gName 4) gNil))) rfl scAlarms.nd rfl rfl (sw_true rfl rfl rfl (by decide +kernel)) (pi_enum (by rfl) T.enumerate (pa_cons (pe_ok G_alarm_codes (hr.mono (by decide)) (by rfl) (pa_cons (pv 0) pa_nil)) pa_nil)) (blkOk_by (own := [("shot", 3), ("code", 4)]) (N := ["instance", "parameters", "shots", "shot", "code"]) (sc := defScope sAlarms) (by decide +kernel)) (fun _ _ _ _ _ => (pg_tup rfl (pgs_cons (pg_name (i := 3) scAlarms.nd rfl (Or.inl rfl)) (pgs_cons (pg_name (i := 4) scAlarms.nd rfl (Or.inl rfl)) pgs_nil)))) (fun _ _ _ _ _ => pts_one (pt_cmpR op_gt (pv 4) pe_int (nomark _))) (fun _ _ _ _ _ => (pv 3)))
      (pss_one (ps_ret (pe_op op_cat (pe_lst (pa_cons (pe_callB call_len_seq (by rfl) T.len PySem.boot_len (pa_cons (pv 2) pa_nil)) pa_nil)) (pv 2))))), ?_⟩
    have hlen : c.weights.length ≤ 100 := Nat.le_trans few (by decide)
    obtain ⟨dx, eo⟩ := I.ob
    refine ⟨_, rfl, a, c, wl, rfl, I, hlen, fun H1 p1 s1 h1 => ⟨p1, (codesOf c).map V.int, rfl, SqL.of h1, fun Dn nD => lc_it walk_enum
      (fun i H' => Same H1 H' ∧ H' Dn = some (.lst ((hits c i).map V.int)))
      ⟨same_upd nD, tr⟩ (fun i H' _ ⟨s, _⟩ => SqL.of (s _ _ h1)) ?_ ?_⟩⟩
    · rintro i y H3 H4 hi ⟨s, hD⟩ ⟨Tp, x1, x2, rfl, nT, rfl, e1, e2⟩
      obtain rfl := Option.some.inj e1
      obtain ⟨z, hz, rfl⟩ := map_at e2
      obtain ⟨hlt, rfl⟩ := codes_nat hz
      have s4 := sm s (same_upd (o := .tup [.int (i : Nat), .int (Sr121.alarmAt c i : Nat)]) nT)
      have hD2 := same_upd (o := .tup [.int (i : Nat), .int (Sr121.alarmAt c i : Nat)]) nT _ _ hD
      refine ⟨Tp, _, rfl, SqT.of upd_same, rfl, _, _, rfl, _, _, rfl, rfl, rfl, _, rfl, _, _, rfl, rfl, _, rfl, ?_⟩
      by_cases h0 : (0 : Int) < (Sr121.alarmAt c i : Int)
      · rw [decide_eq_true h0]
        refine iteT ⟨_, rfl, _, hD2, ?_, same_at s4 nD, ?_⟩
        · rw [lenV]
          exact line_lt (by have := hits_len c i; omega)
        · rw [upd_same, hits_yes (by omega : 0 < Sr121.alarmAt c i), List.map_append]
          rfl
      · rw [decide_eq_false h0]
        refine iteF ⟨s4, ?_⟩
        rw [hits_no (by omega : ¬ 0 < Sr121.alarmAt c i)]
        exact hD2
    · rintro H2 ⟨s, hD⟩
      rw [lenV, codes_len] at hD
      refine ⟨_, rfl, _, _, rfl, .inl (SqL.of hD), (by show 1 ≤ sizeLine; decide), fun p2 n2 => ⟨_, rfl, p2, Dn, _, _, rfl, rfl, tr, same_upd n2 _ _ hD, ?_, fun p3 n3 => ?_⟩⟩
      · rw [lenV]
        exact line_of (by show 1 + (hits c c.weights.length).length ≤ _; have := hits_len c c.weights.length; omega)
      · have s5 := sm (sm s1 s) (same_upd (o := .lst [.int (((hits c c.weights.length).map V.int).length : Int)]) n2)
        refine q _ p3 (sm s5 (same_upd n3)) (none_of s5 n3) ?_
        rw [s10, upd_same, lenV]
        rfl
abbrev sOnset : Stmt := top 47
theorem scOnset : FnScope ["instance", "parameters", "shot", "uppers", "lowers"] ["instance", "parameters"] (defScope sOnset) := ⟨rfl, rfl, rfl, by decide +kernel, rfl, by decide +kernel, by decide +kernel⟩
theorem ok_onset {f : Addr} {fd : FuncData} (T : Txt K mg C) (D : Df K mg "onset" sOnset ["instance", "parameters"] f fd) (G_onset_at_last : Ok P w K mg base 1 "onset_at_last" spOns) (G_lower_cumulative : Ok P w K mg base 3 "lower_cumulative" (spSums C Sr121.lowerSums)) (G_upper_cumulative : Ok P w K mg base 3 "upper_cumulative" (spSums C Sr121.upperSums)) (G_has_shot : Ok P w K mg base 1 "has_shot" (spHas C)) {n : Int} : Ok P w K mg base 5 "onset" (spQR C [[11, n]] [n]) := by
  refine D.ok (D.fn.ok scOnset (fun vs H Q E h => ?_) (fun cdv A outer s H vs Q E hr h => ?_))
  · obtain ⟨a, pa, c, wl, rfl, _⟩ := h
    rfl
  · obtain ⟨a, pa, c, wl, rfl, I, hP, few, q⟩ := h
    refine ⟨_, (pss_cons (ps_set (i := 2) scOnset.nd rfl (Or.inl rfl) (pe_ix ix_list (pv 1) pe_int (fun _ _ => rfl)))
      (pss_cons (ps_if (pt_not (pt_val (pe_ok G_has_shot (hr.mono (by decide)) (by rfl) (pa_cons (pv 0) (pa_cons (pv 2) pa_nil))))) (pss_one (ps_ret (pe_lst (pa_cons (pe_num T.noShot (by rfl)) pa_nil)))) pss_nil)
      (pss_cons (ps_set (i := 3) scOnset.nd rfl (Or.inl rfl) (pe_slice sl_list (pe_ok G_upper_cumulative (hr.mono (by decide)) (by rfl) (pa_cons (pv 0) pa_nil)) po_none (po_some (pe_op op_add (pv 2) pe_int))))
      (pss_cons (ps_set (i := 4) scOnset.nd rfl (Or.inl rfl) (pe_slice sl_list (pe_ok G_lower_cumulative (hr.mono (by decide)) (by rfl) (pa_cons (pv 0) pa_nil)) po_none (po_some (pe_op op_add (pv 2) pe_int))))
      (pss_one (ps_ret (pe_lst (pa_cons (pe_ok G_onset_at_last (hr.mono (by decide)) (by rfl) (pa_cons (pv 3) pa_nil)) (pa_cons (pe_ok G_onset_at_last (hr.mono (by decide)) (by rfl) (pa_cons (pv 4) pa_nil)) pa_nil))))))))), ?_⟩
    have hlen : c.weights.length ≤ 100 := Nat.le_trans few (by decide)
    obtain ⟨dx, eo⟩ := I.ob
    refine ⟨_, rfl, pa, _, 0, _, rfl, rfl, SqL.of hP, rfl, ?_⟩
    refine ⟨_, rfl, _, rfl, a, n, c, wl, rfl, I, _, rfl, ?_⟩
    cases e : isShot c n with
    | false =>
      refine iteT ⟨(by show 1 ≤ sizeLine; decide), fun p hp => q _ p (same_upd hp) hp ?_⟩
      rw [s11_no e]
      exact tr
    | true =>
      obtain ⟨i, rfl, hi⟩ := shot_nat e
      have hu : i < (upperSums c).length := by rw [upper_len]; exact hi
      have hl : i < (lowerSums c).length := by rw [lower_len]; exact hi
      refine iteF ⟨_, rfl, a, c, wl, rfl, I, hlen, fun H1 p1 s1 h1 => ⟨_, rfl, _, _, rfl, rfl, _, rfl, p1, _, rfl, SqL.of h1, fun p2 n2 => ?_⟩⟩
      rw [cut_to hu]
      have s2 := sm s1 (same_upd (o := .lst (((upperSums c).take (i + 1)).map V.int)) n2)
      refine ⟨_, rfl, a, c, wl, rfl, I.same s2, hlen, fun H3 p3 s3 h3 => ⟨_, rfl, _, _, rfl, rfl, _, rfl, p3, _, rfl, SqL.of h3, fun p4 n4 => ?_⟩⟩
      rw [cut_to hl]
      have s4 := sm s3 (same_upd (o := .lst (((lowerSums c).take (i + 1)).map V.int)) n4)
      refine ⟨_, rfl, p2, _, rfl, s4 _ _ tr, fun st hle hk hz => ⟨_, rfl, p4, _, rfl, tr, fun st2 hle2 hk2 hz2 => ⟨(by show 2 ≤ sizeLine; decide), fun p hp => q _ p (sm (sm s2 s4) (same_upd hp)) (none_of (sm s2 s4) hp) ?_⟩⟩⟩
      have e1 := onset_is (upper_nonneg c) hu hle hk hz
      have e2 := onset_is (lower_nonneg c) hl hle2 hk2 hz2
      rw [s11_ok e, show (i : Int).toNat = i from rfl, e1, e2]
      exact tr
end
end Cu
end

section
set_option maxRecDepth 100000
set_option maxHeartbeats 4000000
namespace Cu
open PySem PySem.Spec PyProof.Rows L2
open Sr121 (Chart upperSums lowerSums isWeight isLimit isShot withShot)
section
variable {P : Program} {w : World} {K : PySem.W.Frag} {mg : Str → Option Value} {base : Heap} {C : Addr}
abbrev sWorstRuns : Stmt := top 48
theorem scWorstRuns : FnScope ["instance", "parameters", "shot", "above", "below"] ["instance", "parameters"] (defScope sWorstRuns) := ⟨rfl, rfl, rfl, by decide +kernel, rfl, by decide +kernel, by decide +kernel⟩
theorem ok_worst_runs {f : Addr} {fd : FuncData} (T : Txt K mg C) (D : Df K mg "worst_runs" sWorstRuns ["instance", "parameters"] f fd) (G_worst_run_at_last : Ok P w K mg base 1 "worst_run_at_last" spWor) (G_shortfalls : Ok P w K mg base 2 "shortfalls" (spDev C Sr121.shortfall)) (G_excesses : Ok P w K mg base 2 "excesses" (spDev C Sr121.excess)) (G_has_shot : Ok P w K mg base 1 "has_shot" (spHas C)) {n : Int} : Ok P w K mg base 5 "worst_runs" (spQR C [[12, n]] [n]) := by
  refine D.ok (D.fn.ok scWorstRuns (fun vs H Q E h => ?_) (fun cdv A outer s H vs Q E hr h => ?_))
  · obtain ⟨a, pa, c, wl, rfl, _⟩ := h
    rfl
  · obtain ⟨a, pa, c, wl, rfl, I, hP, few, q⟩ := h
    refine ⟨_, (pss_cons (ps_set (i := 2) scWorstRuns.nd rfl (Or.inl rfl) (pe_ix ix_list (pv 1) pe_int (fun _ _ => rfl)))
      (pss_cons (ps_if (pt_not (pt_val (pe_ok G_has_shot (hr.mono (by decide)) (by rfl) (pa_cons (pv 0) (pa_cons (pv 2) pa_nil))))) (pss_one (ps_ret (pe_lst (pa_cons (pe_num T.noShot (by rfl)) pa_nil)))) pss_nil)
      (pss_cons (ps_set (i := 3) scWorstRuns.nd rfl (Or.inl rfl) (pe_slice sl_list (pe_ok G_excesses (hr.mono (by decide)) (by rfl) (pa_cons (pv 0) pa_nil)) po_none (po_some (pe_op op_add (pv 2) pe_int))))
      (pss_cons (ps_set (i := 4) scWorstRuns.nd rfl (Or.inl rfl) (pe_slice sl_list (pe_ok G_shortfalls (hr.mono (by decide)) (by rfl) (pa_cons (pv 0) pa_nil)) po_none (po_some (pe_op op_add (pv 2) pe_int))))
      (pss_one (ps_ret (pe_op op_cat (pe_op op_cat (pe_lst (pa_cons pe_int pa_nil)) (pe_ok G_worst_run_at_last (hr.mono (by decide)) (by rfl) (pa_cons (pv 3) pa_nil))) (pe_ok G_worst_run_at_last (hr.mono (by decide)) (by rfl) (pa_cons (pv 4) pa_nil))))))))), ?_⟩
    have hlen : c.weights.length ≤ 100 := Nat.le_trans few (by decide)
    obtain ⟨dx, eo⟩ := I.ob
    refine ⟨_, rfl, pa, _, 0, _, rfl, rfl, SqL.of hP, rfl, ?_⟩
    refine ⟨_, rfl, _, rfl, a, n, c, wl, rfl, I, _, rfl, ?_⟩
    cases e : isShot c n with
    | false =>
      refine iteT ⟨(by show 1 ≤ sizeLine; decide), fun p hp => q _ p (same_upd hp) hp ?_⟩
      rw [s12_no e]
      exact tr
    | true =>
      obtain ⟨i, rfl, hi⟩ := shot_nat e
      have hu : i < (c.weights.map (Sr121.excess c)).length := by rw [List.length_map]; exact hi
      have hl : i < (c.weights.map (Sr121.shortfall c)).length := by rw [List.length_map]; exact hi
      have eu : ((c.weights.map (Sr121.excess c)).take (i + 1)).length = i + 1 := by rw [List.length_take]; omega
      have el : ((c.weights.map (Sr121.shortfall c)).take (i + 1)).length = i + 1 := by rw [List.length_take]; omega
      refine iteF ⟨_, rfl, a, c, wl, rfl, I, hlen, fun H1 p1 s1 h1 => ⟨_, rfl, _, _, rfl, rfl, _, rfl, p1, _, rfl, SqL.of h1, fun p2 n2 => ?_⟩⟩
      rw [cut_to hu]
      have s2 := sm s1 (same_upd (o := .lst (((c.weights.map (Sr121.excess c)).take (i + 1)).map V.int)) n2)
      refine ⟨_, rfl, a, c, wl, rfl, I.same s2, hlen, fun H3 p3 s3 h3 => ⟨_, rfl, _, _, rfl, rfl, _, rfl, p3, _, rfl, SqL.of h3, fun p4 n4 => ?_⟩⟩
      rw [cut_to hl]
      have s4 := sm s3 (same_upd (o := .lst (((c.weights.map (Sr121.shortfall c)).take (i + 1)).map V.int)) n4)
      refine ⟨(by show 1 ≤ sizeLine; decide), fun p5 n5 => ?_⟩
      have s5 := same_upd (o := .lst [.int 0]) n5
      refine ⟨_, rfl, p2, _, rfl, s5 _ _ (s4 _ _ tr), by rw [eu]; omega, fun H6 p6 s6 h6 => ⟨p5, p6, _, _, rfl, rfl, s6 _ _ tr, h6, (by show 3 ≤ sizeLine; decide), fun p7 n7 => ?_⟩⟩
      have s7 := sm s6 (same_upd (o := .lst [.int 0, .int (worstFrom ((c.weights.map (Sr121.excess c)).take (i + 1)) ((c.weights.map (Sr121.excess c)).take (i + 1)).length).1, .int ((worstFrom ((c.weights.map (Sr121.excess c)).take (i + 1)) ((c.weights.map (Sr121.excess c)).take (i + 1)).length).2 : Int)]) n7)
      refine ⟨_, rfl, p4, _, rfl, s7 _ _ (s5 _ _ tr), by rw [el]; omega, fun H8 p8 s8 h8 => ⟨p7, p8, _, _, rfl, rfl, s8 _ _ tr, h8, (by show 5 ≤ sizeLine; decide), fun p hp => ?_⟩⟩
      have s9 := sm (sm s2 s4) (sm s5 (sm s7 s8))
      refine q _ p (sm s9 (same_upd hp)) (none_of s9 hp) ?_
      rw [s12_ok e, show (i : Int).toNat = i from rfl, worst_eq hi, worst_eq hi, eu, el]
      exact tr
abbrev sAddShotIf : Stmt := top 49
theorem scAddShotIf : FnScope ["instance", "parameters", "weight"] ["instance", "parameters"] (defScope sAddShotIf) := ⟨rfl, rfl, rfl, by decide +kernel, rfl, by decide +kernel, by decide +kernel⟩
theorem ok_add_shot_if {f : Addr} {fd : FuncData} (T : Txt K mg C) (D : Df K mg "add_shot_if" sAddShotIf ["instance", "parameters"] f fd) (G_with_shot : Ok P w K mg base 4 "with_shot" (spWS C)) (G_state_at_last_shot : Ok P w K mg base 4 "state_at_last_shot" (spState C)) (G_in_weight_range : Ok P w K mg base 1 "in_weight_range" spInW) {n : Int} : Ok P w K mg base 5 "add_shot_if" (spQR C [[13, n]] [n]) := by
  refine D.ok (D.fn.ok scAddShotIf (fun vs H Q E h => ?_) (fun cdv A outer s H vs Q E hr h => ?_))
  · obtain ⟨a, pa, c, wl, rfl, _⟩ := h
    rfl
  · obtain ⟨a, pa, c, wl, rfl, I, hP, few, q⟩ := h
    refine ⟨_, (pss_cons (ps_set (i := 2) scAddShotIf.nd rfl (Or.inl rfl) (pe_ix ix_list (pv 1) pe_int (fun _ _ => rfl)))
      (pss_cons (ps_if (pt_not (pt_val (pe_ok G_in_weight_range (hr.mono (by decide)) (by rfl) (pa_cons (pv 2) pa_nil)))) (pss_one (ps_ret (pe_lst (pa_cons (pe_num T.outR (by rfl)) pa_nil)))) pss_nil)
      (pss_one (ps_ret (pe_ok G_state_at_last_shot (hr.mono (by decide)) (by rfl) (pa_cons (pe_ok G_with_shot (hr.mono (by decide)) (by rfl) (pa_cons (pv 0) (pa_cons (pv 2) pa_nil))) pa_nil)))))), ?_⟩
    have hlen : c.weights.length ≤ 100 := Nat.le_trans few (by decide)
    obtain ⟨dx, eo⟩ := I.ob
    refine ⟨_, rfl, pa, _, 0, _, rfl, rfl, SqL.of hP, rfl, ?_⟩
    refine ⟨_, rfl, n, rfl, _, rfl, ?_⟩
    cases e : isWeight n with
    | false =>
      refine iteT ⟨(by show 1 ≤ sizeLine; decide), fun p hp => q _ p (same_upd hp) hp ?_⟩
      rw [s13_bad e]
      exact tr
    | true =>
      refine iteF ⟨_, rfl, _, rfl, a, n, c, wl, rfl, I, hlen, fun H1 p1 nl s1 n1 J => ⟨p1, Sr121.withShot c n, nl, rfl, J, by rw [withShot_len]; omega, withShot_pos c n, fun H2 p2 s2 n2 h2 => q H2 p2 (sm s1 s2) (none_of s1 n2) ?_⟩⟩
      rw [s13_ok e]
      exact h2
abbrev sSmallestAlarmingWeight : Stmt := top 50
theorem scSmallestAlarmingWeight : FnScope ["instance", "parameters", "reached", "missing"] ["instance", "parameters"] (defScope sSmallestAlarmingWeight) := ⟨rfl, rfl, rfl, by decide +kernel, rfl, by decide +kernel, by decide +kernel⟩
theorem ok_smallest_alarming_weight {f : Addr} {fd : FuncData} (T : Txt K mg C) (D : Df K mg "smallest_alarming_weight" sSmallestAlarmingWeight ["instance", "parameters"] f fd) (G_upper_cumulative : Ok P w K mg base 3 "upper_cumulative" (spSums C Sr121.upperSums)) : Ok P w K mg base 5 "smallest_alarming_weight" (spQR C [[14]] []) := by
  refine D.ok (D.fn.ok scSmallestAlarmingWeight (fun vs H Q E h => ?_) (fun cdv A outer s H vs Q E hr h => ?_))
  · obtain ⟨a, pa, c, wl, rfl, _⟩ := h
    rfl
  · obtain ⟨a, pa, c, wl, rfl, I, hP, few, q⟩ := h
    refine ⟨_, (pss_cons (ps_set (i := 2) scSmallestAlarmingWeight.nd rfl (Or.inl rfl) (pe_ix ix_list (pe_op op_cat (pe_lst (pa_cons pe_int pa_nil)) (pe_ok G_upper_cumulative (hr.mono (by decide)) (by rfl) (pa_cons (pv 0) pa_nil))) (pe_un un_neg pe_int) (fun _ _ => rfl)))
      (pss_cons (ps_set (i := 3) scSmallestAlarmingWeight.nd rfl (Or.inl rfl) (pe_op op_sub (pe_op op_add (pe_fld (pv 0) rfl) pe_int) (pv 2)))
      (pss_one (ps_ret (pe_lst (pa_cons pe_int (pa_cons (pe_op op_add (pe_op op_add (pe_fld (pv 0) rfl) (pe_fld (pv 0) rfl)) (pv 3)) pa_nil))))))), ?_⟩
    have hlen : c.weights.length ≤ 100 := Nat.le_trans few (by decide)
    obtain ⟨dx, eo⟩ := I.ob
    refine ⟨(by show 1 ≤ sizeLine; decide), fun p1 n1 => ?_⟩
    have s1 := same_upd (o := .lst [.int 0]) n1
    refine ⟨_, rfl, a, c, wl, rfl, I.same s1, hlen, fun H2 p2 s2 h2 => ⟨p1, p2, _, _, rfl, rfl, s2 _ _ tr, h2, ?_, fun p3 n3 => ?_⟩⟩
    · rw [lenV (upperSums c), upper_len]
      exact line_of (by show 1 + c.weights.length ≤ _; omega)
    have s3 := sm (sm s1 s2) (same_upd (o := .lst ([.int 0] ++ (upperSums c).map V.int)) n3)
    have h3 : (upd H2 p3 (.lst ([.int 0] ++ (upperSums c).map V.int))) p3 = some (.lst ((0 :: upperSums c).map V.int)) := tr
    have eo3 := s3 _ _ eo
    refine ⟨_, rfl, p3, _, -1, _, rfl, rfl, SqL.of h3, at_last (Nat.succ_pos _), ?_⟩
    refine ⟨_, rfl, _, C, _, _, _, rfl, eo3, T.cl, T.nH, iF_h, _, _, rfl, rfl, _, rfl, _, _, rfl, rfl, ?_⟩
    refine ⟨_, rfl, _, C, _, _, _, rfl, eo3, T.cl, T.nT, iF_t, _, rfl, _, C, _, _, _, rfl, eo3, T.cl, T.nA, iF_a, _, _, rfl, rfl, _, rfl, _, _, rfl, rfl, (by show 2 ≤ sizeLine; decide), fun p hp => q _ p (sm s3 (same_upd hp)) (none_of s3 hp) ?_⟩
    have e : c.target + (c.allowance : Int) + ((c.threshold : Int) + 1 - (0 :: upperSums c).getLastD 0) = Sr121.smallestAlarmingWeight c := by
      have e2 : (0 :: upperSums c).getLastD 0 = (upperSums c).getLastD 0 := List.getLastD_cons ..
      unfold Sr121.smallestAlarmingWeight
      rw [e2]
      omega
    rw [s14, upd_same]
    show some (HO.lst [V.int 0, V.int (c.target + (c.allowance : Int) + ((c.threshold : Int) + 1 - (0 :: upperSums c).getLastD 0))]) = _
    rw [e]
    rfl
abbrev sLongestRuns : Stmt := top 51
theorem scLongestRuns : FnScope ["instance", "parameters", "above", "below", "weight"] ["instance", "parameters"] (defScope sLongestRuns) := ⟨rfl, rfl, rfl, by decide +kernel, rfl, by decide +kernel, by decide +kernel⟩
theorem ok_longest_runs {f : Addr} {fd : FuncData} (T : Txt K mg C) (D : Df K mg "longest_runs" sLongestRuns ["instance", "parameters"] f fd) (G_longest_positive_run : Ok P w K mg base 1 "longest_positive_run" spLon) : Ok P w K mg base 5 "longest_runs" (spQR C [[15]] []) := by
  refine D.ok (D.fn.ok scLongestRuns (fun vs H Q E h => ?_) (fun cdv A outer s H vs Q E hr h => ?_))
  · obtain ⟨a, pa, c, wl, rfl, _⟩ := h
    rfl
  · obtain ⟨a, pa, c, wl, rfl, I, hP, few, q⟩ := h
    refine ⟨_, (pss_cons (ps_setLc (i := 2) (own := [("weight", 4)]) (te := (tOp (rI0 fun i j => V.int (i - j)) (tVar 4) (tFld K (tVar 0) "target"))) rfl scLongestRuns.nd rfl rfl (sw_true rfl rfl rfl (by decide +kernel)) (pi_list (pe_fld (pv 0) rfl)) (blkOk_by (own := [("weight", 4)]) (N := ["instance", "parameters", "above", "below", "weight"]) (sc := defScope sLongestRuns) (by decide +kernel)) (fun _ _ _ _ _ => (pg_name (i := 4) scLongestRuns.nd rfl (Or.inl rfl))) (fun _ _ _ _ _ => pts_nil) (fun _ _ _ _ _ => (pe_op op_sub (pv 4) (pe_fld (pv 0) rfl))))
      (pss_cons (ps_setLc (i := 3) (own := [("weight", 4)]) (te := (tOp (rI0 fun i j => V.int (i - j)) (tFld K (tVar 0) "target") (tVar 4))) rfl scLongestRuns.nd rfl rfl (sw_true rfl rfl rfl (by decide +kernel)) (pi_list (pe_fld (pv 0) rfl)) (blkOk_by (own := [("weight", 4)]) (N := ["instance", "parameters", "above", "below", "weight"]) (sc := defScope sLongestRuns) (by decide +kernel)) (fun _ _ _ _ _ => (pg_name (i := 4) scLongestRuns.nd rfl (Or.inl rfl))) (fun _ _ _ _ _ => pts_nil) (fun _ _ _ _ _ => (pe_op op_sub (pe_fld (pv 0) rfl) (pv 4))))
      (pss_one (ps_ret (pe_lst (pa_cons (pe_ok G_longest_positive_run (hr.mono (by decide)) (by rfl) (pa_cons (pv 2) pa_nil)) (pa_cons (pe_ok G_longest_positive_run (hr.mono (by decide)) (by rfl) (pa_cons (pv 3) pa_nil)) pa_nil))))))), ?_⟩
    have hlen : c.weights.length ≤ 100 := Nat.le_trans few (by decide)
    obtain ⟨dx, eo⟩ := I.ob
    have one : ∀ {H0 H' : Hp} {Dn : Addr} {i : Nat} {z : Int} (g : Int → Int) (hz : c.weights[i]? = some z) (s : Same H0 H') (nD : H0 Dn = none) (hD : H' Dn = some (.lst (((c.weights.take i).map g).map V.int))),
        ∃ acc, H' Dn = some (.lst acc) ∧ acc.length < sizeLine ∧ Same H0 (upd H' Dn (.lst (acc ++ [.int (g z)]))) ∧ (upd H' Dn (.lst (acc ++ [.int (g z)]))) Dn = some (.lst (((c.weights.take (i + 1)).map g).map V.int)) := by
      intro H0 H' Dn i z g hz s nD hD
      refine ⟨_, hD, ?_, same_at s nD, ?_⟩
      · rw [lenV, List.length_map, List.length_take]
        exact line_lt (by omega)
      · rw [upd_same]
        obtain ⟨h3, e3⟩ := List.getElem?_eq_some_iff.mp hz
        rw [← List.take_append_getElem h3, e3, List.map_append, List.map_append]
        rfl
    refine ⟨_, rfl, _, C, _, _, _, rfl, eo, T.cl, T.nW, iF_w, wl, rfl, ⟨_, SqL.of I.ws⟩, fun D1 nD1 => lc_list (K := K) (a := wl) (xs := c.weights.map V.int) (fun i H' => Same H H' ∧ H' D1 = some (.lst (((c.weights.take i).map fun x => x - c.target).map V.int)))
      ⟨same_upd nD1, tr⟩ (fun i H' _ ⟨s, _⟩ => SqL.of (s _ _ I.ws)) ?_ ?_⟩
    · rintro i y H' hi ⟨s, hD⟩
      obtain ⟨z, hz, rfl⟩ := map_at hi
      have eo2 := s _ _ eo
      exact ⟨rfl, _, rfl, _, rfl, _, C, _, _, _, rfl, eo2, T.cl, T.nT, iF_t, _, _, rfl, rfl, one (fun x => x - c.target) hz s nD1 hD⟩
    rintro H1 ⟨s1, hD1⟩
    rw [lenV, List.take_length] at hD1
    have eo1 := s1 _ _ eo
    have ws1 := s1 _ _ I.ws
    refine ⟨_, rfl, _, C, _, _, _, rfl, eo1, T.cl, T.nW, iF_w, wl, rfl, ⟨_, SqL.of ws1⟩, fun D2 nD2 => lc_list (K := K) (a := wl) (xs := c.weights.map V.int) (fun i H' => Same H1 H' ∧ H' D2 = some (.lst (((c.weights.take i).map fun x => c.target - x).map V.int)))
      ⟨same_upd nD2, tr⟩ (fun i H' _ ⟨s, _⟩ => SqL.of (s _ _ ws1)) ?_ ?_⟩
    · rintro i y H' hi ⟨s, hD⟩
      obtain ⟨z, hz, rfl⟩ := map_at hi
      have eo2 := s _ _ eo1
      exact ⟨rfl, _, rfl, _, C, _, _, _, rfl, eo2, T.cl, T.nT, iF_t, _, rfl, _, _, rfl, rfl, one (fun x => c.target - x) hz s nD2 hD⟩
    rintro H2 ⟨s2, hD2⟩
    rw [lenV, List.take_length] at hD2
    refine ⟨_, rfl, D1, _, rfl, s2 _ _ hD1, _, rfl, D2, _, rfl, hD2, (by show 2 ≤ sizeLine; decide), fun p hp => q _ p (sm (sm s1 s2) (same_upd hp)) (none_of (sm s1 s2) hp) ?_⟩
    have e1 := run_eq (fun x => decide (c.target < x)) (fun x => x - c.target) (fun x => by rw [decide_eq_true_eq]; omega) c.weights
    have e2 := run_eq (fun x => decide (x < c.target)) (fun x => c.target - x) (fun x => by rw [decide_eq_true_eq]; omega) c.weights
    rw [s15, upd_same, e1, e2]
    rfl
abbrev sMeanWeight : Stmt := top 52
theorem scMeanWeight : FnScope ["instance", "parameters", "count"] ["instance", "parameters"] (defScope sMeanWeight) := ⟨rfl, rfl, rfl, by decide +kernel, rfl, by decide +kernel, by decide +kernel⟩
theorem ok_mean_weight {f : Addr} {fd : FuncData} (T : Txt K mg C) (D : Df K mg "mean_weight" sMeanWeight ["instance", "parameters"] f fd) (G_lowest_terms : Ok P w K mg base 2 "lowest_terms" spLow) : Ok P w K mg base 5 "mean_weight" (spQR C [[16]] []) := by
  refine D.ok (D.fn.ok scMeanWeight (fun vs H Q E h => ?_) (fun cdv A outer s H vs Q E hr h => ?_))
  · obtain ⟨a, pa, c, wl, rfl, _⟩ := h
    rfl
  · obtain ⟨a, pa, c, wl, rfl, I, hP, few, q⟩ := h
    refine ⟨_, (pss_cons (ps_set (i := 2) scMeanWeight.nd rfl (Or.inl rfl) (pe_callB call_len_seq (by rfl) T.len PySem.boot_len (pa_cons (pe_fld (pv 0) rfl) pa_nil)))
      (pss_cons (ps_if (pt_cmpR op_eq (pv 2) pe_int (nomark _)) (pss_one (ps_ret (pe_lst (pa_cons (pe_num T.noShots (by rfl)) pa_nil)))) pss_nil)
      (pss_one (ps_ret (pe_op op_cat (pe_lst (pa_cons pe_int pa_nil)) (pe_ok G_lowest_terms (hr.mono (by decide)) (by rfl) (pa_cons (pe_callB (cr_sum rfl) (by rfl) T.sum (by decide +kernel) (pa_cons (pe_fld (pv 0) rfl) pa_nil)) (pa_cons (pv 2) pa_nil)))))))), ?_⟩
    have hlen : c.weights.length ≤ 100 := Nat.le_trans few (by decide)
    obtain ⟨dx, eo⟩ := I.ob
    refine ⟨_, rfl, _, C, _, _, _, rfl, eo, T.cl, T.nW, iF_w, _, _, rfl, .inl (SqL.of I.ws), _, rfl, rfl, _, rfl, ?_⟩
    have el := lenV c.weights
    by_cases h0 : (V.int ((c.weights.map V.int).length : Int)) = V.int 0
    · rw [decide_eq_true h0]
      have h1 : c.weights = [] := by
        have h2 : ((c.weights.map V.int).length : Int) = 0 := V.int.inj h0
        exact List.length_eq_zero_iff.mp (by omega)
      refine iteT ⟨(by show 1 ≤ sizeLine; decide), fun p hp => q _ p (same_upd hp) hp ?_⟩
      rw [s16_no h1]
      exact tr
    · rw [decide_eq_false h0]
      have h1 : c.weights ≠ [] := fun z => h0 (by rw [z]; rfl)
      have hp : 0 < c.weights.length := List.length_pos_iff.mpr h1
      refine iteF ⟨(by show 1 ≤ sizeLine; decide), fun p1 n1 => ?_⟩
      have s1 := same_upd (o := .lst [.int 0]) n1
      have eo1 := s1 _ _ eo
      refine ⟨_, rfl, _, C, _, _, _, rfl, eo1, T.cl, T.nW, iF_w, wl, c.weights, rfl, SqL.of (s1 _ _ I.ws), _, rfl, c.weights.sum, (c.weights.map V.int).length, rfl, by omega, by omega, fun H2 p2 s2 h2 => ⟨p1, p2, _, _, rfl, rfl, s2 _ _ tr, h2, ?_, fun p3 n3 => q _ p3 (sm (sm s1 s2) (same_upd n3)) (none_of (sm s1 s2) n3) ?_⟩⟩
      · rw [lenV]
        show 3 ≤ sizeLine
        decide
      · rw [s16_ok h1, upd_same, el]
        rfl
abbrev sDescribe : Stmt := top 53
theorem scDescribe : FnScope ["instance", "parameters", "settings"] ["instance", "parameters"] (defScope sDescribe) := ⟨rfl, rfl, rfl, by decide +kernel, rfl, by decide +kernel, by decide +kernel⟩
theorem ok_describe {f : Addr} {fd : FuncData} (T : Txt K mg C) (D : Df K mg "describe" sDescribe ["instance", "parameters"] f fd) : Ok P w K mg base 5 "describe" (spQR C [[17]] []) := by
  refine D.ok (D.fn.ok scDescribe (fun vs H Q E h => ?_) (fun cdv A outer s H vs Q E hr h => ?_))
  · obtain ⟨a, pa, c, wl, rfl, _⟩ := h
    rfl
  · obtain ⟨a, pa, c, wl, rfl, I, hP, few, q⟩ := h
    refine ⟨_, (pss_cons (ps_set (i := 2) scDescribe.nd rfl (Or.inl rfl) (pe_lst (pa_cons (pe_fld (pv 0) rfl) (pa_cons (pe_fld (pv 0) rfl) (pa_cons (pe_fld (pv 0) rfl) pa_nil)))))
      (pss_one (ps_ret (pe_op op_cat (pe_op op_cat (pe_lst (pa_cons (pe_callB call_len_seq (by rfl) T.len PySem.boot_len (pa_cons (pe_fld (pv 0) rfl) pa_nil)) pa_nil)) (pv 2)) (pe_fld (pv 0) rfl))))), ?_⟩
    have hlen : c.weights.length ≤ 100 := Nat.le_trans few (by decide)
    obtain ⟨dx, eo⟩ := I.ob
    refine ⟨_, rfl, _, C, _, _, _, rfl, eo, T.cl, T.nT, iF_t, _, rfl, _, C, _, _, _, rfl, eo, T.cl, T.nA, iF_a, _, rfl, _, C, _, _, _, rfl, eo, T.cl, T.nH, iF_h, (by show 3 ≤ sizeLine; decide), fun p1 n1 => ?_⟩
    have s1 := same_upd (o := .lst [.int c.target, .int (c.allowance : Int), .int (c.threshold : Int)]) n1
    have eo1 := s1 _ _ eo
    refine ⟨_, rfl, _, C, _, _, _, rfl, eo1, T.cl, T.nW, iF_w, _, _, rfl, .inl (SqL.of (s1 _ _ I.ws)), (by show 1 ≤ sizeLine; decide), fun p2 n2 => ?_⟩
    have s2 := same_upd (o := .lst [.int ((c.weights.map V.int).length : Int)]) n2
    refine ⟨_, rfl, p2, p1, _, _, rfl, rfl, tr, s2 _ _ tr, (by show 4 ≤ sizeLine; decide), fun p3 n3 => ?_⟩
    have s3 := same_upd (o := .lst [.int ((c.weights.map V.int).length : Int), .int c.target, .int (c.allowance : Int), .int (c.threshold : Int)]) n3
    have s4 := sm s1 (sm s2 s3)
    have eo3 := s4 _ _ eo
    refine ⟨_, rfl, _, C, _, _, _, rfl, eo3, T.cl, T.nW, iF_w, p3, wl, _, _, rfl, rfl, tr, s4 _ _ I.ws, ?_, fun p hp => q _ p (sm s4 (same_upd hp)) (none_of s4 hp) ?_⟩
    · rw [lenV]
      exact line_of (by show 4 + c.weights.length ≤ _; omega)
    · rw [s17, upd_same, lenV]
      rfl
end
end Cu
end

section
set_option maxRecDepth 100000
set_option maxHeartbeats 4000000
namespace Cu
open PySem PySem.Spec PyProof.Rows L2
open Sr121 (Chart upperSums lowerSums isWeight isLimit isShot withShot)
section
variable {P : Program} {w : World} {K : PySem.W.Frag} {mg : Str → Option Value} {base : Heap} {C : Addr}

def spCR (C : Addr) (raw : List (List Int)) (ps : List Int) : Sp := fun vs H Q _ => ∃ (iv : V) (pa : Addr) (s : St) (ok : Addr → Prop), vs = [iv, .ref pa] ∧ StAt C H iv s ok ∧ H pa = some (.lst (ps.map V.int)) ∧ ok pa ∧ (∀ p, H p = none → ok p) ∧ Few s ∧
  (s = none → ∃ a b d, raw = [[0, a, b, d]]) ∧
  ∀ H' t iv' al, Same H H' → H' t = some (.tup [iv', .ref al]) → H' al = some (.lst ((stp s raw).2.map V.int)) → StAt C H' iv' (stp s raw).1 ok → ok al → Q (.ref t) H'
theorem done {C : Addr} {H H1 : Hp} {t al : Addr} {iv : V} {s' : St} {ok : Addr → Prop} {ans : List Int} {Q : VK}
    (q : ∀ H' t iv' al, Same H H' → H' t = some (.tup [iv', .ref al]) → H' al = some (.lst (ans.map V.int)) → StAt C H' iv' s' ok → ok al → Q (.ref t) H')
    (s : Same H H1) (nt : H1 t = none) (ha : H1 al = some (.lst (ans.map V.int))) (J : StAt C H1 iv s' ok) (o : ok al) : Q (.ref t) (upd H1 t (.tup [iv, .ref al])) :=
  q _ t iv al (sm s (same_upd nt)) upd_same (same_upd nt _ _ ha) (J.same (same_upd nt)) o
theorem at_set {ns : List Int} {j : Nat} {x : Int} : (ns.map V.int).set j (.int x) = (ns.set j x).map V.int := List.map_set.symm
theorem ixN_of {n j : Nat} (h : j < n) : ixN n (j : Int) = some j := by
  unfold ixN
  rw [if_pos (Int.natCast_nonneg j), if_pos (by omega)]
  rfl
abbrev sCreate : Stmt := top 58
theorem scCreate : FnScope ["instance", "parameters", "target", "allowance", "threshold"] ["instance", "parameters"] (defScope sCreate) := ⟨rfl, rfl, rfl, by decide +kernel, rfl, by decide +kernel, by decide +kernel⟩
theorem ok_create {f : Addr} {fd : FuncData} (T : Txt K mg C) (D : Df K mg "create" sCreate ["instance", "parameters"] f fd) (G_in_limit_range : Ok P w K mg base 1 "in_limit_range" spInL) (G_in_weight_range : Ok P w K mg base 1 "in_weight_range" spInW) {n b d : Int} {fI : Addr} {fdI : FuncData} (M : Mk K C fI) (GI : FnOk P w K mg base CX0 1 fI fdI ["self", "target", "allowance", "threshold", "weights"] (spInit C)) (bI : Binds K fdI ["self", "target", "allowance", "threshold", "weights"] []) : Ok P w K mg base 5 "create" (spCR C [[0, n, b, d]] [n, b, d]) := by
  refine D.ok (D.fn.ok scCreate (fun vs H Q E h => ?_) (fun cdv A outer s H vs Q E hr h => ?_))
  · obtain ⟨iv, pa, s, ok, rfl, _⟩ := h
    rfl
  · obtain ⟨iv, pa, s, ok, rfl, hS, hP, hpa, hnew, few, hn, q⟩ := h
    refine ⟨_, (pss_cons (ps_asg (pv 1) (pg_unl rfl (pgs_cons (pg_name (i := 2) scCreate.nd rfl (Or.inl rfl)) (pgs_cons (pg_name (i := 3) scCreate.nd rfl (Or.inl rfl)) (pgs_cons (pg_name (i := 4) scCreate.nd rfl (Or.inl rfl)) pgs_nil)))))
      (pss_cons (ps_if (pt_not (PW.pt (pw_and (pt_val (pe_ok G_in_weight_range (hr.mono (by decide)) (by rfl) (pa_cons (pv 2) pa_nil))) (pw_and (pt_val (pe_ok G_in_limit_range (hr.mono (by decide)) (by rfl) (pa_cons (pv 3) pa_nil))) (pw_and1 (pt_val (pe_ok G_in_limit_range (hr.mono (by decide)) (by rfl) (pa_cons (pv 4) pa_nil)))))))) (pss_one (ps_ret (pe_tup (pa_cons (pv 0) (pa_cons (pe_lst (pa_cons (pe_num T.outR (by rfl)) pa_nil)) pa_nil))))) pss_nil)
      (pss_one (ps_ret (pe_tup (pa_cons (pe_make M GI (hr.mono (by decide)) rfl T.gC bI .nil pass0 (pa_cons (pv 2) (pa_cons (pv 3) (pa_cons (pv 4) (pa_cons (pe_lst pa_nil) pa_nil))))) (pa_cons (pe_lst (pa_cons pe_int pa_nil)) pa_nil))))))), ?_⟩
    refine ⟨_, rfl, pa, _, rfl, SqL.of hP, rfl, _, _, rfl, _, _, rfl, _, _, rfl, rfl, ?_⟩
    refine ⟨_, rfl, n, rfl, _, rfl, ?_⟩
    cases e1 : isWeight n with
    | false => exact iteF (iteT ⟨_, rfl, (by show 1 ≤ sizeLine; decide), fun p1 n1 => ⟨(by show 2 ≤ sizeLine; decide), fun t nt => by
      rw [s0_bad (by rw [e1]; rfl)] at q
      exact done q (same_upd n1) nt tr (hS.same (same_upd n1)) (hnew p1 n1)⟩⟩)
    | true =>
      refine iteT ⟨_, rfl, b, rfl, _, rfl, ?_⟩
      cases e2 : isLimit b with
      | false => exact iteF (iteT ⟨_, rfl, (by show 1 ≤ sizeLine; decide), fun p1 n1 => ⟨(by show 2 ≤ sizeLine; decide), fun t nt => by
      rw [s0_bad (by rw [e1, e2]; rfl)] at q
      exact done q (same_upd n1) nt tr (hS.same (same_upd n1)) (hnew p1 n1)⟩⟩)
      | true =>
        refine iteT ⟨_, rfl, d, rfl, _, rfl, ?_⟩
        cases e3 : isLimit d with
        | false => exact iteT ⟨_, rfl, (by show 1 ≤ sizeLine; decide), fun p1 n1 => ⟨(by show 2 ≤ sizeLine; decide), fun t nt => by
      rw [s0_bad (by rw [e1, e2, e3]; rfl)] at q
      exact done q (same_upd n1) nt tr (hS.same (same_upd n1)) (hnew p1 n1)⟩⟩
        | true =>
          rw [s0_ok (by rw [e1, e2, e3]; rfl)] at q
          obtain ⟨x, rfl⟩ := limit_nat e2
          obtain ⟨y, rfl⟩ := limit_nat e3
          refine iteF ⟨_, rfl, _, rfl, _, rfl, Nat.zero_le _, fun p0 n0 => ?_⟩
          intro o dx2 nx nd ne
          refine ⟨o, dx2, _, _, _, _, rfl, upd_same, fun H1 J kp => ⟨rfl, ?_⟩⟩
          have s0 := same_upd (o := .lst []) n0
          have s1 := sm s0 (Same.made nx nd kp)
          refine ⟨(by show 1 ≤ sizeLine; decide), fun p1 n1 => ⟨(by show 2 ≤ sizeLine; decide), fun t nt => ?_⟩⟩
          have s2 := same_upd (o := .lst [.int 0]) n1
          exact done (al := p1) q (sm s1 s2) nt tr ⟨o, p0, rfl, hnew p0 n0, ⟨⟨dx2, s2 _ _ J⟩, s2 _ _ (Same.made nx nd kp _ _ tr)⟩⟩ (hnew p1 (none_of s1 n1))
abbrev sAddShot : Stmt := top 59
theorem scAddShot : FnScope ["instance", "parameters", "weight", "longer"] ["instance", "parameters"] (defScope sAddShot) := ⟨rfl, rfl, rfl, by decide +kernel, rfl, by decide +kernel, by decide +kernel⟩
theorem ok_add_shot {f : Addr} {fd : FuncData} (T : Txt K mg C) (D : Df K mg "add_shot" sAddShot ["instance", "parameters"] f fd) (G_state_at_last_shot : Ok P w K mg base 4 "state_at_last_shot" (spState C)) (G_with_shot : Ok P w K mg base 4 "with_shot" (spWS C)) (G_in_weight_range : Ok P w K mg base 1 "in_weight_range" spInW) {n : Int} : Ok P w K mg base 5 "add_shot" (spCR C [[1, n]] [n]) := by
  refine D.ok (D.fn.ok scAddShot (fun vs H Q E h => ?_) (fun cdv A outer s H vs Q E hr h => ?_))
  · obtain ⟨iv, pa, s, ok, rfl, _⟩ := h
    rfl
  · obtain ⟨iv, pa, s, ok, rfl, hS, hP, hpa, hnew, few, hn, q⟩ := h
    refine ⟨_, (pss_cons (ps_set (i := 2) scAddShot.nd rfl (Or.inl rfl) (pe_ix ix_list (pv 1) pe_int (fun _ _ => rfl)))
      (pss_cons (ps_if (pt_not (pt_val (pe_ok G_in_weight_range (hr.mono (by decide)) (by rfl) (pa_cons (pv 2) pa_nil)))) (pss_one (ps_ret (pe_tup (pa_cons (pv 0) (pa_cons (pe_lst (pa_cons (pe_num T.outR (by rfl)) pa_nil)) pa_nil))))) pss_nil)
      (pss_cons (ps_if (pt_cmpR op_ge (pe_callB call_len_seq (by rfl) T.len PySem.boot_len (pa_cons (pe_fld (pv 0) rfl) pa_nil)) (pe_num T.mostShots (by rfl)) (nomark _)) (pss_one (ps_ret (pe_tup (pa_cons (pv 0) (pa_cons (pe_lst (pa_cons (pe_num T.tooMany (by rfl)) pa_nil)) pa_nil))))) pss_nil)
      (pss_cons (ps_set (i := 3) scAddShot.nd rfl (Or.inl rfl) (pe_ok G_with_shot (hr.mono (by decide)) (by rfl) (pa_cons (pv 0) (pa_cons (pv 2) pa_nil))))
      (pss_one (ps_ret (pe_tup (pa_cons (pv 3) (pa_cons (pe_ok G_state_at_last_shot (hr.mono (by decide)) (by rfl) (pa_cons (pv 3) pa_nil)) pa_nil))))))))), ?_⟩
    obtain ⟨c, rfl⟩ : ∃ c, s = some c := by
      cases s with
      | some c => exact ⟨c, rfl⟩
      | none =>
        obtain ⟨_, _, _, e⟩ := hn rfl
        simp at e
    obtain ⟨a, wl, rfl, hwl, I⟩ := hS
    have hS : StAt C H (.ref a) (some c) ok := ⟨a, wl, rfl, hwl, I⟩
    have hlen : c.weights.length ≤ 100 := Nat.le_trans (few c rfl) (by decide)
    obtain ⟨dx, eo⟩ := I.ob
    refine ⟨_, rfl, pa, _, 0, _, rfl, rfl, SqL.of hP, rfl, ?_⟩
    refine ⟨_, rfl, n, rfl, _, rfl, ?_⟩
    cases e1 : isWeight n with
    | false => exact iteT ⟨_, rfl, (by show 1 ≤ sizeLine; decide), fun p1 n1 => ⟨(by show 2 ≤ sizeLine; decide), fun t nt => by
      rw [s1_bad e1] at q
      exact done q (same_upd n1) nt tr (hS.same (same_upd n1)) (hnew p1 n1)⟩⟩
    | true =>
      refine iteF ⟨_, rfl, _, C, _, _, _, rfl, eo, T.cl, T.nW, iF_w, _, _, rfl, .inl (SqL.of I.ws), _, _, rfl, rfl, _, rfl, ?_⟩
      have el := List.length_map (as := c.weights) V.int
      by_cases h2 : (24 : Int) ≤ ((c.weights.map V.int).length : Int)
      · rw [decide_eq_true h2]
        exact iteT ⟨_, rfl, (by show 1 ≤ sizeLine; decide), fun p1 n1 => ⟨(by show 2 ≤ sizeLine; decide), fun t nt => by
      rw [s1_full e1 (by omega)] at q
      exact done q (same_upd n1) nt tr (hS.same (same_upd n1)) (hnew p1 n1)⟩⟩
      · rw [decide_eq_false h2]
        rw [s1_ok e1 (by omega)] at q
        refine iteF ⟨_, rfl, _, rfl, a, n, c, wl, rfl, I, hlen, fun H1 p nl s1 nn J => ?_⟩
        refine ⟨_, rfl, _, rfl, p, Sr121.withShot c n, nl, rfl, J, by rw [withShot_len]; omega, withShot_pos c n, fun H2 p2 s2 n2 h2 => ⟨(by show 2 ≤ sizeLine; decide), fun t nt => ?_⟩⟩
        exact done q (sm s1 s2) nt h2 ⟨p, nl, rfl, hnew nl nn, J.same s2⟩ (hnew p2 (none_of s1 n2))
abbrev sSetShots : Stmt := top 60
theorem scSetShots : FnScope ["instance", "parameters"] ["instance", "parameters"] (defScope sSetShots) := ⟨rfl, rfl, rfl, by decide +kernel, rfl, by decide +kernel, by decide +kernel⟩
theorem ok_set_shots {f : Addr} {fd : FuncData} (T : Txt K mg C) (D : Df K mg "set_shots" sSetShots ["instance", "parameters"] f fd) (G_with_weights : Ok P w K mg base 3 "with_weights" (spWW C)) (G_all_in_weight_range : Ok P w K mg base 2 "all_in_weight_range" spAll) {ps : List Int} : Ok P w K mg base 5 "set_shots" (spCR C [[2], ps] ps) := by
  refine D.ok (D.fn.ok scSetShots (fun vs H Q E h => ?_) (fun cdv A outer s H vs Q E hr h => ?_))
  · obtain ⟨iv, pa, s, ok, rfl, _⟩ := h
    rfl
  · obtain ⟨iv, pa, s, ok, rfl, hS, hP, hpa, hnew, few, hn, q⟩ := h
    refine ⟨_, (pss_cons (ps_if (PW.pt (pw_or (pt_cmpR op_gt (pe_callB call_len_seq (by rfl) T.len PySem.boot_len (pa_cons (pv 1) pa_nil)) (pe_num T.mostShots (by rfl)) (nomark _)) (pw_or1 (pt_not (pt_val (pe_ok G_all_in_weight_range (hr.mono (by decide)) (by rfl) (pa_cons (pv 1) pa_nil))))))) (pss_one (ps_ret (pe_tup (pa_cons (pv 0) (pa_cons (pe_lst (pa_cons (pe_num T.outR (by rfl)) pa_nil)) pa_nil))))) pss_nil)
      (pss_one (ps_ret (pe_tup (pa_cons (pe_ok G_with_weights (hr.mono (by decide)) (by rfl) (pa_cons (pv 0) (pa_cons (pv 1) pa_nil))) (pa_cons (pe_lst (pa_cons (pe_callB call_len_seq (by rfl) T.len PySem.boot_len (pa_cons (pv 1) pa_nil)) pa_nil)) pa_nil)))))), ?_⟩
    obtain ⟨c, rfl⟩ : ∃ c, s = some c := by
      cases s with
      | some c => exact ⟨c, rfl⟩
      | none =>
        obtain ⟨_, _, _, e⟩ := hn rfl
        simp at e
    obtain ⟨a, wl, rfl, hwl, I⟩ := hS
    have hS : StAt C H (.ref a) (some c) ok := ⟨a, wl, rfl, hwl, I⟩
    have hlen : c.weights.length ≤ 100 := Nat.le_trans (few c rfl) (by decide)
    obtain ⟨dx, eo⟩ := I.ob
    refine ⟨_, rfl, _, _, rfl, .inl (SqL.of hP), _, _, rfl, rfl, _, rfl, ?_⟩
    have el := List.length_map (as := ps) V.int
    by_cases h2 : (24 : Int) < ((ps.map V.int).length : Int)
    · rw [decide_eq_true h2]
      exact iteT (iteT ⟨_, rfl, (by show 1 ≤ sizeLine; decide), fun p1 n1 => ⟨(by show 2 ≤ sizeLine; decide), fun t nt => by
      rw [s2_bad (.inl (by omega))] at q
      exact done q (same_upd n1) nt tr (hS.same (same_upd n1)) (hnew p1 n1)⟩⟩)
    · rw [decide_eq_false h2]
      refine iteF ⟨_, rfl, pa, ps, rfl, hP, _, rfl, ?_⟩
      cases e1 : ps.all isWeight with
      | false => exact iteT ⟨_, rfl, (by show 1 ≤ sizeLine; decide), fun p1 n1 => ⟨(by show 2 ≤ sizeLine; decide), fun t nt => by
      rw [s2_bad (.inr e1)] at q
      exact done q (same_upd n1) nt tr (hS.same (same_upd n1)) (hnew p1 n1)⟩⟩
      | true =>
        rw [s2_ok (by omega) e1] at q
        refine iteF ⟨_, rfl, _, rfl, a, c, wl, pa, ps, rfl, I, hP, fun H1 p s1 J => ?_⟩
        refine ⟨_, rfl, _, _, rfl, .inl (SqL.of (s1 _ _ hP)), (by show 1 ≤ sizeLine; decide), fun p1 n1 => ⟨(by show 2 ≤ sizeLine; decide), fun t nt => ?_⟩⟩
        refine done q (sm s1 (same_upd n1)) nt ?_ ⟨p, pa, rfl, hpa, J.same (same_upd n1)⟩ (hnew p1 (none_of s1 n1))
        rw [upd_same, el]
        rfl
abbrev sClearShots : Stmt := top 61
theorem scClearShots : FnScope ["instance", "parameters"] ["instance", "parameters"] (defScope sClearShots) := ⟨rfl, rfl, rfl, by decide +kernel, rfl, by decide +kernel, by decide +kernel⟩
theorem ok_clear_shots {f : Addr} {fd : FuncData} (T : Txt K mg C) (D : Df K mg "clear_shots" sClearShots ["instance", "parameters"] f fd) (G_with_weights : Ok P w K mg base 3 "with_weights" (spWW C)) : Ok P w K mg base 5 "clear_shots" (spCR C [[3]] []) := by
  refine D.ok (D.fn.ok scClearShots (fun vs H Q E h => ?_) (fun cdv A outer s H vs Q E hr h => ?_))
  · obtain ⟨iv, pa, s, ok, rfl, _⟩ := h
    rfl
  · obtain ⟨iv, pa, s, ok, rfl, hS, hP, hpa, hnew, few, hn, q⟩ := h
    refine ⟨_, (pss_one (ps_ret (pe_tup (pa_cons (pe_ok G_with_weights (hr.mono (by decide)) (by rfl) (pa_cons (pv 0) (pa_cons (pe_lst pa_nil) pa_nil))) (pa_cons (pe_lst (pa_cons (pe_callB call_len_seq (by rfl) T.len PySem.boot_len (pa_cons (pe_fld (pv 0) rfl) pa_nil)) pa_nil)) pa_nil))))), ?_⟩
    obtain ⟨c, rfl⟩ : ∃ c, s = some c := by
      cases s with
      | some c => exact ⟨c, rfl⟩
      | none =>
        obtain ⟨_, _, _, e⟩ := hn rfl
        simp at e
    obtain ⟨a, wl, rfl, hwl, I⟩ := hS
    have hS : StAt C H (.ref a) (some c) ok := ⟨a, wl, rfl, hwl, I⟩
    have hlen : c.weights.length ≤ 100 := Nat.le_trans (few c rfl) (by decide)
    obtain ⟨dx, eo⟩ := I.ob
    rw [s3_ok] at q
    refine ⟨_, rfl, Nat.zero_le _, fun p0 n0 => ?_⟩
    have s0 := same_upd (o := .lst []) n0
    refine ⟨a, c, wl, p0, [], rfl, I.same s0, tr, fun H1 p s1 J => ?_⟩
    have eo1 := s1 _ _ (s0 _ _ eo)
    refine ⟨_, rfl, _, C, _, _, _, rfl, eo1, T.cl, T.nW, iF_w, _, _, rfl, .inl (SqL.of (s1 _ _ (s0 _ _ I.ws))), (by show 1 ≤ sizeLine; decide), fun p1 n1 => ⟨(by show 2 ≤ sizeLine; decide), fun t nt => ?_⟩⟩
    refine done q (sm (sm s0 s1) (same_upd n1)) nt ?_ ⟨p, p0, rfl, hnew p0 n0, J.same (same_upd n1)⟩ (hnew p1 (none_of (sm s0 s1) n1))
    rw [upd_same, List.length_map]
    rfl
end
end Cu
end

section
set_option maxRecDepth 100000
set_option maxHeartbeats 4000000
namespace Cu
open PySem PySem.Spec PyProof.Rows L2
open Sr121 (Chart upperSums lowerSums isWeight isLimit isShot withShot)
section
variable {P : Program} {w : World} {K : PySem.W.Frag} {mg : Str → Option Value} {base : Heap} {C : Addr}
abbrev sSetWeight : Stmt := top 62
theorem scSetWeight : FnScope ["instance", "parameters", "shot", "weight", "weights"] ["instance", "parameters"] (defScope sSetWeight) := ⟨rfl, rfl, rfl, by decide +kernel, rfl, by decide +kernel, by decide +kernel⟩
theorem ok_set_weight {f : Addr} {fd : FuncData} (T : Txt K mg C) (D : Df K mg "set_weight" sSetWeight ["instance", "parameters"] f fd) (G_with_weights : Ok P w K mg base 3 "with_weights" (spWW C)) (G_in_weight_range : Ok P w K mg base 1 "in_weight_range" spInW) (G_has_shot : Ok P w K mg base 1 "has_shot" (spHas C)) {n b : Int} : Ok P w K mg base 5 "set_weight" (spCR C [[4, n, b]] [n, b]) := by
  refine D.ok (D.fn.ok scSetWeight (fun vs H Q E h => ?_) (fun cdv A outer s H vs Q E hr h => ?_))
  · obtain ⟨iv, pa, s, ok, rfl, _⟩ := h
    rfl
  · obtain ⟨iv, pa, s, ok, rfl, hS, hP, hpa, hnew, few, hn, q⟩ := h
    refine ⟨_, (pss_cons (ps_asg (pv 1) (pg_unl rfl (pgs_cons (pg_name (i := 2) scSetWeight.nd rfl (Or.inl rfl)) (pgs_cons (pg_name (i := 3) scSetWeight.nd rfl (Or.inl rfl)) pgs_nil))))
      (pss_cons (ps_if (pt_not (pt_val (pe_ok G_has_shot (hr.mono (by decide)) (by rfl) (pa_cons (pv 0) (pa_cons (pv 2) pa_nil))))) (pss_one (ps_ret (pe_tup (pa_cons (pv 0) (pa_cons (pe_lst (pa_cons (pe_num T.noShot (by rfl)) pa_nil)) pa_nil))))) pss_nil)
      (pss_cons (ps_if (pt_not (pt_val (pe_ok G_in_weight_range (hr.mono (by decide)) (by rfl) (pa_cons (pv 3) pa_nil)))) (pss_one (ps_ret (pe_tup (pa_cons (pv 0) (pa_cons (pe_lst (pa_cons (pe_num T.outR (by rfl)) pa_nil)) pa_nil))))) pss_nil)
      (pss_cons (ps_set (i := 4) scSetWeight.nd rfl (Or.inl rfl) (pe_callTy call_list_of (by rfl) T.list (by decide +kernel) (pa_cons (pe_fld (pv 0) rfl) pa_nil)))
      (pss_cons (ps_asg (pv 3) (pg_sub (pv 4) (pv 2) set_list))
      (pss_one (ps_ret (pe_tup (pa_cons (pe_ok G_with_weights (hr.mono (by decide)) (by rfl) (pa_cons (pv 0) (pa_cons (pv 4) pa_nil))) (pa_cons (pe_lst (pa_cons pe_int (pa_cons (pe_ix ix_list (pe_fld (pv 0) rfl) (pv 2) (fun _ _ => rfl)) pa_nil))) pa_nil)))))))))), ?_⟩
    obtain ⟨c, rfl⟩ : ∃ c, s = some c := by
      cases s with
      | some c => exact ⟨c, rfl⟩
      | none =>
        obtain ⟨_, _, _, e⟩ := hn rfl
        simp at e
    obtain ⟨a, wl, rfl, hwl, I⟩ := hS
    have hS : StAt C H (.ref a) (some c) ok := ⟨a, wl, rfl, hwl, I⟩
    have hlen : c.weights.length ≤ 100 := Nat.le_trans (few c rfl) (by decide)
    obtain ⟨dx, eo⟩ := I.ob
    refine ⟨_, rfl, pa, _, rfl, SqL.of hP, rfl, _, _, rfl, _, _, rfl, rfl, ?_⟩
    refine ⟨_, rfl, _, rfl, a, n, c, wl, rfl, I, _, rfl, ?_⟩
    cases e1 : isShot c n with
    | false => exact iteT ⟨_, rfl, (by show 1 ≤ sizeLine; decide), fun p1 n1 => ⟨(by show 2 ≤ sizeLine; decide), fun t nt => by
      rw [s4_no e1] at q
      exact done q (same_upd n1) nt tr (hS.same (same_upd n1)) (hnew p1 n1)⟩⟩
    | true =>
      refine iteF ⟨_, rfl, b, rfl, _, rfl, ?_⟩
      cases e2 : isWeight b with
      | false => exact iteT ⟨_, rfl, (by show 1 ≤ sizeLine; decide), fun p1 n1 => ⟨(by show 2 ≤ sizeLine; decide), fun t nt => by
      rw [s4_bad e1 e2] at q
      exact done q (same_upd n1) nt tr (hS.same (same_upd n1)) (hnew p1 n1)⟩⟩
      | true =>
        rw [s4_ok e1 e2] at q
        obtain ⟨i, rfl, hi⟩ := shot_nat e1
        refine iteF ⟨_, rfl, _, C, _, _, _, rfl, eo, T.cl, T.nW, iF_w, wl, _, rfl, .inl (SqL.of I.ws), fun l nl => ?_⟩
        have hw : c.weights[i]? = some c.weights[i] := List.getElem?_eq_getElem hi
        refine ⟨_, rfl, _, rfl, _, rfl, l, _, _, i, rfl, rfl, upd_same, ixN_of (by rw [List.length_map]; exact hi), ?_⟩
        have s1 : Same H (upd (upd H l (.lst (c.weights.map V.int))) l (.lst ((c.weights.map V.int).set i (.int b)))) := same_at (same_upd nl) nl
        refine ⟨_, rfl, _, rfl, a, c, wl, l, c.weights.set i b, rfl, I.same s1, ?_, fun H1 p s2 J => ?_⟩
        · rw [upd_same, at_set]
        have s3 := sm s1 s2
        have eo1 := s3 _ _ eo
        refine ⟨_, rfl, _, C, _, _, _, rfl, eo1, T.cl, T.nW, iF_w, _, rfl, wl, _, _, .int c.weights[i], rfl, rfl, SqL.of (s3 _ _ I.ws), atI_nat (at_map hw), (by show 2 ≤ sizeLine; decide), fun p1 n1 => ⟨(by show 2 ≤ sizeLine; decide), fun t nt => ?_⟩⟩
        have eg : c.weights.getD (i : Int).toNat 0 = c.weights[i] := getD_of hw
        rw [eg] at q
        exact done q (sm s3 (same_upd n1)) nt tr ⟨p, l, rfl, hnew l nl, J.same (same_upd n1)⟩ (hnew p1 (none_of s3 n1))
abbrev sSetTarget : Stmt := top 63
theorem scSetTarget : FnScope ["instance", "parameters", "target"] ["instance", "parameters"] (defScope sSetTarget) := ⟨rfl, rfl, rfl, by decide +kernel, rfl, by decide +kernel, by decide +kernel⟩
theorem ok_set_target {f : Addr} {fd : FuncData} (T : Txt K mg C) (D : Df K mg "set_target" sSetTarget ["instance", "parameters"] f fd) (G_with_target : Ok P w K mg base 3 "with_target" (spWT C)) (G_in_weight_range : Ok P w K mg base 1 "in_weight_range" spInW) {n : Int} : Ok P w K mg base 5 "set_target" (spCR C [[5, n]] [n]) := by
  refine D.ok (D.fn.ok scSetTarget (fun vs H Q E h => ?_) (fun cdv A outer s H vs Q E hr h => ?_))
  · obtain ⟨iv, pa, s, ok, rfl, _⟩ := h
    rfl
  · obtain ⟨iv, pa, s, ok, rfl, hS, hP, hpa, hnew, few, hn, q⟩ := h
    refine ⟨_, (pss_cons (ps_set (i := 2) scSetTarget.nd rfl (Or.inl rfl) (pe_ix ix_list (pv 1) pe_int (fun _ _ => rfl)))
      (pss_cons (ps_if (pt_not (pt_val (pe_ok G_in_weight_range (hr.mono (by decide)) (by rfl) (pa_cons (pv 2) pa_nil)))) (pss_one (ps_ret (pe_tup (pa_cons (pv 0) (pa_cons (pe_lst (pa_cons (pe_num T.outR (by rfl)) pa_nil)) pa_nil))))) pss_nil)
      (pss_one (ps_ret (pe_tup (pa_cons (pe_ok G_with_target (hr.mono (by decide)) (by rfl) (pa_cons (pv 0) (pa_cons (pv 2) pa_nil))) (pa_cons (pe_lst (pa_cons pe_int (pa_cons (pe_fld (pv 0) rfl) pa_nil))) pa_nil))))))), ?_⟩
    obtain ⟨c, rfl⟩ : ∃ c, s = some c := by
      cases s with
      | some c => exact ⟨c, rfl⟩
      | none =>
        obtain ⟨_, _, _, e⟩ := hn rfl
        simp at e
    obtain ⟨a, wl, rfl, hwl, I⟩ := hS
    have hS : StAt C H (.ref a) (some c) ok := ⟨a, wl, rfl, hwl, I⟩
    have hlen : c.weights.length ≤ 100 := Nat.le_trans (few c rfl) (by decide)
    obtain ⟨dx, eo⟩ := I.ob
    refine ⟨_, rfl, pa, _, 0, _, rfl, rfl, SqL.of hP, rfl, ?_⟩
    refine ⟨_, rfl, n, rfl, _, rfl, ?_⟩
    cases e1 : isWeight n with
    | false => exact iteT ⟨_, rfl, (by show 1 ≤ sizeLine; decide), fun p1 n1 => ⟨(by show 2 ≤ sizeLine; decide), fun t nt => by
      rw [s5_bad e1] at q
      exact done q (same_upd n1) nt tr (hS.same (same_upd n1)) (hnew p1 n1)⟩⟩
    | true =>
      rw [s5_ok e1] at q
      refine iteF ⟨_, rfl, _, rfl, a, n, c, wl, rfl, I, fun H1 p s1 J => ?_⟩
      have eo1 := s1 _ _ eo
      refine ⟨_, rfl, _, C, _, _, _, rfl, eo1, T.cl, T.nT, iF_t, (by show 2 ≤ sizeLine; decide), fun p1 n1 => ⟨(by show 2 ≤ sizeLine; decide), fun t nt => ?_⟩⟩
      exact done q (sm s1 (same_upd n1)) nt tr ⟨p, wl, rfl, hwl, J.same (same_upd n1)⟩ (hnew p1 (none_of s1 n1))
abbrev sSetLimits : Stmt := top 64
theorem scSetLimits : FnScope ["instance", "parameters", "allowance", "threshold"] ["instance", "parameters"] (defScope sSetLimits) := ⟨rfl, rfl, rfl, by decide +kernel, rfl, by decide +kernel, by decide +kernel⟩
theorem ok_set_limits {f : Addr} {fd : FuncData} (T : Txt K mg C) (D : Df K mg "set_limits" sSetLimits ["instance", "parameters"] f fd) (G_with_limits : Ok P w K mg base 3 "with_limits" (spWL C)) (G_in_limit_range : Ok P w K mg base 1 "in_limit_range" spInL) {n b : Int} : Ok P w K mg base 5 "set_limits" (spCR C [[6, n, b]] [n, b]) := by
  refine D.ok (D.fn.ok scSetLimits (fun vs H Q E h => ?_) (fun cdv A outer s H vs Q E hr h => ?_))
  · obtain ⟨iv, pa, s, ok, rfl, _⟩ := h
    rfl
  · obtain ⟨iv, pa, s, ok, rfl, hS, hP, hpa, hnew, few, hn, q⟩ := h
    refine ⟨_, (pss_cons (ps_asg (pv 1) (pg_unl rfl (pgs_cons (pg_name (i := 2) scSetLimits.nd rfl (Or.inl rfl)) (pgs_cons (pg_name (i := 3) scSetLimits.nd rfl (Or.inl rfl)) pgs_nil))))
      (pss_cons (ps_if (pt_not (PW.pt (pw_and (pt_val (pe_ok G_in_limit_range (hr.mono (by decide)) (by rfl) (pa_cons (pv 2) pa_nil))) (pw_and1 (pt_val (pe_ok G_in_limit_range (hr.mono (by decide)) (by rfl) (pa_cons (pv 3) pa_nil))))))) (pss_one (ps_ret (pe_tup (pa_cons (pv 0) (pa_cons (pe_lst (pa_cons (pe_num T.outR (by rfl)) pa_nil)) pa_nil))))) pss_nil)
      (pss_one (ps_ret (pe_tup (pa_cons (pe_ok G_with_limits (hr.mono (by decide)) (by rfl) (pa_cons (pv 0) (pa_cons (pv 2) (pa_cons (pv 3) pa_nil)))) (pa_cons (pe_lst (pa_cons pe_int (pa_cons (pe_fld (pv 0) rfl) (pa_cons (pe_fld (pv 0) rfl) pa_nil)))) pa_nil))))))), ?_⟩
    obtain ⟨c, rfl⟩ : ∃ c, s = some c := by
      cases s with
      | some c => exact ⟨c, rfl⟩
      | none =>
        obtain ⟨_, _, _, e⟩ := hn rfl
        simp at e
    obtain ⟨a, wl, rfl, hwl, I⟩ := hS
    have hS : StAt C H (.ref a) (some c) ok := ⟨a, wl, rfl, hwl, I⟩
    have hlen : c.weights.length ≤ 100 := Nat.le_trans (few c rfl) (by decide)
    obtain ⟨dx, eo⟩ := I.ob
    refine ⟨_, rfl, pa, _, rfl, SqL.of hP, rfl, _, _, rfl, _, _, rfl, rfl, ?_⟩
    refine ⟨_, rfl, n, rfl, _, rfl, ?_⟩
    cases e1 : isLimit n with
    | false => exact iteF (iteT ⟨_, rfl, (by show 1 ≤ sizeLine; decide), fun p1 n1 => ⟨(by show 2 ≤ sizeLine; decide), fun t nt => by
      rw [s6_bad (by rw [e1]; rfl)] at q
      exact done q (same_upd n1) nt tr (hS.same (same_upd n1)) (hnew p1 n1)⟩⟩)
    | true =>
      refine iteT ⟨_, rfl, b, rfl, _, rfl, ?_⟩
      cases e2 : isLimit b with
      | false => exact iteT ⟨_, rfl, (by show 1 ≤ sizeLine; decide), fun p1 n1 => ⟨(by show 2 ≤ sizeLine; decide), fun t nt => by
      rw [s6_bad (by rw [e1, e2]; rfl)] at q
      exact done q (same_upd n1) nt tr (hS.same (same_upd n1)) (hnew p1 n1)⟩⟩
      | true =>
        obtain ⟨x, rfl⟩ := limit_nat e1
        obtain ⟨y, rfl⟩ := limit_nat e2
        rw [s6_ok (by rw [e1, e2]; rfl)] at q
        refine iteF ⟨_, rfl, _, rfl, _, rfl, a, x, y, c, wl, rfl, I, fun H1 p s1 J => ?_⟩
        have eo1 := s1 _ _ eo
        refine ⟨_, rfl, _, C, _, _, _, rfl, eo1, T.cl, T.nA, iF_a, _, rfl, _, C, _, _, _, rfl, eo1, T.cl, T.nH, iF_h, (by show 3 ≤ sizeLine; decide), fun p1 n1 => ⟨(by show 2 ≤ sizeLine; decide), fun t nt => ?_⟩⟩
        exact done q (sm s1 (same_upd n1)) nt tr ⟨p, wl, rfl, hwl, J.same (same_upd n1)⟩ (hnew p1 (none_of s1 n1))
end
end Cu
end

section
set_option maxRecDepth 100000
set_option maxHeartbeats 4000000
namespace Cu
open PySem PySem.Spec PyProof.Rows L2
open Sr121 (Chart upperSums lowerSums isWeight isLimit isShot withShot)
section
variable {P : Program} {w : World} {K : PySem.W.Frag} {mg : Str → Option Value} {base : Heap} {C : Addr}

def spAQ (C : Addr) : Sp := fun vs H Q _ => ∃ (a : Addr) (n : Int) (pa : Addr) (c : Chart) (wl : Addr) (raw : List (List Int)) (ps : List Int), vs = [.ref a, .int n, .ref pa] ∧ InstAt C H a c wl ∧ H pa = some (.lst (ps.map V.int)) ∧ Cal raw n ps ∧ 7 ≤ n ∧ c.weights.length ≤ 24 ∧
  ∀ H' p, Same H H' → H p = none → H' p = some (.lst ((stp (some c) raw).2.map V.int)) → Q (.ref p) H'
def spCO (C : Addr) : Sp := fun vs H Q _ => ∃ (iv : V) (n : Int) (pa : Addr) (s : St) (raw : List (List Int)) (ps : List Int) (ok : Addr → Prop), vs = [iv, .int n, .ref pa] ∧ StAt C H iv s ok ∧ H pa = some (.lst (ps.map V.int)) ∧ Cal raw n ps ∧ ok pa ∧ (∀ p, H p = none → ok p) ∧ Few s ∧
  ∀ H' t iv' al, Same H H' → H' t = some (.tup [iv', .ref al]) → H' al = some (.lst ((stp s raw).2.map V.int)) → StAt C H' iv' (stp s raw).1 ok → ok al → Q (.ref t) H'
theorem cal_zero {raw : List (List Int)} {n : Int} {ps : List Int} (h : Cal raw n ps) (hn : n = 0) : ∃ a b d, raw = [[0, a, b, d]] := by
  cases h with
  | c0 a b d => exact ⟨a, b, d, rfl⟩
  | _ => exact absurd hn (by decide)
theorem cal_keep {raw : List (List Int)} {n : Int} {ps : List Int} (h : Cal raw n ps) (hn : 7 ≤ n) (c : Chart) : (stp (some c) raw).1 = some c := by
  cases h <;> first | rfl | exact absurd hn (by decide)
/-- each number that a table has: a def that keeps the promise of its call -/
def Has (P : Program) (w : World) (K : PySem.W.Frag) (mg : Str → Option Value) (base : Heap) (tab : List (Int × Addr)) (sp : List (List Int) → List Int → Sp) (p : Int → Prop) : Prop :=
  ∀ raw n ps, Cal raw n ps → p n → ∃ (f : Addr) (fd : FuncData) (pn : List Str), tab.lookup n = some f ∧ PySem.W.keepIn K (.ref f) = true ∧ Binds K fd pn [] ∧ FnOk P w K mg base CX0 5 f fd pn (sp raw ps)
abbrev sAnswerQuery : Stmt := top 55
theorem scAnswerQuery : FnScope ["instance", "number", "parameters", "query"] ["instance", "number", "parameters"] (defScope sAnswerQuery) := ⟨rfl, rfl, rfl, by decide +kernel, rfl, by decide +kernel, by decide +kernel⟩
theorem ok_answer_query {f : Addr} {fd : FuncData} (T : Txt K mg C) (D : Df K mg "answer_query" sAnswerQuery ["instance", "number", "parameters"] f fd) {tq : Addr} {tabQ : List (Int × Addr)} (gQ : mg "QUERIES" = some (.ref tq)) (TQ : Tab K tq tabQ) (HQ : Has P w K mg base tabQ (spQR C) (fun n => 7 ≤ n)) : Ok P w K mg base 6 "answer_query" (spAQ C) := by
  refine D.ok (D.fn.ok scAnswerQuery (fun vs H Q E h => ?_) (fun cdv A outer s H vs Q E hr h => ?_))
  · obtain ⟨a, n, pa, c, wl, raw, ps, rfl, _⟩ := h
    rfl
  · obtain ⟨a, n, pa, c, wl, raw, ps, rfl, I, hP, hc, h7, few, q⟩ := h
    obtain ⟨f', fd', pn, lk, kp, bd, F⟩ := HQ raw n ps hc h7
    refine ⟨_, (pss_cons (ps_set (i := 3) scAnswerQuery.nd rfl (Or.inl rfl) (pe_ix (ix_tab TQ) (pe_glob (v := .ref tq) (by rfl) gQ rfl) (pv 1) (fun _ _ => rfl)))
      (pss_one (ps_ret (pe_callL (i := 3) F (hr.mono (by decide)) rfl (Or.inl rfl) kp bd .nil pass0 (pa_cons (pv 0) (pa_cons (pv 2) pa_nil)))))), ?_⟩
    exact ⟨_, rfl, n, f', rfl, rfl, lk, rfl, _, rfl, _, rfl, a, pa, c, wl, rfl, I, hP, few, q⟩
abbrev sCarryOut : Stmt := top 66
theorem scCarryOut : FnScope ["instance", "number", "parameters", "change"] ["instance", "number", "parameters"] (defScope sCarryOut) := ⟨rfl, rfl, rfl, by decide +kernel, rfl, by decide +kernel, by decide +kernel⟩
theorem ok_carry_out {f : Addr} {fd : FuncData} (T : Txt K mg C) (D : Df K mg "carry_out" sCarryOut ["instance", "number", "parameters"] f fd) (G_answer_query : Ok P w K mg base 6 "answer_query" (spAQ C)) {tc : Addr} {tabC : List (Int × Addr)} (gH : mg "CHANGES" = some (.ref tc)) (TD : Tab K tc tabC) (HC : Has P w K mg base tabC (spCR C) (fun n => n < 7)) (HN : ∀ n, 7 ≤ n → tabC.lookup n = none) : Ok P w K mg base 7 "carry_out" (spCO C) := by
  refine D.ok (D.fn.ok scCarryOut (fun vs H Q E h => ?_) (fun cdv A outer s H vs Q E hr h => ?_))
  · obtain ⟨iv, n, pa, s, raw, ps, ok, rfl, _⟩ := h
    rfl
  · obtain ⟨iv, n, pa, s, raw, ps, ok, rfl, hS, hP, hc, hpa, hnew, few, q⟩ := h
    obtain ⟨f', fd', pn, sp', kp, bd, F, hF⟩ : ∃ (f' : Addr) (fd' : FuncData) (pn : List Str) (sp' : Sp), PySem.W.keepIn K (.ref f') = true ∧ Binds K fd' pn [] ∧ FnOk P w K mg base CX0 5 f' fd' pn sp' ∧ (n < 7 → tabC.lookup n = some f' ∧ sp' = spCR C raw ps) := by
      by_cases h7 : n < 7
      · obtain ⟨f', fd', pn, lk, kp, bd, F⟩ := HC raw n ps hc h7
        exact ⟨f', fd', pn, _, kp, bd, F, fun _ => ⟨lk, rfl⟩⟩
      · obtain ⟨f', fd', pn, lk, kp, bd, F⟩ := HC _ _ _ (Cal.c0 0 0 0) (by decide)
        exact ⟨f', fd', pn, _, kp, bd, F, fun h => absurd h h7⟩
    refine ⟨_, (pss_cons (ps_if (PW.pt (pw_and (pt_cmpR op_isN (pv 0) pe_non (nomark _)) (pw_and1 (pt_cmpR op_ne (pv 1) (pe_num T.create (by rfl)) (nomark _))))) (pss_one (ps_ret (pe_tup (pa_cons (pv 0) (pa_cons (pe_lst (pa_cons (pe_num T.noInst (by rfl)) pa_nil)) pa_nil))))) pss_nil)
      (pss_cons (ps_if (pt_cmpR (op_inT TD) (pv 1) (pe_glob (v := .ref tc) (by rfl) gH rfl) (by rfl)) (pss_cons (ps_set (i := 3) scCarryOut.nd rfl (Or.inl rfl) (pe_ix (ix_tab TD) (pe_glob (v := .ref tc) (by rfl) gH rfl) (pv 1) (fun _ _ => rfl)))
      (pss_one (ps_ret (pe_callL (i := 3) F (hr.mono (by decide)) rfl (Or.inl rfl) kp bd .nil pass0 (pa_cons (pv 0) (pa_cons (pv 2) pa_nil)))))) pss_nil)
      (pss_one (ps_ret (pe_tup (pa_cons (pv 0) (pa_cons (pe_ok G_answer_query (hr.mono (by decide)) (by rfl) (pa_cons (pv 0) (pa_cons (pv 1) (pa_cons (pv 2) pa_nil)))) pa_nil))))))), ?_⟩
    have hnn : s = none → iv = V.non := fun e => by
      subst e
      exact hS
    refine ⟨_, rfl, rfl, _, rfl, ?_⟩
    by_cases h1 : iv = V.non
    · rw [decide_eq_true h1]
      refine iteT ⟨_, rfl, rfl, _, rfl, ?_⟩
      by_cases hn : n = 0
      · rw [decide_eq_true (show V.int n = V.int 0 by rw [hn])]
        refine iteF ?_
        have key : s = none → n = 0 := fun _ => hn
        refine ⟨_, rfl, n, rfl, rfl, _, rfl, ?_⟩
        by_cases h7 : n < 7
        · obtain ⟨lk, rfl⟩ := hF h7
          rw [lk]
          exact iteT ⟨_, rfl, n, f', rfl, rfl, lk, rfl, _, rfl, _, rfl, iv, pa, s, ok, rfl, hS, hP, hpa, hnew, few, fun e => cal_zero hc (key e), q⟩
        · rw [HN n (by omega)]
          cases s with
          | none => exact absurd (key rfl) (by omega)
          | some c =>
            obtain ⟨a, wl, rfl, hwl, I⟩ := hS
            rw [cal_keep hc (by omega) c] at q
            refine iteF ⟨_, rfl, _, rfl, _, rfl, _, rfl, a, n, pa, c, wl, raw, ps, rfl, I, hP, hc, by omega, few c rfl, fun H1 p s1 n1 h1 => ⟨(by show 2 ≤ sizeLine; decide), fun t nt => ?_⟩⟩
            exact done q s1 nt h1 ⟨a, wl, rfl, hwl, I.same s1⟩ (hnew p n1)
      · rw [decide_eq_false (show ¬ V.int n = V.int 0 from fun z => hn (V.int.inj z))]
        cases s with
        | some c =>
          obtain ⟨a, wl, e, _⟩ := hS
          rw [e] at h1
          cases h1
        | none =>
          rw [s_none hc hn] at q
          exact iteT ⟨_, rfl, (by show 1 ≤ sizeLine; decide), fun p1 n1 => ⟨(by show 2 ≤ sizeLine; decide), fun t nt => done q (same_upd n1) nt tr (hS.same (same_upd n1)) (hnew p1 n1)⟩⟩
    · rw [decide_eq_false h1]
      refine iteF ?_
      have key : s = none → n = 0 := fun e => absurd (hnn e) h1
      refine ⟨_, rfl, n, rfl, rfl, _, rfl, ?_⟩
      by_cases h7 : n < 7
      · obtain ⟨lk, rfl⟩ := hF h7
        rw [lk]
        exact iteT ⟨_, rfl, n, f', rfl, rfl, lk, rfl, _, rfl, _, rfl, iv, pa, s, ok, rfl, hS, hP, hpa, hnew, few, fun e => cal_zero hc (key e), q⟩
      · rw [HN n (by omega)]
        cases s with
        | none => exact absurd (key rfl) (by omega)
        | some c =>
          obtain ⟨a, wl, rfl, hwl, I⟩ := hS
          rw [cal_keep hc (by omega) c] at q
          refine iteF ⟨_, rfl, _, rfl, _, rfl, _, rfl, a, n, pa, c, wl, raw, ps, rfl, I, hP, hc, by omega, few c rfl, fun H1 p s1 n1 h1 => ⟨(by show 2 ≤ sizeLine; decide), fun t nt => ?_⟩⟩
          exact done q s1 nt h1 ⟨a, wl, rfl, hwl, I.same s1⟩ (hnew p n1)
end
end Cu
end

section
set_option maxRecDepth 100000
set_option maxHeartbeats 4000000
namespace Cu
open PySem PySem.Spec PyProof.Rows L2
open Sr121 (Chart upperSums lowerSums isWeight isLimit isShot withShot)
section
variable {P : Program} {w : World} {K : PySem.W.Frag} {mg : Str → Option Value} {base : Heap} {C : Addr}

/-- the i-th item: a pair of a call's number and the list of its parameters, which is new -/
def One (new : Addr → Prop) (H : Hp) (raw : List (List Int)) (v : V) : Prop := ∃ (n : Int) (ps : List Int) (t pl : Addr), v = .ref t ∧ H t = some (.tup [.int n, .ref pl]) ∧ H pl = some (.lst (ps.map V.int)) ∧ new pl ∧ Cal raw n ps
def Items (new : Addr → Prop) (H : Hp) (raws : List (List (List Int))) (vs : List V) : Prop := raws.length = vs.length ∧ ∀ (i : Nat) (raw : List (List Int)) (v : V), raws[i]? = some raw → vs[i]? = some v → One new H raw v
theorem Items.same {new : Addr → Prop} {H H' : Hp} {raws : List (List (List Int))} {vs : List V} (h : Items new H raws vs) (s : ∀ raw v, One new H raw v → One new H' raw v) : Items new H' raws vs :=
  ⟨h.1, fun i raw v h1 h2 => s raw v (h.2 i raw v h1 h2)⟩
theorem Items.mono {new new' : Addr → Prop} {H : Hp} {raws : List (List (List Int))} {vs : List V} (h : Items new H raws vs) (m : ∀ q, new q → new' q) : Items new' H raws vs :=
  ⟨h.1, fun i raw v e1 e2 => let ⟨n, ps, t, pl, e, h1, h2, h3, h4⟩ := h.2 i raw v e1 e2; ⟨n, ps, t, pl, e, h1, h2, m pl h3, h4⟩⟩
theorem Items.add {new : Addr → Prop} {H : Hp} {raws : List (List (List Int))} {vs : List V} {raw : List (List Int)} {v : V} (h : Items new H raws vs) (o : One new H raw v) : Items new H (raws ++ [raw]) (vs ++ [v]) := by
  refine ⟨by rw [List.length_append, List.length_append, h.1]; rfl, fun i r x h1 h2 => ?_⟩
  by_cases hi : i < raws.length
  · rw [List.getElem?_append_left hi] at h1
    rw [List.getElem?_append_left (by rw [← h.1]; exact hi)] at h2
    exact h.2 i r x h1 h2
  · rw [List.getElem?_append_right (by omega)] at h1
    rw [List.getElem?_append_right (by rw [← h.1]; omega), ← h.1] at h2
    cases hk : i - raws.length with
    | zero =>
      rw [hk] at h1 h2
      obtain rfl := Option.some.inj h1
      obtain rfl := Option.some.inj h2
      exact o
    | succ k =>
      rw [hk] at h1
      simp at h1
/-- split_calls: the calls of a list that can be taken apart -/
def spSplit (K : PySem.W.Frag) : Sp := fun vs H Q _ => ∃ (a : Addr) (ns : List Int) (f0 : Nat) (raws : List (List (List Int))), vs = [.ref a] ∧ SqL K H a (ns.map V.int) ∧ ns.length ≤ 4320 ∧ PyFlat.calls PySr121.shape f0 ns = some raws ∧
  ∀ H' p items, Same H H' → H' p = some (.lst items) → H p = none → items.length ≤ 4320 → Items (fun q => H q = none) H' raws items → Q (.ref p) H'
def SpInv (a o : Addr) (H : Hp) (ns : List Int) (raws : List (List (List Int))) (m : Nat) (σ : L2.St) (H' : Hp) : Prop :=
  ∃ (at' : Nat) (v3 v4 v5 : Option V) (dn rem : List (List (List Int))) (f : Nat) (items : List V), σ = [some (.ref a), some (.ref o), some (.int (at' : Int)), v3, v4, v5] ∧ Same H H' ∧ H' o = some (.lst items) ∧ Items (fun q => H q = none ∧ q ≠ o) H' dn items ∧
    at' ≤ ns.length ∧ ns.length - at' = m ∧ PyFlat.calls PySr121.shape f (ns.drop at') = some rem ∧ dn ++ rem = raws ∧ dn.length ≤ at'
theorem one_same {new : Addr → Prop} {H H' : Hp} (s : Same H H') : ∀ raw v, One new H raw v → One new H' raw v := fun raw v ⟨n, ps, t, pl, e, h1, h2, h3, h4⟩ => ⟨n, ps, t, pl, e, s _ _ h1, s _ _ h2, h3, h4⟩
/-- a change at o, at which a list stands, leaves the items but for o's own -/
theorem one_but {new : Addr → Prop} {H H' : Hp} {o : Addr} {xs : List V} (ho : H o = some (.lst xs)) (hn : ∀ q, new q → q ≠ o) (s : ∀ b x, b ≠ o → H b = some x → H' b = some x) : ∀ raw v, One new H raw v → One new H' raw v := fun raw v ⟨n, ps, t, pl, e, h1, h2, h3, h4⟩ => by
  have nt : t ≠ o := fun z => by
    rw [z, ho] at h1
    cases h1
  exact ⟨n, ps, t, pl, e, s _ _ nt h1, s _ _ (hn pl h3) h2, h3, h4⟩
theorem drop_at {ns q : List Int} {i : Nat} {x : Int} (h : ns.drop i = x :: q) : ns[i]? = some x := by
  have e : (ns.drop i)[0]? = some x := by rw [h]; rfl
  rw [List.getElem?_drop, Nat.add_zero] at e
  exact e
theorem drop_next {ns q : List Int} {i : Nat} {x : Int} (h : ns.drop i = x :: q) : ns.drop (i + 1) = q := by
  have e : (ns.drop i).drop 1 = q := by rw [h]; rfl
  rw [List.drop_drop] at e
  exact e
theorem drop_len {ns q : List Int} {i : Nat} (h : ns.drop i = q) (hi : i ≤ ns.length) : i + q.length = ns.length := by
  rw [← h, List.length_drop]
  omega
abbrev sSplitCalls : Stmt := top 3
theorem scSplitCalls : FnScope ["numbers", "calls", "at", "number", "start", "end"] ["numbers"] (defScope sSplitCalls) := ⟨rfl, rfl, rfl, by decide +kernel, rfl, by decide +kernel, by decide +kernel⟩
theorem ok_split_calls {f : Addr} {fd : FuncData} (T : Txt K mg C) (D : Df K mg "split_calls" sSplitCalls ["numbers"] f fd) {tp : Addr} (gP : mg "PARAMETER_COUNTS" = some (.ref tp)) (TP : ∀ H : Hp, SqT K H tp (counts.map V.int)) : Ok P w K mg base 1 "split_calls" (spSplit K) := by
  refine D.ok (D.fn.ok scSplitCalls (fun vs H Q E h => ?_) (fun cdv A outer s H vs Q E hr h => ?_))
  · obtain ⟨a, ns, f0, raws, rfl, _⟩ := h
    rfl
  · obtain ⟨a, ns, f0, raws, rfl, hA, hlen, hc, q⟩ := h
    refine ⟨_, (pss_cons (ps_set (i := 1) scSplitCalls.nd rfl (Or.inl rfl) (pe_lst pa_nil))
      (pss_cons (ps_set (i := 2) scSplitCalls.nd rfl (Or.inl rfl) pe_int)
      (pss_cons (ps_while PassesOwn.never (pt_cmpR op_lt (pv 2) (pe_callB call_len_seq (by rfl) T.len PySem.boot_len (pa_cons (pv 0) pa_nil)) (nomark _)) (pss_cons (ps_set (i := 3) scSplitCalls.nd rfl (Or.inl rfl) (pe_ix ix_list (pv 0) (pv 2) (fun _ _ => rfl)))
      (pss_cons (ps_if (pt_cmpR op_eq (pv 3) (pe_num T.setShots (by rfl)) (nomark _)) (pss_cons (ps_set (i := 4) scSplitCalls.nd rfl (Or.inl rfl) (pe_op op_add (pv 2) pe_int))
      (pss_one (ps_set (i := 5) scSplitCalls.nd rfl (Or.inl rfl) (pe_op op_add (pv 4) (pe_ix ix_list (pv 0) (pe_op op_add (pv 2) pe_int) (fun _ _ => rfl)))))) (pss_cons (ps_set (i := 4) scSplitCalls.nd rfl (Or.inl rfl) (pe_op op_add (pv 2) pe_int))
      (pss_one (ps_set (i := 5) scSplitCalls.nd rfl (Or.inl rfl) (pe_op op_add (pv 4) (pe_ix ix_tup (pe_glob (v := .ref tp) (by rfl) gP rfl) (pv 3) (fun _ _ => rfl)))))))
      (pss_cons (ps_expr (pe_bm PySem.F.plainAttrs_list PySem.F.slot_list_append PySem.F.type_list_append mt_append (pv 1) (pa_cons (pe_tup (pa_cons (pv 3) (pa_cons (pe_slice sl_list (pv 0) (po_some (pv 4)) (po_some (pv 5))) pa_nil))) pa_nil)))
      (pss_one (ps_set (i := 2) scSplitCalls.nd rfl (Or.inl rfl) (pv 5)))))))
      (pss_one (ps_ret (pv 1)))))), ?_⟩
    refine ⟨Nat.zero_le _, fun o no => ?_⟩
    refine ⟨SpInv a o H ns raws, ⟨ns.length, 0, none, none, none, [], raws, f0, [], rfl, same_upd no, tr, ⟨rfl, fun i raw v h => by simp at h⟩, Nat.zero_le _, by omega, hc, rfl, Nat.zero_le _⟩, ?_⟩
    rintro m σ H' ⟨at', v3, v4, v5, dn, rem, f, items, rfl, s, ho, hi, hle, rfl, hcalls, hraws, hdl⟩
    refine ⟨_, rfl, _, rfl, _, _, rfl, .inl (s.seq hA), _, _, rfl, rfl, _, rfl, ?_⟩
    by_cases h0 : (at' : Int) < ((ns.map V.int).length : Int)
    rotate_left
    · rw [decide_eq_false h0]
      rw [lenV] at h0
      rw [List.drop_eq_nil_of_le (by omega)] at hcalls
      rw [calls_nil hcalls, List.append_nil] at hraws
      refine iteF ⟨_, rfl, q H' o items s ho no (by rw [← hi.1]; omega) ?_⟩
      rw [← hraws]
      exact hi.mono fun q h => h.1
    rw [decide_eq_true h0]
    rw [lenV] at h0
    have hlt : at' < ns.length := by omega
    have hp : ns[at']? = some ns[at'] := List.getElem?_eq_getElem hlt
    rw [List.drop_eq_getElem_cons hlt] at hcalls
    obtain ⟨c, ps, t2, rest, f', rfl, hcal, hseen, hcalls2⟩ := calls_next hcalls
    refine iteT ⟨fun σ2 H2 => ∃ m', m' < ns.length - at' ∧ SpInv a o H ns raws m' σ2 H2, fun _ _ h => h, ?_⟩
    refine ⟨_, rfl, _, rfl, a, _, _, .int ns[at'], rfl, rfl, s.seq hA, atI_nat (at_map hp), ?_⟩
    refine ⟨_, rfl, rfl, _, rfl, ?_⟩
    rcases hseen with ⟨h2, k, r, er, hk, eps, et⟩ | ⟨h2, j, k, ej, ek, hk, eps, et⟩
    · rw [decide_eq_true (show V.int ns[at'] = V.int 2 by rw [h2])]
      have hk1 : ns[at' + 1]? = some (k : Int) := drop_at er
      have hr := drop_next er
      have hl := drop_len hr (by have := (List.getElem?_eq_some_iff.mp hk1).1; omega)
      rw [← hr] at eps et
      rw [List.drop_drop] at et
      have e1 : (at' : Int) + 1 = ((at' + 1 : Nat) : Int) := by omega
      refine iteT ⟨_, rfl, _, _, rfl, rfl, _, rfl, _, rfl, _, rfl, _, _, rfl, rfl, a, _, _, .int (k : Int), rfl, rfl, s.seq hA, by rw [e1]; exact atI_nat (at_map hk1), _, _, rfl, rfl, ?_⟩
      refine ⟨_, rfl, .inl ⟨rfl, _, .inl (.inl ho)⟩, _, rfl, _, rfl, _, rfl, _, rfl, _, rfl, _, rfl, a, _, rfl, s.seq hA, fun pl npl => ?_⟩
      have ecut : cutV (ns.map V.int) (some ((at' : Int) + 2)) (some ((at' : Int) + 2 + (k : Int))) = (ps.map V.int) := (cut_mid (ns := ns) (s := at' + 2) (k := k) (by omega)).trans (by rw [eps])
      rw [ecut]
      have s1 := sm s (same_upd (o := .lst (ps.map V.int)) npl)
      refine ⟨(by show 2 ≤ sizeLine; decide), fun tp2 ntp => ?_⟩
      have s2 := same_upd (o := .tup [.int ns[at'], .ref pl]) ntp
      have hpl := s2 _ _ (tr (xs := ps.map V.int) (H := H') (p := pl))
      have ho2 := s2 _ _ (same_upd (o := .lst (ps.map V.int)) npl _ _ ho)
      have npo : pl ≠ o := fun z => by
        rw [z, ho] at npl
        cases npl
      have i1 := (hi.same (one_same (sm (same_upd npl) s2))).add (raw := c) (v := .ref tp2) ⟨ns[at'], ps, tp2, pl, rfl, upd_same, hpl, ⟨none_of s npl, npo⟩, hcal⟩
      refine ⟨o, _, _, rfl, rfl, ho2, line_lt (by rw [← hi.1]; omega), ?_⟩
      refine ⟨_, rfl, ns.length - (at' + 2 + k), by omega, at' + 2 + k, some (.int ns[at']), some (.int ((at' : Int) + 2)), some (.int ((at' : Int) + 2 + (k : Int))), dn ++ [c], rest, f', items ++ [.ref tp2], ?_, same_at (sm s1 s2) no, upd_same, i1.same (one_but ho2 (fun q h => h.2) (fun b x hb e => by rw [upd_ne hb]; exact e)), by omega, rfl, ?_, ?_, ?_⟩
      · have e : ((at' + 2 + k : Nat) : Int) = (at' : Int) + 2 + (k : Int) := by omega
        rw [e]
        rfl
      · rw [← et]
        exact hcalls2
      · rw [List.append_assoc]
        exact hraws
      · rw [List.length_append]
        show dn.length + 1 ≤ _
        omega
    · rw [decide_eq_false (show ¬ V.int ns[at'] = V.int 2 from fun z => h2 (V.int.inj z))]
      have hl := drop_len (q := ns.drop (at' + 1)) rfl (by omega)
      rw [List.drop_drop] at et
      refine iteF ⟨_, rfl, _, _, rfl, rfl, _, rfl, _, rfl, tp, _, _, .int (k : Int), rfl, rfl, TP H', by rw [ej]; exact atI_nat (at_map ek), _, _, rfl, rfl, ?_⟩
      refine ⟨_, rfl, .inl ⟨rfl, _, .inl (.inl ho)⟩, _, rfl, _, rfl, _, rfl, _, rfl, _, rfl, _, rfl, a, _, rfl, s.seq hA, fun pl npl => ?_⟩
      have ecut : cutV (ns.map V.int) (some ((at' : Int) + 1)) (some ((at' : Int) + 1 + (k : Int))) = (ps.map V.int) := (cut_mid (ns := ns) (s := at' + 1) (k := k) (by omega)).trans (by rw [eps])
      rw [ecut]
      have s1 := sm s (same_upd (o := .lst (ps.map V.int)) npl)
      refine ⟨(by show 2 ≤ sizeLine; decide), fun tp2 ntp => ?_⟩
      have s2 := same_upd (o := .tup [.int ns[at'], .ref pl]) ntp
      have hpl := s2 _ _ (tr (xs := ps.map V.int) (H := H') (p := pl))
      have ho2 := s2 _ _ (same_upd (o := .lst (ps.map V.int)) npl _ _ ho)
      have npo : pl ≠ o := fun z => by
        rw [z, ho] at npl
        cases npl
      have i1 := (hi.same (one_same (sm (same_upd npl) s2))).add (raw := c) (v := .ref tp2) ⟨ns[at'], ps, tp2, pl, rfl, upd_same, hpl, ⟨none_of s npl, npo⟩, hcal⟩
      refine ⟨o, _, _, rfl, rfl, ho2, line_lt (by rw [← hi.1]; omega), ?_⟩
      refine ⟨_, rfl, ns.length - (at' + 1 + k), by omega, at' + 1 + k, some (.int ns[at']), some (.int ((at' : Int) + 1)), some (.int ((at' : Int) + 1 + (k : Int))), dn ++ [c], rest, f', items ++ [.ref tp2], ?_, same_at (sm s1 s2) no, upd_same, i1.same (one_but ho2 (fun q h => h.2) (fun b x hb e => by rw [upd_ne hb]; exact e)), by omega, rfl, ?_, ?_, ?_⟩
      · have e : ((at' + 1 + k : Nat) : Int) = (at' : Int) + 1 + (k : Int) := by omega
        rw [e]
        rfl
      · rw [← et]
        exact hcalls2
      · rw [List.append_assoc]
        exact hraws
      · rw [List.length_append]
        show dn.length + 1 ≤ _
        omega
end
end Cu
end

section
set_option maxRecDepth 100000
set_option maxHeartbeats 4000000
namespace Cu
open PySem PySem.Spec PyProof.Rows L2
open Sr121 (Chart upperSums lowerSums isWeight isLimit isShot withShot)
section
variable {P : Program} {w : World} {K : PySem.W.Frag} {mg : Str → Option Value} {base : Heap} {C : Addr}

def spAns (K : PySem.W.Frag) : Sp := fun vs H Q _ => ∃ (a : Addr) (ns : List Int) (f0 : Nat) (raws : List (List (List Int))), vs = [.ref a] ∧ SqL K H a (ns.map V.int) ∧ ns.length ≤ 4320 ∧ PyFlat.calls PySr121.shape f0 ns = some raws ∧
  (PyFlat.told (PyFlat.played Sr121Neutral.step Sr121Neutral.start raws)).length ≤ 10000000 ∧
  ∀ H' p, H' p = some (.lst ((PyFlat.told (PyFlat.played Sr121Neutral.step Sr121Neutral.start raws)).map V.int)) → Q (.ref p) H'

theorem StAt.but {C : Addr} {H H' : Hp} {v : V} {s : Option Chart} {o : Addr} {xs : List V} (I : StAt C H v s (fun q => q ≠ o)) (ho : H o = some (.lst xs)) (k : ∀ b x, b ≠ o → H b = some x → H' b = some x) : StAt C H' v s (fun q => q ≠ o) := by
  cases s with
  | none => exact I
  | some c =>
    obtain ⟨a, wl, e, w, ⟨dx, i1⟩, i2⟩ := I
    have na : a ≠ o := fun z => by
      rw [z, ho] at i1
      cases i1
    exact ⟨a, wl, e, w, ⟨⟨dx, k _ _ na i1⟩, k _ _ w i2⟩⟩
abbrev sAnswers : Stmt := top 68
theorem scAnswers : FnScope ["calls", "instance", "given", "number", "parameters", "answer"] ["calls"] (defScope sAnswers) := ⟨rfl, rfl, rfl, by decide +kernel, rfl, by decide +kernel, by decide +kernel⟩
theorem ok_answers_fn {f : Addr} {fd : FuncData} (T : Txt K mg C) (D : Df K mg "answers" sAnswers ["calls"] f fd) (G_split_calls : Ok P w K mg base 1 "split_calls" (spSplit K)) (G_carry_out : Ok P w K mg base 7 "carry_out" (spCO C)) : FnOk P w K mg base CX0 8 f fd ["calls"] (spAns K) := by
  refine D.fn.ok scAnswers (fun vs H Q E h => ?_) (fun cdv A outer s H vs Q E hr h => ?_)
  · obtain ⟨a, ns, f0, raws, rfl, _⟩ := h
    rfl
  · obtain ⟨a, ns, f0, raws, rfl, hA, hlen, hc, hsz, q⟩ := h
    refine ⟨_, (pss_cons (ps_set (i := 1) scAnswers.nd rfl (Or.inl rfl) pe_non)
      (pss_cons (ps_set (i := 2) scAnswers.nd rfl (Or.inl rfl) (pe_lst pa_nil))
      (pss_cons (ps_for PassesOwn.never rfl (pi_list (pe_ok G_split_calls (hr.mono (by decide)) (by rfl) (pa_cons (pv 0) pa_nil))) (pg_tup rfl (pgs_cons (pg_name (i := 3) scAnswers.nd rfl (Or.inl rfl)) (pgs_cons (pg_name (i := 4) scAnswers.nd rfl (Or.inl rfl)) pgs_nil))) (pss_cons (ps_asg (pe_ok G_carry_out (hr.mono (by decide)) (by rfl) (pa_cons (pv 1) (pa_cons (pv 3) (pa_cons (pv 4) pa_nil)))) (pg_tup rfl (pgs_cons (pg_name (i := 1) scAnswers.nd rfl (Or.inl rfl)) (pgs_cons (pg_name (i := 5) scAnswers.nd rfl (Or.inl rfl)) pgs_nil))))
      (pss_cons (ps_expr (pe_bm PySem.F.plainAttrs_list PySem.F.slot_list_append PySem.F.type_list_append mt_append (pv 2) (pa_cons (pe_callB call_len_seq (by rfl) T.len PySem.boot_len (pa_cons (pv 5) pa_nil)) pa_nil)))
      (pss_one (ps_expr (pe_bm PySem.F.plainAttrs_list PySem.F.slot_list_extend PySem.F.type_list_extend mt_extend (pv 2) (pa_cons (pv 5) pa_nil)))))))
      (pss_one (ps_ret (pv 2)))))), ?_⟩
    refine ⟨Nat.zero_le _, fun o no => ?_⟩
    have s0 := same_upd (o := .lst []) no
    refine ⟨_, rfl, a, ns, f0, raws, rfl, s0.seq hA, hlen, hc, fun H1 p items s1 hp np hil hit => ⟨p, rfl, ⟨_, SqL.of hp⟩, for_list (K := K) (a := p) (xs := items) (fun i σ H' => ∃ (iv : V) (v3 v4 v5 : Option V), σ = [some (.ref a), some iv, some (.ref o), v3, v4, v5] ∧
        H' p = some (.lst items) ∧ Items (fun q => q ≠ o) H' raws items ∧ StAt C H' iv (after Sr121Neutral.start (raws.take i)) (fun q => q ≠ o) ∧ Few (after Sr121Neutral.start (raws.take i)) ∧
        H' o = some (.lst ((PyFlat.told (PyFlat.played Sr121Neutral.step Sr121Neutral.start (raws.take i))).map V.int)))
      ⟨.non, none, none, none, rfl, hp, hit.mono (fun q hq z => by rw [z, upd_same] at hq; cases hq), rfl, fun c e => (by cases e), s1 _ _ tr⟩ (fun i σ H' _ ⟨_, _, _, _, _, h, _⟩ => SqL.of h) ?_ ?_⟩⟩
    · rintro i y σ H2 hi ⟨iv, v3, v4, v5, rfl, hp2, hit2, hst, hfew, ho⟩
      obtain ⟨hi1, hy⟩ := List.getElem?_eq_some_iff.mp hi
      have hi2 : i < raws.length := by
        rw [hit2.1]
        exact hi1
      have hr : raws[i]? = some raws[i] := List.getElem?_eq_getElem hi2
      obtain ⟨n, ps, t, pl, rfl, ht, hpl, npl, hcal⟩ := hit2.2 i _ _ hr hi
      obtain ⟨ept, eaf⟩ := played_take raws Sr121Neutral.start i _ hr
      refine ⟨t, _, rfl, SqT.of ht, rfl, _, _, rfl, _, _, rfl, rfl, ?_⟩
      refine ⟨_, rfl, _, rfl, _, rfl, iv, n, pl, _, raws[i], ps, (fun q => q ≠ o), rfl, hst, hpl, hcal, npl, (fun q hq z => by rw [z, ho] at hq; cases hq), hfew, fun H3 t3 iv3 al s3 ht3 hal hst3 oal => ?_⟩
      have ho3 := s3 _ _ ho
      have po : p ≠ o := fun z => by
        rw [z, upd_same] at np
        cases np
      refine ⟨t3, _, rfl, SqT.of ht3, rfl, _, _, rfl, _, _, rfl, rfl, ?_⟩
      have hl1 := played_len_le raws Sr121Neutral.start (i + 1)
      rw [ept, told_snoc, List.length_append, List.length_cons] at hl1
      have hl2 : (PyFlat.told (PyFlat.played Sr121Neutral.step Sr121Neutral.start (raws.take i))).length + ((stp (after Sr121Neutral.start (raws.take i)) raws[i]).2.length + 1) ≤ 10000000 := Nat.le_trans hl1 hsz
      refine ⟨_, rfl, .inl ⟨rfl, _, .inl (.inl ho3)⟩, _, rfl, _, _, rfl, .inl (SqL.of hal), o, _, _, rfl, rfl, ho3, line_lt (by rw [List.length_map]; omega), ?_⟩
      refine ⟨_, rfl, .inl ⟨rfl, _, .inl (.inl upd_same)⟩, _, rfl, o, al, _, _, rfl, rfl, upd_same, (upd_ne oal).trans hal, line_of (by rw [List.length_append, List.length_map, List.length_map]; show _ + 1 + _ ≤ _; omega), ?_⟩
      have keep : ∀ {x1 x2 : HO} (b : Addr) (x : HO), b ≠ o → H3 b = some x → (upd (upd H3 o x1) o x2) b = some x := fun b x hb e => by
        rw [upd_ne hb, upd_ne hb]
        exact e
      refine ⟨iv3, _, _, _, rfl, keep _ _ po (s3 _ _ hp2), (hit2.same (one_same s3)).same (one_but ho3 (fun q h => h) keep), ?_, ?_, ?_⟩
      · rw [eaf]
        exact hst3.but ho3 keep
      · rw [eaf]
        exact few_step hcal hfew
      · rw [upd_same, ept, told_snoc, List.map_append, List.map_cons, List.length_map]
        simp
    · rintro σ H2 ⟨iv, v3, v4, v5, rfl, hp2, hit2, hst, hfew, ho⟩
      rw [← hit2.1, List.take_length] at ho
      exact ⟨_, rfl, q H2 o ho⟩
end
end Cu
end

section
set_option maxRecDepth 100000
set_option maxHeartbeats 4000000
namespace Cu
open PySem PySem.Spec PyProof.Rows L2
open Sr121 (Chart upperSums lowerSums isWeight isLimit isShot withShot)

/-- what is found of a def of the top -/
abbrev DefO (K : PySem.W.Frag) (x qual : Str) (st : Stmt) (f : Addr) : Prop := ∃ (oc : Value) (od an : Option Addr) (sl : Array (Option Value)) (kV dc pm cd ct : Value), K.lookup f = some ⟨oc, od, .func (PySem.W.fnOf x qual (defArgs st) (defBody st) (defScope st) .none kV dc pm an cd ct), sl⟩ ∧
  PySem.W.codeIn K cd qual = true ∧ PySem.W.keepIn K (.ref f) = true
theorem DefO.fn {K : PySem.W.Frag} {x qual : Str} {st : Stmt} {f : Addr} (D : DefO K x qual st f) : ∃ (kV dc pm cd ct : Value) (an : Option Addr), Fun K x qual st f (PySem.W.fnOf x qual (defArgs st) (defBody st) (defScope st) .none kV dc pm an cd ct) := by
  obtain ⟨oc, od, an, sl, kV, dc, pm, cd, ct, l, c, k⟩ := D
  exact ⟨kV, dc, pm, cd, ct, an, fun_mk (st := st) l c k⟩
theorem num_of {K : PySem.W.Frag} {h : Heap} {mg : Str → Option Value} {x : Str} {z : Int} {t : Tok} (X : K.In h) (G : h.Ns mainGlobals mg) (a : PySem.W.nsIn K mainGlobals x = some (some (.int z t))) : Num mg x z := ⟨t, PySem.W.mg_of X G a⟩
theorem pick {P : Program} {w : World} {K : PySem.W.Frag} {mg : Str → Option Value} {base : Heap} {x : Str} {f0 : Addr} {sp : Sp} {tab : List (Int × Addr)} {n : Int} (O : Ok P w K mg base 5 x sp) (g : mg x = some (.ref f0)) (hl : tab.lookup n = some f0) :
    ∃ (f : Addr) (fd : FuncData) (pn : List Str), tab.lookup n = some f ∧ PySem.W.keepIn K (.ref f) = true ∧ Binds K fd pn [] ∧ FnOk P w K mg base CX0 5 f fd pn sp := by
  obtain ⟨f, fd, pn, e, kp, bd, F⟩ := O.ex
  have e2 := e.symm.trans g
  cases e2
  exact ⟨_, fd, pn, hl, kp, bd, F⟩
theorem no_seven {a b c d e f g : Addr} (n : Int) (h : 7 ≤ n) : List.lookup n [((0 : Int), a), (1, b), (2, c), (3, d), (4, e), (5, f), (6, g)] = none := by
  have z : ∀ k : Int, k < 7 → (n == k) = false := fun k hk => beq_eq_false_iff_ne.mpr (by omega)
  simp only [List.lookup, z 0 (by decide), z 1 (by decide), z 2 (by decide), z 3 (by decide), z 4 (by decide), z 5 (by decide), z 6 (by decide)]
/-- the tuple of the counts -/
abbrev CntO (K : PySem.W.Frag) (tp : Addr) : Prop := ∃ (o : Obj) (its : Array Value) (n : Nat), K.lookup tp = some o ∧ o.cls = .type "tuple" ∧ o.data = .seq its n ∧ its.size ≤ sizeLine ∧ Vals (counts.map V.int) its.toList
theorem CntO.seq {K : PySem.W.Frag} {tp : Addr} (h : CntO K tp) (H : Hp) : SqT K H tp (counts.map V.int) := .inr h
theorem all_mk {P : Program} {w : World} {K : PySem.W.Frag} {h : Heap} {mg : Str → Option Value} {fa C f0 tp tq tc f1 f2 f3 f4 f5 f6 f7 f8 f9 f10 f11 f12 f13 f14 f15 f16 f17 f18 f19 f20 f21 f22 f23 f24 f25 f26 f27 f28 f29 f30 f31 f32 f33 f34 f35 f36 f37 f38 f39 f40 f41 f42 f43 f44 f45 : Addr} {t_setShots t_noShot t_noShots t_noInst t_outR t_tooMany t_noAlarm t_mostShots t_mostW t_mostL t_create : Tok} (X : K.In h) (G : h.Ns mainGlobals mg) (hfa : mg "answers" = some (.ref fa))
    (a1 : PySem.W.nsIn K mainGlobals "split_calls" = some (some (.ref f1))) (d1 : DefO K "split_calls" "split_calls" sSplitCalls f1)
    (a2 : PySem.W.nsIn K mainGlobals "with_weights" = some (some (.ref f2))) (d2 : DefO K "with_weights" "with_weights" sWithWeights f2)
    (a3 : PySem.W.nsIn K mainGlobals "with_shot" = some (some (.ref f3))) (d3 : DefO K "with_shot" "with_shot" sWithShot f3)
    (a4 : PySem.W.nsIn K mainGlobals "with_target" = some (some (.ref f4))) (d4 : DefO K "with_target" "with_target" sWithTarget f4)
    (a5 : PySem.W.nsIn K mainGlobals "with_limits" = some (some (.ref f5))) (d5 : DefO K "with_limits" "with_limits" sWithLimits f5)
    (a6 : PySem.W.nsIn K mainGlobals "has_shot" = some (some (.ref f6))) (d6 : DefO K "has_shot" "has_shot" sHasShot f6)
    (a7 : PySem.W.nsIn K mainGlobals "in_weight_range" = some (some (.ref f7))) (d7 : DefO K "in_weight_range" "in_weight_range" sInWeightRange f7)
    (a8 : PySem.W.nsIn K mainGlobals "in_limit_range" = some (some (.ref f8))) (d8 : DefO K "in_limit_range" "in_limit_range" sInLimitRange f8)
    (a9 : PySem.W.nsIn K mainGlobals "all_in_weight_range" = some (some (.ref f9))) (d9 : DefO K "all_in_weight_range" "all_in_weight_range" sAllInWeightRange f9)
    (a10 : PySem.W.nsIn K mainGlobals "greatest_common_divisor" = some (some (.ref f10))) (d10 : DefO K "greatest_common_divisor" "greatest_common_divisor" sGreatestCommonDivisor f10)
    (a11 : PySem.W.nsIn K mainGlobals "lowest_terms" = some (some (.ref f11))) (d11 : DefO K "lowest_terms" "lowest_terms" sLowestTerms f11)
    (a12 : PySem.W.nsIn K mainGlobals "onset_at_last" = some (some (.ref f12))) (d12 : DefO K "onset_at_last" "onset_at_last" sOnsetAtLast f12)
    (a13 : PySem.W.nsIn K mainGlobals "worst_run_at_last" = some (some (.ref f13))) (d13 : DefO K "worst_run_at_last" "worst_run_at_last" sWorstRunAtLast f13)
    (a14 : PySem.W.nsIn K mainGlobals "longest_positive_run" = some (some (.ref f14))) (d14 : DefO K "longest_positive_run" "longest_positive_run" sLongestPositiveRun f14)
    (a15 : PySem.W.nsIn K mainGlobals "excess" = some (some (.ref f15))) (d15 : DefO K "excess" "excess" sExcess f15)
    (a16 : PySem.W.nsIn K mainGlobals "shortfall" = some (some (.ref f16))) (d16 : DefO K "shortfall" "shortfall" sShortfall f16)
    (a17 : PySem.W.nsIn K mainGlobals "excesses" = some (some (.ref f17))) (d17 : DefO K "excesses" "excesses" sExcesses f17)
    (a18 : PySem.W.nsIn K mainGlobals "shortfalls" = some (some (.ref f18))) (d18 : DefO K "shortfalls" "shortfalls" sShortfalls f18)
    (a19 : PySem.W.nsIn K mainGlobals "cumulative" = some (some (.ref f19))) (d19 : DefO K "cumulative" "cumulative" sCumulative f19)
    (a20 : PySem.W.nsIn K mainGlobals "upper_cumulative" = some (some (.ref f20))) (d20 : DefO K "upper_cumulative" "upper_cumulative" sUpperCumulative f20)
    (a21 : PySem.W.nsIn K mainGlobals "lower_cumulative" = some (some (.ref f21))) (d21 : DefO K "lower_cumulative" "lower_cumulative" sLowerCumulative f21)
    (a22 : PySem.W.nsIn K mainGlobals "alarm_code" = some (some (.ref f22))) (d22 : DefO K "alarm_code" "alarm_code" sAlarmCode f22)
    (a23 : PySem.W.nsIn K mainGlobals "alarm_codes" = some (some (.ref f23))) (d23 : DefO K "alarm_codes" "alarm_codes" sAlarmCodes f23)
    (a24 : PySem.W.nsIn K mainGlobals "state_at_last_shot" = some (some (.ref f24))) (d24 : DefO K "state_at_last_shot" "state_at_last_shot" sStateAtLastShot f24)
    (a25 : PySem.W.nsIn K mainGlobals "upper_sums" = some (some (.ref f25))) (d25 : DefO K "upper_sums" "upper_sums" sUpperSums f25)
    (a26 : PySem.W.nsIn K mainGlobals "lower_sums" = some (some (.ref f26))) (d26 : DefO K "lower_sums" "lower_sums" sLowerSums f26)
    (a27 : PySem.W.nsIn K mainGlobals "first_alarm" = some (some (.ref f27))) (d27 : DefO K "first_alarm" "first_alarm" sFirstAlarm f27)
    (a28 : PySem.W.nsIn K mainGlobals "alarms" = some (some (.ref f28))) (d28 : DefO K "alarms" "alarms" sAlarms f28)
    (a29 : PySem.W.nsIn K mainGlobals "onset" = some (some (.ref f29))) (d29 : DefO K "onset" "onset" sOnset f29)
    (a30 : PySem.W.nsIn K mainGlobals "worst_runs" = some (some (.ref f30))) (d30 : DefO K "worst_runs" "worst_runs" sWorstRuns f30)
    (a31 : PySem.W.nsIn K mainGlobals "add_shot_if" = some (some (.ref f31))) (d31 : DefO K "add_shot_if" "add_shot_if" sAddShotIf f31)
    (a32 : PySem.W.nsIn K mainGlobals "smallest_alarming_weight" = some (some (.ref f32))) (d32 : DefO K "smallest_alarming_weight" "smallest_alarming_weight" sSmallestAlarmingWeight f32)
    (a33 : PySem.W.nsIn K mainGlobals "longest_runs" = some (some (.ref f33))) (d33 : DefO K "longest_runs" "longest_runs" sLongestRuns f33)
    (a34 : PySem.W.nsIn K mainGlobals "mean_weight" = some (some (.ref f34))) (d34 : DefO K "mean_weight" "mean_weight" sMeanWeight f34)
    (a35 : PySem.W.nsIn K mainGlobals "describe" = some (some (.ref f35))) (d35 : DefO K "describe" "describe" sDescribe f35)
    (a36 : PySem.W.nsIn K mainGlobals "answer_query" = some (some (.ref f36))) (d36 : DefO K "answer_query" "answer_query" sAnswerQuery f36)
    (a37 : PySem.W.nsIn K mainGlobals "create" = some (some (.ref f37))) (d37 : DefO K "create" "create" sCreate f37)
    (a38 : PySem.W.nsIn K mainGlobals "add_shot" = some (some (.ref f38))) (d38 : DefO K "add_shot" "add_shot" sAddShot f38)
    (a39 : PySem.W.nsIn K mainGlobals "set_shots" = some (some (.ref f39))) (d39 : DefO K "set_shots" "set_shots" sSetShots f39)
    (a40 : PySem.W.nsIn K mainGlobals "clear_shots" = some (some (.ref f40))) (d40 : DefO K "clear_shots" "clear_shots" sClearShots f40)
    (a41 : PySem.W.nsIn K mainGlobals "set_weight" = some (some (.ref f41))) (d41 : DefO K "set_weight" "set_weight" sSetWeight f41)
    (a42 : PySem.W.nsIn K mainGlobals "set_target" = some (some (.ref f42))) (d42 : DefO K "set_target" "set_target" sSetTarget f42)
    (a43 : PySem.W.nsIn K mainGlobals "set_limits" = some (some (.ref f43))) (d43 : DefO K "set_limits" "set_limits" sSetLimits f43)
    (a44 : PySem.W.nsIn K mainGlobals "carry_out" = some (some (.ref f44))) (d44 : DefO K "carry_out" "carry_out" sCarryOut f44)
    (a45 : PySem.W.nsIn K mainGlobals "answers" = some (some (.ref f45))) (d45 : DefO K "answers" "answers" sAnswers f45)
    (n_setShots : PySem.W.nsIn K mainGlobals "SET_SHOTS" = some (some (.int 2 t_setShots)))
    (n_noShot : PySem.W.nsIn K mainGlobals "NO_SUCH_SHOT" = some (some (.int (-2) t_noShot)))
    (n_noShots : PySem.W.nsIn K mainGlobals "NO_SHOTS" = some (some (.int (-6) t_noShots)))
    (n_noInst : PySem.W.nsIn K mainGlobals "NO_INSTANCE" = some (some (.int (-11) t_noInst)))
    (n_outR : PySem.W.nsIn K mainGlobals "OUT_OF_RANGE" = some (some (.int (-22) t_outR)))
    (n_tooMany : PySem.W.nsIn K mainGlobals "TOO_MANY_SHOTS" = some (some (.int (-28) t_tooMany)))
    (n_noAlarm : PySem.W.nsIn K mainGlobals "NO_ALARM" = some (some (.int (-33) t_noAlarm)))
    (n_mostShots : PySem.W.nsIn K mainGlobals "MOST_SHOTS" = some (some (.int 24 t_mostShots)))
    (n_mostW : PySem.W.nsIn K mainGlobals "MOST_WEIGHT" = some (some (.int 9999 t_mostW)))
    (n_mostL : PySem.W.nsIn K mainGlobals "MOST_LIMIT" = some (some (.int 999 t_mostL)))
    (n_create : PySem.W.nsIn K mainGlobals "CREATE" = some (some (.int 0 t_create)))
    (z_len : PySem.W.nsIn K mainGlobals "len" = some none)
    (z_range : PySem.W.nsIn K mainGlobals "range" = some none)
    (z_max : PySem.W.nsIn K mainGlobals "max" = some none)
    (z_abs : PySem.W.nsIn K mainGlobals "abs" = some none)
    (z_sum : PySem.W.nsIn K mainGlobals "sum" = some none)
    (z_list : PySem.W.nsIn K mainGlobals "list" = some none)
    (z_enumerate : PySem.W.nsIn K mainGlobals "enumerate" = some none)
    (z_zip : PySem.W.nsIn K mainGlobals "zip" = some none)
    (aC : PySem.W.nsIn K mainGlobals "Instance" = some (some (.ref C))) (a0 : PySem.W.findIn K (.ref C) "__init__" = some (some (.ref f0))) (i0 : PySem.W.isFn K (.ref f0) = true) (d0 : DefO K "__init__" "Instance.__init__" sInit f0)
    (pg : PySem.W.plainGet K C Str.empty = true) (hd : PySem.W.hasDictIn K C = true) (po : PySem.W.plainOver K C = true) (sa : PySem.W.findIn K (.ref C) "__setattr__" = some (some (.builtin "object.__setattr__"))) (mk : PySem.W.makesIn K C = true) (kc : PySem.W.keepIn K (.ref C) = true)
    (nT : PySem.W.findIn K (.ref C) "target" = some none) (nA : PySem.W.findIn K (.ref C) "allowance" = some none) (nH : PySem.W.findIn K (.ref C) "threshold" = some none) (nW : PySem.W.findIn K (.ref C) "weights" = some none)
    (aP : PySem.W.nsIn K mainGlobals "PARAMETER_COUNTS" = some (some (.ref tp))) (cP : CntO K tp) (aQ : PySem.W.nsIn K mainGlobals "QUERIES" = some (some (.ref tq))) (TQ : Tab K tq [(7, f25), (8, f26), (9, f27), (10, f28), (11, f29), (12, f30), (13, f31), (14, f32), (15, f33), (16, f34), (17, f35)]) (aH : PySem.W.nsIn K mainGlobals "CHANGES" = some (some (.ref tc))) (TD : Tab K tc [(0, f37), (1, f38), (2, f39), (3, f40), (4, f41), (5, f42), (6, f43)]) :
    ∃ fd : FuncData, (∀ (s : Shared) (us : List Value), us.length = (["calls"] : List Str).length → BindsTo s fd ⟨us, []⟩ ((["calls"] : List Str).zip us)) ∧ ∀ base : Heap, K.In base → base.Ns mainGlobals mg → FnOk P w K mg base CX0 8 fa fd ["calls"] (spAns K) := by
  have e := hfa.symm.trans (PySem.W.mg_of X G a45)
  cases e
  have T : Txt K mg C := { cl := ⟨pg, hd, po, sa⟩, nT := nT, nA := nA, nH := nH, nW := nW, gC := PySem.W.mg_of X G aC, setShots := num_of X G n_setShots, noShot := num_of X G n_noShot, noShots := num_of X G n_noShots, noInst := num_of X G n_noInst, outR := num_of X G n_outR, tooMany := num_of X G n_tooMany, noAlarm := num_of X G n_noAlarm, mostShots := num_of X G n_mostShots, mostW := num_of X G n_mostW, mostL := num_of X G n_mostL, create := num_of X G n_create, len := PySem.W.mg_none_of X G z_len, range := PySem.W.mg_none_of X G z_range, max := PySem.W.mg_none_of X G z_max, abs := PySem.W.mg_none_of X G z_abs, sum := PySem.W.mg_none_of X G z_sum, list := PySem.W.mg_none_of X G z_list, enumerate := PySem.W.mg_none_of X G z_enumerate, zip := PySem.W.mg_none_of X G z_zip }
  obtain ⟨_, _, _, _, _, _, F0⟩ := d0.fn
  have b0 := F0.binds (ps := ["self", "target", "allowance", "threshold", "weights"]) fun _ _ _ _ _ _ us hl => match us, hl with | [_, _, _, _, _], _ => rfl
  have M : Mk K C f0 := ⟨mk, a0, i0, kc⟩
  obtain ⟨_, _, _, _, _, _, F1⟩ := d1.fn
  have D1 : Df K mg "split_calls" sSplitCalls ["numbers"] f1 _ := ⟨PySem.W.mg_of X G a1, F1, F1.binds (ps := ["numbers"]) fun _ _ _ _ _ _ us hl => match us, hl with | [_], _ => rfl⟩
  obtain ⟨_, _, _, _, _, _, F2⟩ := d2.fn
  have D2 : Df K mg "with_weights" sWithWeights ["instance", "weights"] f2 _ := ⟨PySem.W.mg_of X G a2, F2, F2.binds (ps := ["instance", "weights"]) fun _ _ _ _ _ _ us hl => match us, hl with | [_, _], _ => rfl⟩
  obtain ⟨_, _, _, _, _, _, F3⟩ := d3.fn
  have D3 : Df K mg "with_shot" sWithShot ["instance", "weight"] f3 _ := ⟨PySem.W.mg_of X G a3, F3, F3.binds (ps := ["instance", "weight"]) fun _ _ _ _ _ _ us hl => match us, hl with | [_, _], _ => rfl⟩
  obtain ⟨_, _, _, _, _, _, F4⟩ := d4.fn
  have D4 : Df K mg "with_target" sWithTarget ["instance", "target"] f4 _ := ⟨PySem.W.mg_of X G a4, F4, F4.binds (ps := ["instance", "target"]) fun _ _ _ _ _ _ us hl => match us, hl with | [_, _], _ => rfl⟩
  obtain ⟨_, _, _, _, _, _, F5⟩ := d5.fn
  have D5 : Df K mg "with_limits" sWithLimits ["instance", "allowance", "threshold"] f5 _ := ⟨PySem.W.mg_of X G a5, F5, F5.binds (ps := ["instance", "allowance", "threshold"]) fun _ _ _ _ _ _ us hl => match us, hl with | [_, _, _], _ => rfl⟩
  obtain ⟨_, _, _, _, _, _, F6⟩ := d6.fn
  have D6 : Df K mg "has_shot" sHasShot ["instance", "shot"] f6 _ := ⟨PySem.W.mg_of X G a6, F6, F6.binds (ps := ["instance", "shot"]) fun _ _ _ _ _ _ us hl => match us, hl with | [_, _], _ => rfl⟩
  obtain ⟨_, _, _, _, _, _, F7⟩ := d7.fn
  have D7 : Df K mg "in_weight_range" sInWeightRange ["number"] f7 _ := ⟨PySem.W.mg_of X G a7, F7, F7.binds (ps := ["number"]) fun _ _ _ _ _ _ us hl => match us, hl with | [_], _ => rfl⟩
  obtain ⟨_, _, _, _, _, _, F8⟩ := d8.fn
  have D8 : Df K mg "in_limit_range" sInLimitRange ["number"] f8 _ := ⟨PySem.W.mg_of X G a8, F8, F8.binds (ps := ["number"]) fun _ _ _ _ _ _ us hl => match us, hl with | [_], _ => rfl⟩
  obtain ⟨_, _, _, _, _, _, F9⟩ := d9.fn
  have D9 : Df K mg "all_in_weight_range" sAllInWeightRange ["numbers"] f9 _ := ⟨PySem.W.mg_of X G a9, F9, F9.binds (ps := ["numbers"]) fun _ _ _ _ _ _ us hl => match us, hl with | [_], _ => rfl⟩
  obtain ⟨_, _, _, _, _, _, F10⟩ := d10.fn
  have D10 : Df K mg "greatest_common_divisor" sGreatestCommonDivisor ["first", "second"] f10 _ := ⟨PySem.W.mg_of X G a10, F10, F10.binds (ps := ["first", "second"]) fun _ _ _ _ _ _ us hl => match us, hl with | [_, _], _ => rfl⟩
  obtain ⟨_, _, _, _, _, _, F11⟩ := d11.fn
  have D11 : Df K mg "lowest_terms" sLowestTerms ["numerator", "denominator"] f11 _ := ⟨PySem.W.mg_of X G a11, F11, F11.binds (ps := ["numerator", "denominator"]) fun _ _ _ _ _ _ us hl => match us, hl with | [_, _], _ => rfl⟩
  obtain ⟨_, _, _, _, _, _, F12⟩ := d12.fn
  have D12 : Df K mg "onset_at_last" sOnsetAtLast ["sums"] f12 _ := ⟨PySem.W.mg_of X G a12, F12, F12.binds (ps := ["sums"]) fun _ _ _ _ _ _ us hl => match us, hl with | [_], _ => rfl⟩
  obtain ⟨_, _, _, _, _, _, F13⟩ := d13.fn
  have D13 : Df K mg "worst_run_at_last" sWorstRunAtLast ["deviations"] f13 _ := ⟨PySem.W.mg_of X G a13, F13, F13.binds (ps := ["deviations"]) fun _ _ _ _ _ _ us hl => match us, hl with | [_], _ => rfl⟩
  obtain ⟨_, _, _, _, _, _, F14⟩ := d14.fn
  have D14 : Df K mg "longest_positive_run" sLongestPositiveRun ["differences"] f14 _ := ⟨PySem.W.mg_of X G a14, F14, F14.binds (ps := ["differences"]) fun _ _ _ _ _ _ us hl => match us, hl with | [_], _ => rfl⟩
  obtain ⟨_, _, _, _, _, _, F15⟩ := d15.fn
  have D15 : Df K mg "excess" sExcess ["instance", "weight"] f15 _ := ⟨PySem.W.mg_of X G a15, F15, F15.binds (ps := ["instance", "weight"]) fun _ _ _ _ _ _ us hl => match us, hl with | [_, _], _ => rfl⟩
  obtain ⟨_, _, _, _, _, _, F16⟩ := d16.fn
  have D16 : Df K mg "shortfall" sShortfall ["instance", "weight"] f16 _ := ⟨PySem.W.mg_of X G a16, F16, F16.binds (ps := ["instance", "weight"]) fun _ _ _ _ _ _ us hl => match us, hl with | [_, _], _ => rfl⟩
  obtain ⟨_, _, _, _, _, _, F17⟩ := d17.fn
  have D17 : Df K mg "excesses" sExcesses ["instance"] f17 _ := ⟨PySem.W.mg_of X G a17, F17, F17.binds (ps := ["instance"]) fun _ _ _ _ _ _ us hl => match us, hl with | [_], _ => rfl⟩
  obtain ⟨_, _, _, _, _, _, F18⟩ := d18.fn
  have D18 : Df K mg "shortfalls" sShortfalls ["instance"] f18 _ := ⟨PySem.W.mg_of X G a18, F18, F18.binds (ps := ["instance"]) fun _ _ _ _ _ _ us hl => match us, hl with | [_], _ => rfl⟩
  obtain ⟨_, _, _, _, _, _, F19⟩ := d19.fn
  have D19 : Df K mg "cumulative" sCumulative ["deviations"] f19 _ := ⟨PySem.W.mg_of X G a19, F19, F19.binds (ps := ["deviations"]) fun _ _ _ _ _ _ us hl => match us, hl with | [_], _ => rfl⟩
  obtain ⟨_, _, _, _, _, _, F20⟩ := d20.fn
  have D20 : Df K mg "upper_cumulative" sUpperCumulative ["instance"] f20 _ := ⟨PySem.W.mg_of X G a20, F20, F20.binds (ps := ["instance"]) fun _ _ _ _ _ _ us hl => match us, hl with | [_], _ => rfl⟩
  obtain ⟨_, _, _, _, _, _, F21⟩ := d21.fn
  have D21 : Df K mg "lower_cumulative" sLowerCumulative ["instance"] f21 _ := ⟨PySem.W.mg_of X G a21, F21, F21.binds (ps := ["instance"]) fun _ _ _ _ _ _ us hl => match us, hl with | [_], _ => rfl⟩
  obtain ⟨_, _, _, _, _, _, F22⟩ := d22.fn
  have D22 : Df K mg "alarm_code" sAlarmCode ["instance", "upper", "lower"] f22 _ := ⟨PySem.W.mg_of X G a22, F22, F22.binds (ps := ["instance", "upper", "lower"]) fun _ _ _ _ _ _ us hl => match us, hl with | [_, _, _], _ => rfl⟩
  obtain ⟨_, _, _, _, _, _, F23⟩ := d23.fn
  have D23 : Df K mg "alarm_codes" sAlarmCodes ["instance"] f23 _ := ⟨PySem.W.mg_of X G a23, F23, F23.binds (ps := ["instance"]) fun _ _ _ _ _ _ us hl => match us, hl with | [_], _ => rfl⟩
  obtain ⟨_, _, _, _, _, _, F24⟩ := d24.fn
  have D24 : Df K mg "state_at_last_shot" sStateAtLastShot ["instance"] f24 _ := ⟨PySem.W.mg_of X G a24, F24, F24.binds (ps := ["instance"]) fun _ _ _ _ _ _ us hl => match us, hl with | [_], _ => rfl⟩
  obtain ⟨_, _, _, _, _, _, F25⟩ := d25.fn
  have D25 : Df K mg "upper_sums" sUpperSums ["instance", "parameters"] f25 _ := ⟨PySem.W.mg_of X G a25, F25, F25.binds (ps := ["instance", "parameters"]) fun _ _ _ _ _ _ us hl => match us, hl with | [_, _], _ => rfl⟩
  obtain ⟨_, _, _, _, _, _, F26⟩ := d26.fn
  have D26 : Df K mg "lower_sums" sLowerSums ["instance", "parameters"] f26 _ := ⟨PySem.W.mg_of X G a26, F26, F26.binds (ps := ["instance", "parameters"]) fun _ _ _ _ _ _ us hl => match us, hl with | [_, _], _ => rfl⟩
  obtain ⟨_, _, _, _, _, _, F27⟩ := d27.fn
  have D27 : Df K mg "first_alarm" sFirstAlarm ["instance", "parameters"] f27 _ := ⟨PySem.W.mg_of X G a27, F27, F27.binds (ps := ["instance", "parameters"]) fun _ _ _ _ _ _ us hl => match us, hl with | [_, _], _ => rfl⟩
  obtain ⟨_, _, _, _, _, _, F28⟩ := d28.fn
  have D28 : Df K mg "alarms" sAlarms ["instance", "parameters"] f28 _ := ⟨PySem.W.mg_of X G a28, F28, F28.binds (ps := ["instance", "parameters"]) fun _ _ _ _ _ _ us hl => match us, hl with | [_, _], _ => rfl⟩
  obtain ⟨_, _, _, _, _, _, F29⟩ := d29.fn
  have D29 : Df K mg "onset" sOnset ["instance", "parameters"] f29 _ := ⟨PySem.W.mg_of X G a29, F29, F29.binds (ps := ["instance", "parameters"]) fun _ _ _ _ _ _ us hl => match us, hl with | [_, _], _ => rfl⟩
  obtain ⟨_, _, _, _, _, _, F30⟩ := d30.fn
  have D30 : Df K mg "worst_runs" sWorstRuns ["instance", "parameters"] f30 _ := ⟨PySem.W.mg_of X G a30, F30, F30.binds (ps := ["instance", "parameters"]) fun _ _ _ _ _ _ us hl => match us, hl with | [_, _], _ => rfl⟩
  obtain ⟨_, _, _, _, _, _, F31⟩ := d31.fn
  have D31 : Df K mg "add_shot_if" sAddShotIf ["instance", "parameters"] f31 _ := ⟨PySem.W.mg_of X G a31, F31, F31.binds (ps := ["instance", "parameters"]) fun _ _ _ _ _ _ us hl => match us, hl with | [_, _], _ => rfl⟩
  obtain ⟨_, _, _, _, _, _, F32⟩ := d32.fn
  have D32 : Df K mg "smallest_alarming_weight" sSmallestAlarmingWeight ["instance", "parameters"] f32 _ := ⟨PySem.W.mg_of X G a32, F32, F32.binds (ps := ["instance", "parameters"]) fun _ _ _ _ _ _ us hl => match us, hl with | [_, _], _ => rfl⟩
  obtain ⟨_, _, _, _, _, _, F33⟩ := d33.fn
  have D33 : Df K mg "longest_runs" sLongestRuns ["instance", "parameters"] f33 _ := ⟨PySem.W.mg_of X G a33, F33, F33.binds (ps := ["instance", "parameters"]) fun _ _ _ _ _ _ us hl => match us, hl with | [_, _], _ => rfl⟩
  obtain ⟨_, _, _, _, _, _, F34⟩ := d34.fn
  have D34 : Df K mg "mean_weight" sMeanWeight ["instance", "parameters"] f34 _ := ⟨PySem.W.mg_of X G a34, F34, F34.binds (ps := ["instance", "parameters"]) fun _ _ _ _ _ _ us hl => match us, hl with | [_, _], _ => rfl⟩
  obtain ⟨_, _, _, _, _, _, F35⟩ := d35.fn
  have D35 : Df K mg "describe" sDescribe ["instance", "parameters"] f35 _ := ⟨PySem.W.mg_of X G a35, F35, F35.binds (ps := ["instance", "parameters"]) fun _ _ _ _ _ _ us hl => match us, hl with | [_, _], _ => rfl⟩
  obtain ⟨_, _, _, _, _, _, F36⟩ := d36.fn
  have D36 : Df K mg "answer_query" sAnswerQuery ["instance", "number", "parameters"] f36 _ := ⟨PySem.W.mg_of X G a36, F36, F36.binds (ps := ["instance", "number", "parameters"]) fun _ _ _ _ _ _ us hl => match us, hl with | [_, _, _], _ => rfl⟩
  obtain ⟨_, _, _, _, _, _, F37⟩ := d37.fn
  have D37 : Df K mg "create" sCreate ["instance", "parameters"] f37 _ := ⟨PySem.W.mg_of X G a37, F37, F37.binds (ps := ["instance", "parameters"]) fun _ _ _ _ _ _ us hl => match us, hl with | [_, _], _ => rfl⟩
  obtain ⟨_, _, _, _, _, _, F38⟩ := d38.fn
  have D38 : Df K mg "add_shot" sAddShot ["instance", "parameters"] f38 _ := ⟨PySem.W.mg_of X G a38, F38, F38.binds (ps := ["instance", "parameters"]) fun _ _ _ _ _ _ us hl => match us, hl with | [_, _], _ => rfl⟩
  obtain ⟨_, _, _, _, _, _, F39⟩ := d39.fn
  have D39 : Df K mg "set_shots" sSetShots ["instance", "parameters"] f39 _ := ⟨PySem.W.mg_of X G a39, F39, F39.binds (ps := ["instance", "parameters"]) fun _ _ _ _ _ _ us hl => match us, hl with | [_, _], _ => rfl⟩
  obtain ⟨_, _, _, _, _, _, F40⟩ := d40.fn
  have D40 : Df K mg "clear_shots" sClearShots ["instance", "parameters"] f40 _ := ⟨PySem.W.mg_of X G a40, F40, F40.binds (ps := ["instance", "parameters"]) fun _ _ _ _ _ _ us hl => match us, hl with | [_, _], _ => rfl⟩
  obtain ⟨_, _, _, _, _, _, F41⟩ := d41.fn
  have D41 : Df K mg "set_weight" sSetWeight ["instance", "parameters"] f41 _ := ⟨PySem.W.mg_of X G a41, F41, F41.binds (ps := ["instance", "parameters"]) fun _ _ _ _ _ _ us hl => match us, hl with | [_, _], _ => rfl⟩
  obtain ⟨_, _, _, _, _, _, F42⟩ := d42.fn
  have D42 : Df K mg "set_target" sSetTarget ["instance", "parameters"] f42 _ := ⟨PySem.W.mg_of X G a42, F42, F42.binds (ps := ["instance", "parameters"]) fun _ _ _ _ _ _ us hl => match us, hl with | [_, _], _ => rfl⟩
  obtain ⟨_, _, _, _, _, _, F43⟩ := d43.fn
  have D43 : Df K mg "set_limits" sSetLimits ["instance", "parameters"] f43 _ := ⟨PySem.W.mg_of X G a43, F43, F43.binds (ps := ["instance", "parameters"]) fun _ _ _ _ _ _ us hl => match us, hl with | [_, _], _ => rfl⟩
  obtain ⟨_, _, _, _, _, _, F44⟩ := d44.fn
  have D44 : Df K mg "carry_out" sCarryOut ["instance", "number", "parameters"] f44 _ := ⟨PySem.W.mg_of X G a44, F44, F44.binds (ps := ["instance", "number", "parameters"]) fun _ _ _ _ _ _ us hl => match us, hl with | [_, _, _], _ => rfl⟩
  obtain ⟨kVa, dca, pma, cda, cta, ana, F45⟩ := d45.fn
  have D45 : Df K mg "answers" sAnswers ["calls"] _ _ := ⟨PySem.W.mg_of X G a45, F45, F45.binds (ps := ["calls"]) fun _ _ _ _ _ _ us hl => match us, hl with | [_], _ => rfl⟩
  refine ⟨PySem.W.fnOf "answers" "answers" (defArgs sAnswers) (defBody sAnswers) (defScope sAnswers) .none kVa dca pma ana cda cta, fun s us hu => match us, hu with | [_], _ => .of_eq rfl, fun base _ _ => ?_⟩
  have gP := PySem.W.mg_of X G aP
  have gQ := PySem.W.mg_of X G aQ
  have gH := PySem.W.mg_of X G aH
  have TP := cP.seq
  have GI : FnOk P w K mg base CX0 1 f0 _ ["self", "target", "allowance", "threshold", "weights"] (spInit C) := ok_init T F0
  have G_split_calls : Ok P w K mg base 1 "split_calls" (spSplit K) := ok_split_calls T D1   gP TP
  have G_with_weights : Ok P w K mg base 3 "with_weights" (spWW C) := ok_with_weights T D2  M GI b0 
  have G_with_shot : Ok P w K mg base 4 "with_shot" (spWS C) := ok_with_shot T D3 G_with_weights  
  have G_with_target : Ok P w K mg base 3 "with_target" (spWT C) := ok_with_target T D4  M GI b0 
  have G_with_limits : Ok P w K mg base 3 "with_limits" (spWL C) := ok_with_limits T D5  M GI b0 
  have G_has_shot : Ok P w K mg base 1 "has_shot" (spHas C) := ok_has_shot T D6   
  have G_in_weight_range : Ok P w K mg base 1 "in_weight_range" spInW := ok_in_weight_range T D7   
  have G_in_limit_range : Ok P w K mg base 1 "in_limit_range" spInL := ok_in_limit_range T D8   
  have G_all_in_weight_range : Ok P w K mg base 2 "all_in_weight_range" spAll := ok_all_in_weight_range T D9 G_in_weight_range  
  have G_greatest_common_divisor : Ok P w K mg base 1 "greatest_common_divisor" spGcd := ok_greatest_common_divisor T D10   
  have G_lowest_terms : Ok P w K mg base 2 "lowest_terms" spLow := ok_lowest_terms T D11 G_greatest_common_divisor  
  have G_onset_at_last : Ok P w K mg base 1 "onset_at_last" spOns := ok_onset_at_last T D12   
  have G_worst_run_at_last : Ok P w K mg base 1 "worst_run_at_last" spWor := ok_worst_run_at_last T D13   
  have G_longest_positive_run : Ok P w K mg base 1 "longest_positive_run" spLon := ok_longest_positive_run T D14   
  have G_excess : Ok P w K mg base 1 "excess" (spExc C) := ok_excess T D15   
  have G_shortfall : Ok P w K mg base 1 "shortfall" (spSho C) := ok_shortfall T D16   
  have G_excesses : Ok P w K mg base 2 "excesses" (spDev C Sr121.excess) := ok_excesses T D17 G_excess  
  have G_shortfalls : Ok P w K mg base 2 "shortfalls" (spDev C Sr121.shortfall) := ok_shortfalls T D18 G_shortfall  
  have G_cumulative : Ok P w K mg base 1 "cumulative" spCum := ok_cumulative T D19   
  have G_upper_cumulative : Ok P w K mg base 3 "upper_cumulative" (spSums C Sr121.upperSums) := ok_upper_cumulative T D20 G_excesses G_cumulative  
  have G_lower_cumulative : Ok P w K mg base 3 "lower_cumulative" (spSums C Sr121.lowerSums) := ok_lower_cumulative T D21 G_shortfalls G_cumulative  
  have G_alarm_code : Ok P w K mg base 1 "alarm_code" (spCode C) := ok_alarm_code T D22   
  have G_alarm_codes : Ok P w K mg base 4 "alarm_codes" (spSums C codesOf) := ok_alarm_codes T D23 G_alarm_code G_lower_cumulative G_upper_cumulative  
  have G_state_at_last_shot : Ok P w K mg base 4 "state_at_last_shot" (spState C) := ok_state_at_last_shot T D24 G_alarm_code G_lower_cumulative G_upper_cumulative  
  have G_upper_sums : Ok P w K mg base 5 "upper_sums" (spQR C [[7]] []) := ok_upper_sums T D25 G_upper_cumulative  
  have G_lower_sums : Ok P w K mg base 5 "lower_sums" (spQR C [[8]] []) := ok_lower_sums T D26 G_lower_cumulative  
  have G_first_alarm : Ok P w K mg base 5 "first_alarm" (spQR C [[9]] []) := ok_first_alarm T D27 G_alarm_codes  
  have G_alarms : Ok P w K mg base 5 "alarms" (spQR C [[10]] []) := ok_alarms T D28 G_alarm_codes  
  have G_onset : ∀ n : Int, Ok P w K mg base 5 "onset" (spQR C [[11, n]] [n]) := fun n => ok_onset T D29 G_onset_at_last G_lower_cumulative G_upper_cumulative G_has_shot  
  have G_worst_runs : ∀ n : Int, Ok P w K mg base 5 "worst_runs" (spQR C [[12, n]] [n]) := fun n => ok_worst_runs T D30 G_worst_run_at_last G_shortfalls G_excesses G_has_shot  
  have G_add_shot_if : ∀ n : Int, Ok P w K mg base 5 "add_shot_if" (spQR C [[13, n]] [n]) := fun n => ok_add_shot_if T D31 G_with_shot G_state_at_last_shot G_in_weight_range  
  have G_smallest_alarming_weight : Ok P w K mg base 5 "smallest_alarming_weight" (spQR C [[14]] []) := ok_smallest_alarming_weight T D32 G_upper_cumulative  
  have G_longest_runs : Ok P w K mg base 5 "longest_runs" (spQR C [[15]] []) := ok_longest_runs T D33 G_longest_positive_run  
  have G_mean_weight : Ok P w K mg base 5 "mean_weight" (spQR C [[16]] []) := ok_mean_weight T D34 G_lowest_terms  
  have G_describe : Ok P w K mg base 5 "describe" (spQR C [[17]] []) := ok_describe T D35   
  have G_create : ∀ n : Int, ∀ b : Int, ∀ d : Int, Ok P w K mg base 5 "create" (spCR C [[0, n, b, d]] [n, b, d]) := fun n b d => ok_create T D37 G_in_limit_range G_in_weight_range M GI b0 
  have G_add_shot : ∀ n : Int, Ok P w K mg base 5 "add_shot" (spCR C [[1, n]] [n]) := fun n => ok_add_shot T D38 G_state_at_last_shot G_with_shot G_in_weight_range  
  have G_set_shots : ∀ ps : List Int, Ok P w K mg base 5 "set_shots" (spCR C [[2], ps] ps) := fun ps => ok_set_shots T D39 G_with_weights G_all_in_weight_range  
  have G_clear_shots : Ok P w K mg base 5 "clear_shots" (spCR C [[3]] []) := ok_clear_shots T D40 G_with_weights  
  have G_set_weight : ∀ n : Int, ∀ b : Int, Ok P w K mg base 5 "set_weight" (spCR C [[4, n, b]] [n, b]) := fun n b => ok_set_weight T D41 G_with_weights G_in_weight_range G_has_shot  
  have G_set_target : ∀ n : Int, Ok P w K mg base 5 "set_target" (spCR C [[5, n]] [n]) := fun n => ok_set_target T D42 G_with_target G_in_weight_range  
  have G_set_limits : ∀ n : Int, ∀ b : Int, Ok P w K mg base 5 "set_limits" (spCR C [[6, n, b]] [n, b]) := fun n b => ok_set_limits T D43 G_with_limits G_in_limit_range  
  have HQ : Has P w K mg base [(7, f25), (8, f26), (9, f27), (10, f28), (11, f29), (12, f30), (13, f31), (14, f32), (15, f33), (16, f34), (17, f35)] (spQR C) (fun n => 7 ≤ n) := by
    intro raw n ps hc hn
    cases hc with
    | c7 => exact pick (G_upper_sums) D25.gl rfl
    | c8 => exact pick (G_lower_sums) D26.gl rfl
    | c9 => exact pick (G_first_alarm) D27.gl rfl
    | c10 => exact pick (G_alarms) D28.gl rfl
    | c11 x => exact pick (G_onset x) D29.gl rfl
    | c12 x => exact pick (G_worst_runs x) D30.gl rfl
    | c13 x => exact pick (G_add_shot_if x) D31.gl rfl
    | c14 => exact pick (G_smallest_alarming_weight) D32.gl rfl
    | c15 => exact pick (G_longest_runs) D33.gl rfl
    | c16 => exact pick (G_mean_weight) D34.gl rfl
    | c17 => exact pick (G_describe) D35.gl rfl
    | _ => exact absurd hn (by decide)
  have HC : Has P w K mg base [(0, f37), (1, f38), (2, f39), (3, f40), (4, f41), (5, f42), (6, f43)] (spCR C) (fun n => n < 7) := by
    intro raw n ps hc hn
    cases hc with
    | c0 x y z => exact pick (G_create x y z) D37.gl rfl
    | c1 x => exact pick (G_add_shot x) D38.gl rfl
    | c2 x => exact pick (G_set_shots _) D39.gl rfl
    | c3 => exact pick (G_clear_shots) D40.gl rfl
    | c4 x y => exact pick (G_set_weight x y) D41.gl rfl
    | c5 x => exact pick (G_set_target x) D42.gl rfl
    | c6 x y => exact pick (G_set_limits x y) D43.gl rfl
    | _ => exact absurd hn (by decide)
  have G_answer_query : Ok P w K mg base 6 "answer_query" (spAQ C) := ok_answer_query T D36  gQ TQ HQ
  have G_carry_out : Ok P w K mg base 7 "carry_out" (spCO C) := ok_carry_out T D44 G_answer_query gH TD HC no_seven
  exact ok_answers_fn T D45 G_split_calls G_carry_out
end Cu
end

set_option maxRecDepth 100000
set_option maxHeartbeats 4000000
namespace Cu
open PySem PySem.Spec PyProof.Rows L2
open Sr121 (Chart upperSums lowerSums isWeight isLimit isShot withShot)

theorem asked_of {ns : List Int} (h : PySr121.answers_asked ns = true) : ∃ raws, PyFlat.calls PySr121.shape ns.length ns = some raws ∧ PySr121.answers ns = PyFlat.told (PyFlat.played Sr121Neutral.step Sr121Neutral.start raws) ∧
    (PyFlat.told (PyFlat.played Sr121Neutral.step Sr121Neutral.start raws)).length ≤ 10000000 := by
  unfold PySr121.answers_asked at h
  cases e : PyFlat.calls PySr121.shape ns.length ns with
  | none =>
    rw [e] at h
    cases h
  | some raws =>
    rw [e] at h
    have w : raws.map PySr121.whole = raws := by
      have e2 : PySr121.whole = id := funext whole_id
      rw [e2, List.map_id]
    have ea : PySr121.answers ns = PyFlat.told (PyFlat.played Sr121Neutral.step Sr121Neutral.start raws) := by
      unfold PySr121.answers PySr121.calls
      rw [e]
      show PyFlat.told (PyFlat.played Sr121Neutral.step Sr121Neutral.start (raws.map PySr121.whole)) = _
      rw [w]
    have h' : (!raws.isEmpty && PyFlat.atMost 60 raws && PyInside.calls PySr121.bound raws && Sr121Neutral.asked (raws.map PySr121.whole) && PyFlat.short 10000000 (PySr121.answers ns)) = true := h
    rw [Bool.and_eq_true, ea] at h'
    exact ⟨raws, rfl, ea, of_decide_eq_true h'.2⟩
end Cu
open PySem PySem.W PyProof.Rows
open PySem.W (Codec)
set_option maxRecDepth 100000 in
set_option maxHeartbeats 0 in
theorem PySem.Challenge.cw_shotsums_s01_answers_holds : PySem.Challenge.rw_shotsums_s01_answers.Holds := by
  w_on; k_headS; (case hw => exact ⟨[.list [.int 7]], by decide +kernel, by decide +kernel⟩)
  k_fillS
  refine L2.walk_specK (r := PySem.Challenge.rw_shotsums_s01_answers) (k := 8) (CX := L2.CX0) (ps := ["calls"]) (sp := Cu.spAns) (by decide +kernel) rfl rfl ⟨rfl, by decide, by decide⟩ (fun w h Y => PySem.W.kIn_of Y) ?F ?S (fun _ _ _ _ z => z)
  case S =>
    intro K H xs a hO hwi hask hx
    cases hx with
    | cons h1 h2 =>
      cases h2
      cases h1 with
      | lst hs ha =>
        have e := L2.ints_dw a.1 _ ha
        subst e
        have q : ((Codec.inLen 0 4320 a.1 && a.1.all (Codec.inInt (-2147483648) 2147483647)) && true) = true := hwi
        rw [Bool.and_eq_true, Bool.and_eq_true] at q
        obtain ⟨raws, e1, e2, e3⟩ := Cu.asked_of (ns := a.1) hask
        refine ⟨_, a.1, _, raws, rfl, hs, (Codec.inNat_iff.mp q.1.1).2, e1, e3, fun H' p hp => ?_⟩
        rw [← e2] at hp
        exact .lst (L2.SqL.of hp) (L2.dw_ints _)
  case F =>
    intro w mg fa h Y KX G hmg
    refine' Cu.all_mk KX G hmg ?a1 ?d1 ?a2 ?d2 ?a3 ?d3 ?a4 ?d4 ?a5 ?d5 ?a6 ?d6 ?a7 ?d7 ?a8 ?d8 ?a9 ?d9 ?a10 ?d10 ?a11 ?d11 ?a12 ?d12 ?a13 ?d13 ?a14 ?d14 ?a15 ?d15 ?a16 ?d16 ?a17 ?d17 ?a18 ?d18 ?a19 ?d19 ?a20 ?d20 ?a21 ?d21 ?a22 ?d22 ?a23 ?d23 ?a24 ?d24 ?a25 ?d25 ?a26 ?d26 ?a27 ?d27 ?a28 ?d28 ?a29 ?d29 ?a30 ?d30 ?a31 ?d31 ?a32 ?d32 ?a33 ?d33 ?a34 ?d34 ?a35 ?d35 ?a36 ?d36 ?a37 ?d37 ?a38 ?d38 ?a39 ?d39 ?a40 ?d40 ?a41 ?d41 ?a42 ?d42 ?a43 ?d43 ?a44 ?d44 ?a45 ?d45 ?n_setShots ?n_noShot ?n_noShots ?n_noInst ?n_outR ?n_tooMany ?n_noAlarm ?n_mostShots ?n_mostW ?n_mostL ?n_create ?z_len ?z_range ?z_max ?z_abs ?z_sum ?z_list ?z_enumerate ?z_zip ?aC ?a0 ?i0 ?d0 ?pg ?hd ?po ?sa ?mk ?kc ?nT ?nA ?nH ?nW ?aP ?cP ?aQ ?TQ ?aH ?TD
    (case a1 => k_is)
    (case d1 => refine' ⟨_, _, _, _, _, _, _, _, _, ?fl1, ?fc1, ?fk1⟩; (case fl1 => rfl); (case fc1 => rfl); (case fk1 => rfl))
    (case a2 => k_is)
    (case d2 => refine' ⟨_, _, _, _, _, _, _, _, _, ?fl2, ?fc2, ?fk2⟩; (case fl2 => rfl); (case fc2 => rfl); (case fk2 => rfl))
    (case a3 => k_is)
    (case d3 => refine' ⟨_, _, _, _, _, _, _, _, _, ?fl3, ?fc3, ?fk3⟩; (case fl3 => rfl); (case fc3 => rfl); (case fk3 => rfl))
    (case a4 => k_is)
    (case d4 => refine' ⟨_, _, _, _, _, _, _, _, _, ?fl4, ?fc4, ?fk4⟩; (case fl4 => rfl); (case fc4 => rfl); (case fk4 => rfl))
    (case a5 => k_is)
    (case d5 => refine' ⟨_, _, _, _, _, _, _, _, _, ?fl5, ?fc5, ?fk5⟩; (case fl5 => rfl); (case fc5 => rfl); (case fk5 => rfl))
    (case a6 => k_is)
    (case d6 => refine' ⟨_, _, _, _, _, _, _, _, _, ?fl6, ?fc6, ?fk6⟩; (case fl6 => rfl); (case fc6 => rfl); (case fk6 => rfl))
    (case a7 => k_is)
    (case d7 => refine' ⟨_, _, _, _, _, _, _, _, _, ?fl7, ?fc7, ?fk7⟩; (case fl7 => rfl); (case fc7 => rfl); (case fk7 => rfl))
    (case a8 => k_is)
    (case d8 => refine' ⟨_, _, _, _, _, _, _, _, _, ?fl8, ?fc8, ?fk8⟩; (case fl8 => rfl); (case fc8 => rfl); (case fk8 => rfl))
    (case a9 => k_is)
    (case d9 => refine' ⟨_, _, _, _, _, _, _, _, _, ?fl9, ?fc9, ?fk9⟩; (case fl9 => rfl); (case fc9 => rfl); (case fk9 => rfl))
    (case a10 => k_is)
    (case d10 => refine' ⟨_, _, _, _, _, _, _, _, _, ?fl10, ?fc10, ?fk10⟩; (case fl10 => rfl); (case fc10 => rfl); (case fk10 => rfl))
    (case a11 => k_is)
    (case d11 => refine' ⟨_, _, _, _, _, _, _, _, _, ?fl11, ?fc11, ?fk11⟩; (case fl11 => rfl); (case fc11 => rfl); (case fk11 => rfl))
    (case a12 => k_is)
    (case d12 => refine' ⟨_, _, _, _, _, _, _, _, _, ?fl12, ?fc12, ?fk12⟩; (case fl12 => rfl); (case fc12 => rfl); (case fk12 => rfl))
    (case a13 => k_is)
    (case d13 => refine' ⟨_, _, _, _, _, _, _, _, _, ?fl13, ?fc13, ?fk13⟩; (case fl13 => rfl); (case fc13 => rfl); (case fk13 => rfl))
    (case a14 => k_is)
    (case d14 => refine' ⟨_, _, _, _, _, _, _, _, _, ?fl14, ?fc14, ?fk14⟩; (case fl14 => rfl); (case fc14 => rfl); (case fk14 => rfl))
    (case a15 => k_is)
    (case d15 => refine' ⟨_, _, _, _, _, _, _, _, _, ?fl15, ?fc15, ?fk15⟩; (case fl15 => rfl); (case fc15 => rfl); (case fk15 => rfl))
    (case a16 => k_is)
    (case d16 => refine' ⟨_, _, _, _, _, _, _, _, _, ?fl16, ?fc16, ?fk16⟩; (case fl16 => rfl); (case fc16 => rfl); (case fk16 => rfl))
    (case a17 => k_is)
    (case d17 => refine' ⟨_, _, _, _, _, _, _, _, _, ?fl17, ?fc17, ?fk17⟩; (case fl17 => rfl); (case fc17 => rfl); (case fk17 => rfl))
    (case a18 => k_is)
    (case d18 => refine' ⟨_, _, _, _, _, _, _, _, _, ?fl18, ?fc18, ?fk18⟩; (case fl18 => rfl); (case fc18 => rfl); (case fk18 => rfl))
    (case a19 => k_is)
    (case d19 => refine' ⟨_, _, _, _, _, _, _, _, _, ?fl19, ?fc19, ?fk19⟩; (case fl19 => rfl); (case fc19 => rfl); (case fk19 => rfl))
    (case a20 => k_is)
    (case d20 => refine' ⟨_, _, _, _, _, _, _, _, _, ?fl20, ?fc20, ?fk20⟩; (case fl20 => rfl); (case fc20 => rfl); (case fk20 => rfl))
    (case a21 => k_is)
    (case d21 => refine' ⟨_, _, _, _, _, _, _, _, _, ?fl21, ?fc21, ?fk21⟩; (case fl21 => rfl); (case fc21 => rfl); (case fk21 => rfl))
    (case a22 => k_is)
    (case d22 => refine' ⟨_, _, _, _, _, _, _, _, _, ?fl22, ?fc22, ?fk22⟩; (case fl22 => rfl); (case fc22 => rfl); (case fk22 => rfl))
    (case a23 => k_is)
    (case d23 => refine' ⟨_, _, _, _, _, _, _, _, _, ?fl23, ?fc23, ?fk23⟩; (case fl23 => rfl); (case fc23 => rfl); (case fk23 => rfl))
    (case a24 => k_is)
    (case d24 => refine' ⟨_, _, _, _, _, _, _, _, _, ?fl24, ?fc24, ?fk24⟩; (case fl24 => rfl); (case fc24 => rfl); (case fk24 => rfl))
    (case a25 => k_is)
    (case d25 => refine' ⟨_, _, _, _, _, _, _, _, _, ?fl25, ?fc25, ?fk25⟩; (case fl25 => rfl); (case fc25 => rfl); (case fk25 => rfl))
    (case a26 => k_is)
    (case d26 => refine' ⟨_, _, _, _, _, _, _, _, _, ?fl26, ?fc26, ?fk26⟩; (case fl26 => rfl); (case fc26 => rfl); (case fk26 => rfl))
    (case a27 => k_is)
    (case d27 => refine' ⟨_, _, _, _, _, _, _, _, _, ?fl27, ?fc27, ?fk27⟩; (case fl27 => rfl); (case fc27 => rfl); (case fk27 => rfl))
    (case a28 => k_is)
    (case d28 => refine' ⟨_, _, _, _, _, _, _, _, _, ?fl28, ?fc28, ?fk28⟩; (case fl28 => rfl); (case fc28 => rfl); (case fk28 => rfl))
    (case a29 => k_is)
    (case d29 => refine' ⟨_, _, _, _, _, _, _, _, _, ?fl29, ?fc29, ?fk29⟩; (case fl29 => rfl); (case fc29 => rfl); (case fk29 => rfl))
    (case a30 => k_is)
    (case d30 => refine' ⟨_, _, _, _, _, _, _, _, _, ?fl30, ?fc30, ?fk30⟩; (case fl30 => rfl); (case fc30 => rfl); (case fk30 => rfl))
    (case a31 => k_is)
    (case d31 => refine' ⟨_, _, _, _, _, _, _, _, _, ?fl31, ?fc31, ?fk31⟩; (case fl31 => rfl); (case fc31 => rfl); (case fk31 => rfl))
    (case a32 => k_is)
    (case d32 => refine' ⟨_, _, _, _, _, _, _, _, _, ?fl32, ?fc32, ?fk32⟩; (case fl32 => rfl); (case fc32 => rfl); (case fk32 => rfl))
    (case a33 => k_is)
    (case d33 => refine' ⟨_, _, _, _, _, _, _, _, _, ?fl33, ?fc33, ?fk33⟩; (case fl33 => rfl); (case fc33 => rfl); (case fk33 => rfl))
    (case a34 => k_is)
    (case d34 => refine' ⟨_, _, _, _, _, _, _, _, _, ?fl34, ?fc34, ?fk34⟩; (case fl34 => rfl); (case fc34 => rfl); (case fk34 => rfl))
    (case a35 => k_is)
    (case d35 => refine' ⟨_, _, _, _, _, _, _, _, _, ?fl35, ?fc35, ?fk35⟩; (case fl35 => rfl); (case fc35 => rfl); (case fk35 => rfl))
    (case a36 => k_is)
    (case d36 => refine' ⟨_, _, _, _, _, _, _, _, _, ?fl36, ?fc36, ?fk36⟩; (case fl36 => rfl); (case fc36 => rfl); (case fk36 => rfl))
    (case a37 => k_is)
    (case d37 => refine' ⟨_, _, _, _, _, _, _, _, _, ?fl37, ?fc37, ?fk37⟩; (case fl37 => rfl); (case fc37 => rfl); (case fk37 => rfl))
    (case a38 => k_is)
    (case d38 => refine' ⟨_, _, _, _, _, _, _, _, _, ?fl38, ?fc38, ?fk38⟩; (case fl38 => rfl); (case fc38 => rfl); (case fk38 => rfl))
    (case a39 => k_is)
    (case d39 => refine' ⟨_, _, _, _, _, _, _, _, _, ?fl39, ?fc39, ?fk39⟩; (case fl39 => rfl); (case fc39 => rfl); (case fk39 => rfl))
    (case a40 => k_is)
    (case d40 => refine' ⟨_, _, _, _, _, _, _, _, _, ?fl40, ?fc40, ?fk40⟩; (case fl40 => rfl); (case fc40 => rfl); (case fk40 => rfl))
    (case a41 => k_is)
    (case d41 => refine' ⟨_, _, _, _, _, _, _, _, _, ?fl41, ?fc41, ?fk41⟩; (case fl41 => rfl); (case fc41 => rfl); (case fk41 => rfl))
    (case a42 => k_is)
    (case d42 => refine' ⟨_, _, _, _, _, _, _, _, _, ?fl42, ?fc42, ?fk42⟩; (case fl42 => rfl); (case fc42 => rfl); (case fk42 => rfl))
    (case a43 => k_is)
    (case d43 => refine' ⟨_, _, _, _, _, _, _, _, _, ?fl43, ?fc43, ?fk43⟩; (case fl43 => rfl); (case fc43 => rfl); (case fk43 => rfl))
    (case a44 => k_is)
    (case d44 => refine' ⟨_, _, _, _, _, _, _, _, _, ?fl44, ?fc44, ?fk44⟩; (case fl44 => rfl); (case fc44 => rfl); (case fk44 => rfl))
    (case a45 => k_is)
    (case d45 => refine' ⟨_, _, _, _, _, _, _, _, _, ?fl45, ?fc45, ?fk45⟩; (case fl45 => rfl); (case fc45 => rfl); (case fk45 => rfl))
    (case n_setShots => k_is)
    (case n_noShot => k_is)
    (case n_noShots => k_is)
    (case n_noInst => k_is)
    (case n_outR => k_is)
    (case n_tooMany => k_is)
    (case n_noAlarm => k_is)
    (case n_mostShots => k_is)
    (case n_mostW => k_is)
    (case n_mostL => k_is)
    (case n_create => k_is)
    (case z_len => k_is)
    (case z_range => k_is)
    (case z_max => k_is)
    (case z_abs => k_is)
    (case z_sum => k_is)
    (case z_list => k_is)
    (case z_enumerate => k_is)
    (case z_zip => k_is)
    (case aC => k_is)
    (case a0 => k_is)
    (case i0 => k_is)
    (case d0 => refine' ⟨_, _, _, _, _, _, _, _, _, ?fl0, ?fc0, ?fk0⟩; (case fl0 => rfl); (case fc0 => rfl); (case fk0 => rfl))
    (case pg => k_is)
    (case hd => k_is)
    (case po => k_is)
    (case sa => k_is)
    (case mk => k_is)
    (case kc => k_is)
    (case nT => k_is)
    (case nA => k_is)
    (case nH => k_is)
    (case nW => k_is)
    (case aP => k_is)
    (case cP => refine' ⟨_, _, _, ?ul, ?uc, ?ud, ?uz, ?uv⟩; (case ul => rfl); (case uc => rfl); (case ud => rfl); (case uz => decide +kernel); (case uv => repeat (first | exact Paired.nil | refine Paired.cons ⟨_, rfl⟩ ?_)))
    (case aQ => k_is)
    (case TQ => refine' ⟨⟨_, _, ?tl1, ?tp1⟩, ?tw1⟩; (case tl1 => rfl); (case tp1 => repeat (first | exact Paired.nil | refine Paired.cons ⟨⟨_, rfl⟩, by decide +kernel, rfl⟩ ?_)); (case tw1 => first | rfl | decide +kernel))
    (case aH => k_is)
    (case TD => refine' ⟨⟨_, _, ?tl2, ?tp2⟩, ?tw2⟩; (case tl2 => rfl); (case tp2 => repeat (first | exact Paired.nil | refine Paired.cons ⟨⟨_, rfl⟩, by decide +kernel, rfl⟩ ?_)); (case tw2 => first | rfl | decide +kernel))
