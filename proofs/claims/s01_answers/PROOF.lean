import PyProof.Rows.All
import Wide.All
import OpenK.AllK
import Wide.FinOn
import Open.SpecLaws
import KE.OsGo
import HandS.ForSpec
import HandS.Comp
import HandS.Zip
import HandS.WideBits
import HandS.Conv
import HandS.TupLe
import HandS.Nested
import HandS.Lambda
import KE.DataMinKey
import KE.KLam
import KE.KNestM
import PySem.Challenge.RW_bakehours_s01_answers
set_option Elab.async false
set_option maxRecDepth 100000
set_option maxHeartbeats 4000000
/-! The mathematics, over the specification alone. -/
namespace Bk
open Sr98 SrCommon

/-! ### sums, bits -/
theorem sum_go : ∀ (l : List Nat) (a : Nat), l.foldl (· + ·) a = a + l.foldl (· + ·) 0
  | [], a => by simp
  | x :: r, a => by
    rw [List.foldl_cons, List.foldl_cons, sum_go r (a + x), sum_go r (0 + x)]
    omega
theorem sum_app (l r : List Nat) : sum (l ++ r) = sum l + sum r := by
  unfold sum
  rw [List.foldl_append, sum_go]
theorem sum_one (x : Nat) : sum [x] = x := by simp [sum]
theorem risen_zero (b : Bakery) (d : Dough) : risen b d 0 = 0 := rfl
theorem risen_succ (b : Bakery) (d : Dough) (t : Nat) : risen b d (t + 1) = risen b d t + rise b d t := by
  unfold risen
  rw [List.range_succ, List.map_append, sum_app]
  rw [show List.map (rise b d) [t] = [rise b d t] from rfl, sum_one]
theorem risen_mixed (b : Bakery) (d : Dough) : ∀ t, t ≤ d.mixedAt → risen b d t = 0
  | 0, _ => rfl
  | t + 1, h => by
    rw [risen_succ, risen_mixed b d t (by omega)]
    unfold rise
    rw [if_pos (.inl (by omega))]
theorem isCooled_bit (d : Dough) (t : Nat) : isCooled d t = d.cooled.testBit t := by
  unfold isCooled
  rw [Nat.testBit_eq_decide_div_mod_eq]
  exact Bool.beq_eq_decide_eq _ _
theorem maskOf_succ (f c : Nat) : maskOf f (c + 1) = maskOf f c + 2 ^ (f + c) := by
  unfold maskOf
  rw [List.range_succ, List.map_append, sum_app]
  rw [show List.map (fun k => 2 ^ (f + k)) [c] = [2 ^ (f + c)] from rfl, sum_one]
theorem maskOf_eq (f : Nat) : ∀ c, maskOf f c = (2 ^ c - 1) <<< f
  | 0 => by simp [maskOf, sum]
  | c + 1 => by
    rw [maskOf_succ, maskOf_eq f c, Nat.shiftLeft_eq, Nat.shiftLeft_eq, Nat.pow_add, Nat.pow_succ]
    have h : 0 < 2 ^ c := Nat.pow_pos (by decide)
    generalize 2 ^ c = x at h
    generalize 2 ^ f = y
    rw [Nat.mul_comm y x, ← Nat.add_mul]
    congr 1
    omega
theorem maskOf_bit (f c t : Nat) : (maskOf f c).testBit t = (decide (f ≤ t) && decide (t < f + c)) := by
  rw [maskOf_eq, Nat.testBit_shiftLeft, Nat.testBit_two_pow_sub_one]
  by_cases h : f ≤ t
  · simp only [ge_iff_le, h, decide_true, Bool.true_and]
    congr 1
    exact propext (by omega)
  · simp [h]
theorem cooling_bit (d : Dough) (f g t : Nat) : isCooled (withCooling d f g) t = (isCooled d t || (decide (f ≤ t) && decide (t < f + (g - f)))) := by
  rw [isCooled_bit, isCooled_bit]
  show (d.cooled ||| maskOf f (g - f)).testBit t = _
  rw [Nat.testBit_or, maskOf_bit]
theorem cooling_lt {d : Dough} {h f g : Nat} (hd : d.cooled < 2 ^ h) (hg : g ≤ h) : (withCooling d f g).cooled < 2 ^ h := by
  show d.cooled ||| maskOf f (g - f) < 2 ^ h
  refine Nat.or_lt_two_pow hd ?_
  rw [maskOf_eq]
  by_cases hf : f ≤ g
  · have h1 : (2 ^ (g - f) - 1) < 2 ^ (g - f) := Nat.sub_lt (Nat.pow_pos (by decide)) (by decide)
    rw [Nat.shiftLeft_eq]
    calc (2 ^ (g - f) - 1) * 2 ^ f < 2 ^ (g - f) * 2 ^ f := Nat.mul_lt_mul_of_pos_right h1 (Nat.pow_pos (by decide))
      _ = 2 ^ g := by rw [← Nat.pow_add]; congr 1; omega
      _ ≤ 2 ^ h := Nat.pow_le_pow_right (by decide) hg
  · rw [show g - f = 0 by omega]
    simp
    exact Nat.pow_pos (by decide)
/-- in which hours a dough is cooled, hour by hour -/
def cool (h : Nat) (d : Dough) : List Bool := (List.range h).map (isCooled d)
theorem cool_len (h : Nat) (d : Dough) : (cool h d).length = h := by simp [cool]
theorem cool_at {h : Nat} {d : Dough} {t : Nat} (ht : t < h) : (cool h d)[t]? = some (isCooled d t) := by
  simp [cool, ht]
theorem cool_set (h : Nat) (d : Dough) (f i : Nat) : (cool h (withCooling d f (f + i))).set (f + i) true = cool h (withCooling d f (f + (i + 1))) := by
  apply List.ext_getElem?
  intro t
  by_cases ht : t < h
  · rw [List.getElem?_set, cool_at ht, cool_at ht, cooling_bit, cooling_bit, cool_len]
    by_cases e : f + i = t
    · subst e
      rw [if_pos rfl, if_pos ht]
      congr 1
      simp
    · rw [if_neg e]
      congr 2
      by_cases h1 : f ≤ t
      · simp only [h1, decide_true, Bool.true_and]
        congr 1
        exact propext (by omega)
      · simp [h1]
  · rw [List.getElem?_eq_none (by rw [List.length_set, cool_len]; omega), List.getElem?_eq_none (by rw [cool_len]; omega)]
theorem cool_none (h : Nat) (d : Dough) (f : Nat) : cool h (withCooling d f (f + 0)) = cool h d := by
  apply List.map_congr_left
  intro t _
  rw [cooling_bit]
  simp
  intro h1 h2
  omega
theorem cool_zero (h : Nat) {d : Dough} (hd : d.cooled = 0) : cool h d = List.replicate h false := by
  apply List.ext_getElem?
  intro t
  by_cases ht : t < h
  · rw [cool_at ht, List.getElem?_replicate_of_lt ht, isCooled_bit, hd]
    simp
  · rw [List.getElem?_eq_none (by rw [cool_len]; omega), List.getElem?_eq_none (by rw [List.length_replicate]; omega)]
theorem cool_any {h : Nat} {d : Dough} (hd : d.cooled < 2 ^ h) : (cool h d).any (fun c => c) = !decide (d.cooled = 0) := by
  by_cases e : d.cooled = 0
  · rw [cool_zero h e, decide_eq_true e]
    simp
  · rw [decide_eq_false e]
    obtain ⟨t, ht⟩ := Nat.exists_testBit_of_ne_zero e
    have hth : t < h := by
      refine Decidable.byContradiction fun q => ?_
      have := Nat.testBit_lt_two_pow (x := d.cooled) (i := t) (Nat.lt_of_lt_of_le hd (Nat.pow_le_pow_right (by decide) (by omega)))
      rw [this] at ht
      cases ht
    rw [List.any_eq_true.mpr ⟨true, ?_, rfl⟩]
    · rfl
    · exact List.mem_map.mpr ⟨t, List.mem_range.mpr hth, by rw [isCooled_bit]; exact ht⟩
/-! ### windows -/
def winTimes (b : Bakery) (d : Dough) : List Nat := (List.range (hours b + 1)).filter (canBakeAt b d)
theorem window_none {b : Bakery} {d : Dough} (h : winTimes b d = []) : window b d = none := by
  unfold window
  rw [← List.head?_filter, show (List.range (hours b + 1)).filter (canBakeAt b d) = [] from h]
  rfl
theorem window_some {b : Bakery} {d : Dough} {x y : Nat} (h1 : (winTimes b d).head? = some x) (h2 : (winTimes b d).getLast? = some y) : window b d = some (x, y) := by
  unfold window
  rw [← List.head?_filter, ← List.head?_filter, List.filter_reverse, List.head?_reverse]
  rw [show (List.range (hours b + 1)).filter (canBakeAt b d) = winTimes b d from rfl, h1, h2]
  rfl
theorem window_iff {b : Bakery} {d : Dough} {w : Nat × Nat} (h : window b d = some w) : winTimes b d ≠ [] ∧ (winTimes b d).head? = some w.1 ∧ (winTimes b d).getLast? = some w.2 := by
  cases e : winTimes b d with
  | nil =>
    rw [window_none e] at h
    cases h
  | cons x r =>
    have h1 : (winTimes b d).head? = some x := by rw [e]; rfl
    have h2 : (winTimes b d).getLast? = some ((x :: r).getLast (by simp)) := by rw [e, List.getLast?_eq_some_getLast]
    rw [window_some h1 h2] at h
    cases h
    exact ⟨by simp, rfl, List.getLast?_eq_some_getLast _⟩
theorem winTimes_none {b : Bakery} {d : Dough} (h : window b d = none) : winTimes b d = [] := by
  cases e : winTimes b d with
  | nil => rfl
  | cons x r =>
    have h1 : (winTimes b d).head? = some x := by rw [e]; rfl
    have h2 : (winTimes b d).getLast? = some ((x :: r).getLast (by simp)) := by rw [e, List.getLast?_eq_some_getLast]
    rw [window_some h1 h2] at h
    cases h
/-- the times gone through from the mixing on -/
def winUp (b : Bakery) (d : Dough) (i : Nat) : List Nat := ((List.range i).map (d.mixedAt + ·)).filter (canBakeAt b d)
theorem winUp_succ (b : Bakery) (d : Dough) (i : Nat) : winUp b d (i + 1) = winUp b d i ++ (if canBakeAt b d (d.mixedAt + i) = true then [d.mixedAt + i] else []) := by
  unfold winUp
  rw [List.range_succ, List.map_append, List.filter_append]
  congr 1
  rw [show List.map (d.mixedAt + ·) [i] = [d.mixedAt + i] from rfl, List.filter_cons, List.filter_nil]
theorem before_mixed (b : Bakery) (d : Dough) : ∀ m, m ≤ d.mixedAt → (List.range m).filter (canBakeAt b d) = [] := fun m h => by
  rw [List.filter_eq_nil_iff]
  intro t ht
  have := List.mem_range.mp ht
  simp [canBakeAt]
  intro h1
  omega
theorem winUp_all {b : Bakery} {d : Dough} (h : d.mixedAt ≤ hours b) : winUp b d (hours b + 1 - d.mixedAt) = winTimes b d := by
  unfold winTimes winUp
  conv => rhs; rw [show hours b + 1 = d.mixedAt + (hours b + 1 - d.mixedAt) by omega, List.range_add, List.filter_append, before_mixed b d _ (Nat.le_refl _), List.nil_append]
/-! ### temperatures -/
def warmed (l : List Nat) (f g x : Nat) : List Nat := l.zipIdx.map fun y => if f ≤ y.2 ∧ y.2 < g then x else y.1
theorem warmed_len (l : List Nat) (f g x : Nat) : (warmed l f g x).length = l.length := by simp [warmed]
theorem warmed_at (l : List Nat) (f g x t : Nat) : (warmed l f g x)[t]? = l[t]?.map fun y => if f ≤ t ∧ t < g then x else y := by
  unfold warmed
  rw [List.getElem?_map, List.getElem?_zipIdx]
  cases l[t]? with
  | none => rfl
  | some y => simp
theorem warmed_none (l : List Nat) (f x : Nat) : warmed l f (f + 0) x = l := by
  apply List.ext_getElem?
  intro t
  rw [warmed_at]
  cases l[t]? with
  | none => rfl
  | some y =>
    show some (if _ then x else y) = some y
    rw [if_neg (by omega)]
theorem warmed_set (l : List Nat) (f i x : Nat) : (warmed l f (f + i) x).set (f + i) x = warmed l f (f + (i + 1)) x := by
  apply List.ext_getElem?
  intro t
  rw [List.getElem?_set, warmed_at, warmed_at, warmed_len]
  by_cases e : f + i = t
  · subst e
    rw [if_pos rfl]
    by_cases hl : f + i < l.length
    · rw [if_pos hl, List.getElem?_eq_getElem hl]
      show some x = some (if _ then x else _)
      rw [if_pos (by omega)]
    · rw [if_neg hl, List.getElem?_eq_none (by omega)]
      rfl
  · rw [if_neg e]
    congr 1
    funext y
    by_cases h1 : f ≤ t ∧ t < f + i
    · rw [if_pos h1, if_pos (by omega)]
    · rw [if_neg h1, if_neg (by omega)]
/-! ### the calls in their list -/
def flat1 : List (List Int) → List Int
  | [] => []
  | hd :: rows => hd ++ rows.flatMap fun r => (r.length : Int) :: r
theorem row_flat {l x s : List Int} (h : PyFlat.row l = some (x, s)) : l = ((x.length : Int) :: x) ++ s := by
  cases l with
  | nil => cases h
  | cons n r =>
    have h' : (if 0 ≤ n ∧ n.toNat ≤ r.length then some (r.take n.toNat, r.drop n.toNat) else none) = some (x, s) := h
    by_cases q : 0 ≤ n ∧ n.toNat ≤ r.length
    · rw [if_pos q] at h'
      cases h'
      have e : ((List.take n.toNat r).length : Int) = n := by
        rw [List.length_take, Nat.min_eq_left q.2]
        omega
      rw [e]
      simp
    · rw [if_neg q] at h'
      cases h'
theorem rows_flat : ∀ {k : Nat} {l : List Int} {xs : List (List Int)} {t : List Int}, PyFlat.rows k l = some (xs, t) → l = (xs.flatMap fun r => (r.length : Int) :: r) ++ t
  | 0, l, xs, t, h => by
    cases h
    rfl
  | k + 1, l, xs, t, h => by
    unfold PyFlat.rows at h
    split at h
    · cases h
    · rename_i x s e
      split at h
      · cases h
      · rename_i ys u e2
        cases h
        rw [row_flat e, rows_flat e2]
        simp
theorem call_flat {sh : Int → Option (Nat × Nat)} {l : List Int} {c : List (List Int)} {t : List Int} (h : PyFlat.call sh l = some (c, t)) : l = flat1 c ++ t := by
  cases l with
  | nil => cases h
  | cons p r =>
    have h' : (match sh p with
      | none => none
      | some (n, k) => if r.length < n then none else match PyFlat.rows k (r.drop n) with
        | none => none
        | some (xs, t) => some ((p :: r.take n) :: xs, t)) = some (c, t) := h
    cases e : sh p with
    | none =>
      rw [e] at h'
      cases h'
    | some nk =>
      rw [e] at h'
      obtain ⟨n, k⟩ := nk
      replace h' : (if r.length < n then none else match PyFlat.rows k (r.drop n) with
        | none => none
        | some (xs, t) => some ((p :: r.take n) :: xs, t)) = some (c, t) := h'
      by_cases hn : r.length < n
      · rw [if_pos hn] at h'
        cases h'
      · rw [if_neg hn] at h'
        cases e2 : PyFlat.rows k (r.drop n) with
        | none =>
          rw [e2] at h'
          cases h'
        | some xt =>
          rw [e2] at h'
          obtain ⟨xs, u⟩ := xt
          cases h'
          have e3 := rows_flat e2
          show p :: r = (p :: r.take n) ++ (xs.flatMap fun r => (r.length : Int) :: r) ++ _
          rw [List.append_assoc, ← e3, List.cons_append, List.take_append_drop]
theorem calls_flat {sh : Int → Option (Nat × Nat)} : ∀ {f : Nat} {l : List Int} {cs : List (List (List Int))}, PyFlat.calls sh f l = some cs → l = cs.flatMap flat1
  | _, [], cs, h => by
    unfold PyFlat.calls at h
    cases h
    rfl
  | 0, p :: r, cs, h => by
    unfold PyFlat.calls at h
    cases h
  | f + 1, p :: r, cs, h => by
    unfold PyFlat.calls at h
    split at h
    · cases h
    · rename_i c t e
      split at h
      · cases h
      · rename_i cs' e2
        cases h
        rw [call_flat e, calls_flat e2]
        rfl
theorem whole_id (c : List (List Int)) : PySr98.whole c = c := by
  unfold PySr98.whole
  split <;> rfl
theorem whole_map (cs : List (List (List Int))) : cs.map PySr98.whole = cs := by
  rw [List.map_congr_left (g := id) (fun c _ => whole_id c)]
  simp
/-- what «asked» says -/
theorem asked_is {l : List Int} (h : PySr98.answers_asked l = true) : ∃ cs, l = cs.flatMap flat1 ∧ PySr98.answers l = PyFlat.told (PyFlat.played Sr98Neutral.step Sr98Neutral.start cs) ∧
    cs.length ≤ 60 ∧ (∀ c ∈ cs, Sr98Neutral.asked1 c = true) ∧ (PySr98.answers l).length ≤ 10000000 := by
  unfold PySr98.answers_asked at h
  split at h
  · cases h
  · rename_i raw e
    simp only [Bool.and_eq_true] at h
    obtain ⟨⟨⟨⟨_, h1⟩, _⟩, h2⟩, h3⟩ := h
    refine ⟨raw, calls_flat e, ?_, of_decide_eq_true h1, ?_, of_decide_eq_true h3⟩
    · unfold PySr98.answers PySr98.calls
      rw [e]
      show PyFlat.told (PyFlat.played Sr98Neutral.step Sr98Neutral.start (raw.map PySr98.whole)) = _
      rw [whole_map]
    · rw [whole_map] at h2
      unfold Sr98Neutral.asked at h2
      simp only [Bool.and_eq_true] at h2
      exact List.all_eq_true.mp h2.2.2
/-- how many whole numbers each call has behind it, as the program's table has it -/
def wn : List Nat := [2, 2, 3, 3, 1, 3, 1, 1, 1, 2, 1, 0, 0, 0, 1, 3, 0]
theorem asked_call {c : List (List Int)} (h : Sr98Neutral.asked1 c = true) : ∃ p k : Nat, wn[p]? = some k ∧ (flat1 c)[0]? = some (p : Int) ∧
    ((p ≠ 10 ∧ (flat1 c).length = 1 + k) ∨ (p = 10 ∧ k = 1 ∧ ∃ r, c = [[10], r] ∧ r.length ≤ 70)) := by
  unfold Sr98Neutral.asked1 at h
  split at h
  · exact ⟨0, 2, rfl, rfl, .inl ⟨by decide, rfl⟩⟩
  · exact ⟨1, 2, rfl, rfl, .inl ⟨by decide, rfl⟩⟩
  · exact ⟨2, 3, rfl, rfl, .inl ⟨by decide, rfl⟩⟩
  · exact ⟨3, 3, rfl, rfl, .inl ⟨by decide, rfl⟩⟩
  · exact ⟨4, 1, rfl, rfl, .inl ⟨by decide, rfl⟩⟩
  · exact ⟨5, 3, rfl, rfl, .inl ⟨by decide, rfl⟩⟩
  · exact ⟨6, 1, rfl, rfl, .inl ⟨by decide, rfl⟩⟩
  · exact ⟨7, 1, rfl, rfl, .inl ⟨by decide, rfl⟩⟩
  · exact ⟨8, 1, rfl, rfl, .inl ⟨by decide, rfl⟩⟩
  · exact ⟨9, 2, rfl, rfl, .inl ⟨by decide, rfl⟩⟩
  · rename_i r
    unfold Sr98Neutral.isListArgument at h
    rw [Bool.and_eq_true] at h
    exact ⟨10, 1, rfl, rfl, .inr ⟨rfl, rfl, r, rfl, of_decide_eq_true h.2⟩⟩
  · exact ⟨11, 0, rfl, rfl, .inl ⟨by decide, rfl⟩⟩
  · exact ⟨12, 0, rfl, rfl, .inl ⟨by decide, rfl⟩⟩
  · exact ⟨13, 0, rfl, rfl, .inl ⟨by decide, rfl⟩⟩
  · exact ⟨14, 1, rfl, rfl, .inl ⟨by decide, rfl⟩⟩
  · exact ⟨15, 3, rfl, rfl, .inl ⟨by decide, rfl⟩⟩
  · exact ⟨16, 0, rfl, rfl, .inl ⟨by decide, rfl⟩⟩
  · cases h
theorem flat1_len {c : List (List Int)} (h : Sr98Neutral.asked1 c = true) : 1 ≤ (flat1 c).length ∧ (flat1 c).length ≤ 72 := by
  obtain ⟨p, k, hk, h0, h | ⟨_, _, r, rfl, hr⟩⟩ := asked_call h
  · have hk3 : k ≤ 3 := by
      have hm := List.mem_of_getElem? hk
      simp [wn] at hm
      omega
    omega
  · have e : (flat1 [[10], r]).length = 2 + r.length := by
      show ([10] ++ (((r.length : Int) :: r) ++ [])).length = _
      simp
      omega
    omega
theorem flat_take {cs : List (List (List Int))} {i : Nat} {c : List (List Int)} (h : cs[i]? = some c) : cs.flatMap flat1 = (cs.take i).flatMap flat1 ++ (flat1 c ++ (cs.drop (i + 1)).flatMap flat1) := by
  have hi := (List.getElem?_eq_some_iff.mp h).1
  have e := (List.getElem?_eq_some_iff.mp h).2
  conv => lhs; rw [← List.take_append_drop i cs, List.flatMap_append, List.drop_eq_getElem_cons hi, e, List.flatMap_cons]
theorem take_snoc {α : Type} {l : List α} {i : Nat} {x : α} (h : l[i]? = some x) : l.take (i + 1) = l.take i ++ [x] := by
  rw [List.take_add_one, h]
  rfl
end Bk
/-! The mathematics of orders, plans, sets and deadlines, over the specification alone. -/
namespace Bk
open Sr98 SrCommon

/-! ### one dough -/
def estart (b : Bakery) (i t : Nat) : Option Nat := match window b (doughAt b i) with
  | none => none
  | some w => if w.2 < max t w.1 ∨ hours b < max t w.1 + b.bakingTime then none else some (max t w.1)
theorem from_cons (b : Bakery) (i : Nat) (r : List Nat) (t : Nat) : startTimesFrom b (i :: r) t = match estart b i t with
    | none => none
    | some s => (startTimesFrom b r (s + b.bakingTime)).map (s :: ·) := by
  unfold estart
  rw [startTimesFrom]
  cases window b (doughAt b i) with
  | none => rfl
  | some w =>
    show (if _ then _ else _) = _
    by_cases h : w.2 < max t w.1 ∨ hours b < max t w.1 + b.bakingTime
    · simp only [if_pos h]
    · simp only [if_neg h]
theorem estart_ge {b : Bakery} {i t s : Nat} (h : estart b i t = some s) : t ≤ s ∧ s + b.bakingTime ≤ hours b := by
  unfold estart at h
  cases e : window b (doughAt b i) with
  | none =>
    rw [e] at h
    cases h
  | some w =>
    rw [e] at h
    by_cases q : w.2 < max t w.1 ∨ hours b < max t w.1 + b.bakingTime
    · simp only [if_pos q] at h
      cases h
    · simp only [if_neg q] at h
      cases h
      omega
/-! ### when an order is finished -/
def finT (b : Bakery) : List Nat → Nat → Option Nat
  | [], t => some t
  | i :: r, t => match estart b i t with
    | none => none
    | some s => finT b r (s + b.bakingTime)
theorem finT_cons (b : Bakery) (i : Nat) (r : List Nat) (t : Nat) : finT b (i :: r) t = match estart b i t with
    | none => none
    | some s => finT b r (s + b.bakingTime) := rfl
theorem finT_is (b : Bakery) : ∀ (o : List Nat) (t : Nat), (startTimesFrom b o t).map (fun l => (l.getLast?.map fun x => x + b.bakingTime).getD t) = finT b o t
  | [], t => rfl
  | i :: r, t => by
    rw [from_cons, finT_cons]
    cases estart b i t with
    | none => rfl
    | some s =>
      show ((startTimesFrom b r (s + b.bakingTime)).map (s :: ·)).map _ = finT b r (s + b.bakingTime)
      rw [← finT_is b r (s + b.bakingTime), Option.map_map]
      congr 1
      funext l
      show ((s :: l).getLast?.map fun x => x + b.bakingTime).getD t = _
      rw [List.getLast?_cons]
      cases l.getLast? with
      | none => rfl
      | some x => rfl
theorem finishedAt_is (b : Bakery) (o : List Nat) : finishedAt b o = finT b o 0 := by
  unfold finishedAt startTimes
  exact finT_is b o 0
theorem finT_ge (b : Bakery) : ∀ {o : List Nat} {t x : Nat}, finT b o t = some x → t + o.length * b.bakingTime ≤ x
  | [], t, x, h => by
    cases h
    simp
  | i :: r, t, x, h => by
    rw [finT_cons] at h
    cases e : estart b i t with
    | none =>
      rw [e] at h
      cases h
    | some s =>
      rw [e] at h
      have h1 := finT_ge b (o := r) h
      have h2 := estart_ge e
      rw [List.length_cons, Nat.add_mul]
      omega
theorem finT_le (b : Bakery) : ∀ {o : List Nat} {t x : Nat}, finT b o t = some x → t ≤ hours b → x ≤ hours b
  | [], t, x, h, ht => by
    cases h
    exact ht
  | i :: r, t, x, h, ht => by
    rw [finT_cons] at h
    cases e : estart b i t with
    | none =>
      rw [e] at h
      cases h
    | some s =>
      rw [e] at h
      exact finT_le b (o := r) h (estart_ge e).2
/-! ### the search -/
abbrev BSt := Option (List Nat) × Nat
def upd1 (b : Bakery) (free : Nat) (order : List Nat) (st : BSt) (o : List Nat) : BSt := match finT b o free with
  | none => st
  | some t => if t < st.2 then (some (order ++ o), t) else st
def tryO (b : Bakery) : Nat → List Nat → Nat → List Nat → BSt → BSt
  | 0, _, _, _, st => st
  | n + 1, order, free, rem, st => if st.2 ≤ free + rem.length * b.bakingTime then st else if rem = [] then (some order, free)
    else rem.foldl (fun st i => match estart b i free with
      | none => st
      | some s => tryO b n (order ++ [i]) (s + b.bakingTime) (rem.filter fun j => j != i) st) st
theorem filter_len {l : List Nat} {i n : Nat} (hn : l.Nodup) (hi : i ∈ l) (hl : l.length = n + 1) : (l.filter fun j => j != i).length = n := by
  have e := List.length_eq_countP_add_countP (fun j => j != i) (l := l)
  have e2 : l.countP (fun j => decide ¬ (j != i) = true) = l.count i := by
    unfold List.count
    congr 1
    funext j
    simp
    exact (Bool.beq_eq_decide_eq _ _).symm
  rw [e2, List.nodup_iff_count.mp hn |> fun f => Nat.le_antisymm (f i) (List.count_pos_iff.mpr hi)] at e
  rw [← List.countP_eq_length_filter]
  omega
theorem ordersOf_len : ∀ (n : Nat) (l o : List Nat), l.Nodup → l.length = n → o ∈ ordersOf n l → o.length = n
  | 0, l, o, _, _, h => by
    unfold ordersOf at h
    rw [List.mem_singleton.mp h]
    rfl
  | n + 1, l, o, hn, hl, h => by
    unfold ordersOf at h
    rw [if_neg (by intro q; rw [q] at hl; cases hl)] at h
    obtain ⟨i, hi, ho⟩ := List.mem_flatMap.mp h
    obtain ⟨o', ho', rfl⟩ := List.mem_map.mp ho
    rw [List.length_cons, ordersOf_len n _ o' (hn.filter _) (filter_len hn hi hl) ho']
theorem fold_noop {b : Bakery} {free : Nat} {order : List Nat} {st : BSt} : ∀ (L : List (List Nat)), (∀ o ∈ L, ∀ t, finT b o free = some t → st.2 ≤ t) → L.foldl (upd1 b free order) st = st
  | [], _ => rfl
  | o :: L, h => by
    have e : upd1 b free order st o = st := by
      unfold upd1
      cases q : finT b o free with
      | none => rfl
      | some t =>
        show (if _ then _ else _) = _
        rw [if_neg (by have := h o (List.mem_cons_self ..) t q; omega)]
    rw [List.foldl_cons, e]
    exact fold_noop L fun o' ho' => h o' (List.mem_cons_of_mem _ ho')
theorem foldl_cong {α β : Type} {f g : α → β → α} : ∀ (l : List β) (a : α), (∀ a, ∀ x ∈ l, f a x = g a x) → l.foldl f a = l.foldl g a
  | [], _, _ => rfl
  | x :: l, a, h => by
    rw [List.foldl_cons, List.foldl_cons, h a x (List.mem_cons_self ..)]
    exact foldl_cong l _ fun a y hy => h a y (List.mem_cons_of_mem _ hy)
theorem tryO_is (b : Bakery) : ∀ (n : Nat) (order : List Nat) (free : Nat) (rem : List Nat) (st : BSt), rem.Nodup → rem.length = n → tryO b (n + 1) order free rem st = (ordersOf n rem).foldl (upd1 b free order) st
  | n, order, free, rem, st, hn, hl => by
    rw [tryO]
    by_cases hp : st.2 ≤ free + rem.length * b.bakingTime
    · rw [if_pos hp]
      refine (fold_noop _ fun o ho t ht => ?_).symm
      have h1 := finT_ge b ht
      rw [ordersOf_len n rem o hn hl ho, ← hl] at h1
      omega
    · rw [if_neg hp]
      cases n with
      | zero =>
        have er : rem = [] := List.length_eq_zero_iff.mp hl
        subst er
        rw [if_pos rfl]
        show _ = upd1 b free order st []
        unfold upd1
        show _ = if free < st.2 then (some (order ++ []), free) else st
        rw [List.append_nil, if_pos (by simp at hp; exact hp)]
      | succ n =>
        have er : rem ≠ [] := by
          intro q
          rw [q] at hl
          cases hl
        rw [if_neg er]
        unfold ordersOf
        rw [if_neg er, List.foldl_flatMap]
        refine foldl_cong _ _ fun st i hi => ?_
        rw [List.foldl_map]
        cases e : estart b i free with
        | none =>
          have : ∀ (L : List (List Nat)), L.foldl (fun x y => upd1 b free order x (i :: y)) st = st := by
            intro L
            induction L with
            | nil => rfl
            | cons o L ih =>
              have e2 : upd1 b free order st (i :: o) = st := by
                unfold upd1
                rw [finT_cons, e]
              rw [List.foldl_cons, e2, ih]
          exact (this _).symm
        | some s =>
          show tryO b (n + 1) (order ++ [i]) (s + b.bakingTime) (rem.filter fun j => j != i) st = _
          rw [tryO_is b n (order ++ [i]) (s + b.bakingTime) _ st (hn.filter _) (filter_len hn hi hl)]
          refine foldl_cong _ _ fun st o _ => ?_
          unfold upd1
          rw [finT_cons, e]
          show (match finT b o (s + b.bakingTime) with
            | none => st
            | some t => if t < st.2 then (some (order ++ [i] ++ o), t) else st) = _
          rw [List.append_assoc]
          rfl
def bestSt (b : Bakery) : Option (List Nat × Nat) → BSt
  | none => (none, hours b + 1)
  | some x => (some x.1, x.2)
theorem plan_is (b : Bakery) (l : List Nat) (hn : l.Nodup) : plan b l = (tryO b (l.length + 1) [] 0 l (none, hours b + 1)).1 := by
  rw [tryO_is b l.length [] 0 l _ hn rfl]
  unfold plan
  have go : ∀ (L : List (List Nat)) (best : Option (List Nat × Nat)), (L.foldl (fun (best : Option (List Nat × Nat)) order => match finishedAt b order with
      | none => best
      | some t => match best with
        | none => some (order, t)
        | some x => if t < x.2 then some (order, t) else some x) best).map Prod.fst = (L.foldl (upd1 b 0 []) (bestSt b best)).1 := by
    intro L
    induction L with
    | nil =>
      intro best
      cases best <;> rfl
    | cons o L ih =>
      intro best
      rw [List.foldl_cons, List.foldl_cons, ih]
      congr 2
      rw [finishedAt_is]
      unfold upd1
      cases e : finT b o 0 with
      | none => rfl
      | some t =>
        have ht := finT_le b e (Nat.zero_le _)
        cases best with
        | none =>
          show (some o, t) = (if t < hours b + 1 then (some ([] ++ o), t) else _)
          rw [if_pos (by omega), List.nil_append]
        | some x =>
          show bestSt b (if t < x.2 then some (o, t) else some x) = (if t < x.2 then (some ([] ++ o), t) else (some x.1, x.2))
          by_cases q : t < x.2
          · rw [if_pos q, if_pos q, List.nil_append]
            rfl
          · rw [if_neg q, if_neg q]
            rfl
  exact go _ none
/-! ### sets -/
theorem bit_is (s i : Nat) : (s / 2 ^ i % 2 == 1) = s.testBit i := by
  rw [Nat.testBit_eq_decide_div_mod_eq]
  exact Bool.beq_eq_decide_eq _ _
theorem mask_upto {n s i : Nat} (hs : s / 2 ^ i = 0) (hi : i ≤ n) : maskMembers n s = maskMembers i s := by
  obtain ⟨k, rfl⟩ := Nat.le.dest hi
  unfold maskMembers
  rw [List.range_add, List.filter_append]
  suffices z : List.filter (fun i => s / 2 ^ i % 2 == 1) (List.map (fun x => i + x) (List.range k)) = [] by rw [z, List.append_nil]
  rw [List.filter_eq_nil_iff]
  intro x hx
  obtain ⟨k, _, rfl⟩ := List.mem_map.mp hx
  have e : s / 2 ^ (i + k) = 0 := by rw [Nat.pow_add, ← Nat.div_div_eq_div_mul, hs, Nat.zero_div]
  rw [e]
  decide
theorem mask_succ (i s : Nat) : maskMembers (i + 1) s = maskMembers i s ++ (if s / 2 ^ i % 2 = 1 then [i] else []) := by
  unfold maskMembers
  rw [List.range_succ, List.filter_append]
  congr 1
  rw [List.filter_cons, List.filter_nil]
  by_cases h : s / 2 ^ i % 2 = 1
  · rw [if_pos h, if_pos (by rw [h]; rfl)]
  · rw [if_neg h, if_neg (by simpa using h)]
theorem mask_nodup (n s : Nat) : (maskMembers n s).Nodup := (List.nodup_range).filter _
theorem mask_lt {n s x : Nat} (h : x ∈ maskMembers n s) : x < n := List.mem_range.mp (List.mem_filter.mp h).1
def bestSet (b : Bakery) (k : Nat) : List Nat := (List.range k).foldl (fun best set =>
  let doughs := maskMembers b.doughs.length set
  if best.length < doughs.length ∧ (plan b doughs).isSome = true then doughs else best) []
theorem bestSet_succ (b : Bakery) (k : Nat) : bestSet b (k + 1) = if (bestSet b k).length < (maskMembers b.doughs.length k).length ∧ (plan b (maskMembers b.doughs.length k)).isSome = true then maskMembers b.doughs.length k else bestSet b k := by
  unfold bestSet
  rw [List.range_succ, List.foldl_append]
  rfl
theorem bestSet_mask (b : Bakery) : ∀ k, bestSet b k = [] ∨ ∃ s, s < k ∧ bestSet b k = maskMembers b.doughs.length s
  | 0 => .inl rfl
  | k + 1 => by
    rw [bestSet_succ]
    split
    · exact .inr ⟨k, by omega, rfl⟩
    · rcases bestSet_mask b k with h | ⟨s, hs, h⟩
      · exact .inl h
      · exact .inr ⟨s, by omega, h⟩
theorem bestSet_nodup (b : Bakery) (k : Nat) : (bestSet b k).Nodup ∧ ∀ x ∈ bestSet b k, x < b.doughs.length := by
  rcases bestSet_mask b k with h | ⟨s, _, h⟩
  · rw [h]
    exact ⟨by simp, by simp⟩
  · rw [h]
    exact ⟨mask_nodup _ _, fun x hx => mask_lt hx⟩
end Bk
/-! The earliest deadline; some lists. -/
namespace Bk
open Sr98 SrCommon

def hasWin (b : Bakery) (i : Nat) : Bool := (window b (doughAt b i)).isSome
def wBeg (b : Bakery) (i : Nat) : Nat := (windowOrLate b i).1
def wEnd (b : Bakery) (i : Nat) : Nat := (windowOrLate b i).2
theorem win_of {b : Bakery} {i : Nat} (h : hasWin b i = true) : window b (doughAt b i) = some (wBeg b i, wEnd b i) := by
  unfold hasWin at h
  unfold wBeg wEnd windowOrLate
  cases e : window b (doughAt b i) with
  | none =>
    rw [e] at h
    cases h
  | some w => rfl
theorem win_no {b : Bakery} {i : Nat} (h : hasWin b i = false) : window b (doughAt b i) = none ∧ wBeg b i = 10000 ∧ wEnd b i = 10000 := by
  unfold hasWin at h
  unfold wBeg wEnd windowOrLate
  cases e : window b (doughAt b i) with
  | none => exact ⟨rfl, rfl, rfl⟩
  | some w =>
    rw [e] at h
    cases h
theorem win_le {b : Bakery} {i : Nat} (h : hasWin b i = true) : wBeg b i ≤ hours b := by
  obtain ⟨_, h1, _⟩ := window_iff (win_of h)
  have hm := List.mem_of_head? h1
  have := List.mem_range.mp (List.mem_filter.mp hm).1
  show wBeg b i ≤ hours b
  have e : (wBeg b i, wEnd b i).1 = wBeg b i := rfl
  omega
/-! ### the smallest -/
def best1 (bt : Nat → Nat → Bool) : Nat → Nat
  | 0 => 0
  | k + 1 => if bt (k + 1) (best1 bt k) then k + 1 else best1 bt k
theorem best1_le (bt : Nat → Nat → Bool) : ∀ k, best1 bt k ≤ k
  | 0 => Nat.le_refl _
  | k + 1 => by
    unfold best1
    have := best1_le bt k
    split <;> omega
def sbStep (key : Nat → Nat) (best : Option Nat) (i : Nat) : Option Nat := match best with
  | none => some i
  | some j => if key i < key j then some i else some j
theorem smallest_take (key : Nat → Nat) (l : List Nat) (bt : Nat → Nat → Bool) (hbt : ∀ i j x y, l[i]? = some x → l[j]? = some y → j < i → bt i j = decide (key x < key y)) :
    ∀ k, k < l.length → (l.take (k + 1)).foldl (sbStep key) none = l[best1 bt k]?
  | 0, hk => by
    cases l with
    | nil => cases hk
    | cons x r => rfl
  | k + 1, hk => by
    have ih := smallest_take key l bt hbt k (by omega)
    have h1 := best1_le bt k
    rw [List.take_add_one, List.foldl_append, ih, List.getElem?_eq_getElem hk, List.getElem?_eq_getElem (show best1 bt k < l.length by omega)]
    show (if key l[k + 1] < key l[best1 bt k] then some l[k + 1] else some l[best1 bt k]) = _
    have e := hbt (k + 1) (best1 bt k) _ _ (List.getElem?_eq_getElem hk) (List.getElem?_eq_getElem (show best1 bt k < l.length by omega)) (by omega)
    rw [best1, e]
    by_cases q : key l[k + 1] < key l[best1 bt k]
    · rw [if_pos q, decide_eq_true q, if_pos rfl, List.getElem?_eq_getElem hk]
    · rw [if_neg q, decide_eq_false q, if_neg Bool.false_ne_true, List.getElem?_eq_getElem (show best1 bt k < l.length by omega)]
theorem smallestBy_is (key : Nat → Nat) (l : List Nat) : smallestBy key l = (l.foldl (sbStep key) none).getD 0 := rfl
theorem smallest_best (key : Nat → Nat) (l : List Nat) (bt : Nat → Nat → Bool) (hbt : ∀ i j x y, l[i]? = some x → l[j]? = some y → j < i → bt i j = decide (key x < key y)) (hl : l ≠ []) : l[best1 bt (l.length - 1)]? = some (smallestBy key l) := by
  have h0 : 0 < l.length := List.length_pos_iff.mpr hl
  have e := smallest_take key l bt hbt (l.length - 1) (by omega)
  rw [show l.length - 1 + 1 = l.length by omega, List.take_length] at e
  rw [smallestBy_is, e, List.getElem?_eq_getElem (by have := best1_le bt (l.length - 1); omega)]
  rfl
theorem smallest_mem (key : Nat → Nat) {l : List Nat} (hl : l ≠ []) : smallestBy key l ∈ l := by
  have hbt : ∀ (i j x y : Nat), l[i]? = some x → l[j]? = some y → j < i → (fun i j => decide (key (l[i]?.getD 0) < key (l[j]?.getD 0))) i j = decide (key x < key y) := fun i j x y h1 h2 _ => by
    show decide (key (l[i]?.getD 0) < key (l[j]?.getD 0)) = _
    rw [h1, h2]
    rfl
  exact List.mem_of_getElem? (smallest_best key l _ hbt hl)
theorem smallest_same (key : Nat → Nat) (i : Nat) (c : Nat) : ∀ (r : List Nat), key i = c → (∀ x ∈ r, key x = c) → r.foldl (sbStep key) (some i) = some i
  | [], _, _ => rfl
  | x :: r, h, hr => by
    rw [List.foldl_cons]
    have e : sbStep key (some i) x = some i := by
      show (if key x < key i then some x else some i) = some i
      rw [if_neg (by rw [h, hr x (List.mem_cons_self ..)]; omega)]
    rw [e]
    exact smallest_same key i c r h fun y hy => hr y (List.mem_cons_of_mem _ hy)
theorem foldl_min : ∀ (l : List Nat) (a m : Nat), (∀ x ∈ l, m ≤ x) → m ≤ a → (m ∈ l ∨ m = a) → l.foldl min a = m
  | [], a, m, _, _, h => by
    rcases h with h | h
    · cases h
    · exact h.symm
  | x :: l, a, m, h1, h2, h3 => by
    rw [List.foldl_cons]
    have hx := h1 x (List.mem_cons_self ..)
    refine foldl_min l (min a x) m (fun y hy => h1 y (List.mem_cons_of_mem _ hy)) (by omega) ?_
    rcases h3 with h3 | h3
    · rcases List.mem_cons.mp h3 with h3 | h3
      · exact .inr (by omega)
      · exact .inl h3
    · exact .inr (by omega)
/-! ### always the earliest deadline -/
def begun (b : Bakery) (rem : List Nat) (t : Nat) : List Nat := rem.filter fun i => decide (wBeg b i ≤ t)
theorem ed_nil (b : Bakery) (n t : Nat) : earliestDeadlineFrom b n [] t = [] := by
  cases n with
  | zero => rfl
  | succ n =>
    rw [earliestDeadlineFrom]
    exact if_pos rfl
theorem ed_jump {b : Bakery} {rem : List Nat} {t : Nat} (n : Nat) (h : rem ≠ []) (hb : begun b rem t = []) : earliestDeadlineFrom b (n + 1) rem t = earliestDeadlineFrom b n rem ((rem.map (wBeg b)).foldl min 10000) := by
  rw [earliestDeadlineFrom]
  exact (if_neg h).trans (if_pos hb)
theorem ed_pick {b : Bakery} {rem : List Nat} {t : Nat} (n : Nat) (hb : begun b rem t ≠ []) : earliestDeadlineFrom b (n + 1) rem t = smallestBy (wEnd b) (begun b rem t) :: earliestDeadlineFrom b n (rem.filter fun j => j != smallestBy (wEnd b) (begun b rem t)) (t + b.bakingTime) := by
  rw [earliestDeadlineFrom]
  exact (if_neg (fun q => hb (by rw [q]; rfl))).trans (if_neg hb)
theorem ed_late (b : Bakery) : ∀ (n : Nat) (rem : List Nat) (t : Nat), rem.Nodup → (∀ i ∈ rem, hasWin b i = false) → 10000 ≤ t → rem.length ≤ n → earliestDeadlineFrom b n rem t = rem
  | _, [], _, _, _, _, _ => ed_nil ..
  | 0, i :: r, t, _, _, _, hn => by simp at hn
  | n + 1, i :: r, t, nd, hw, ht, hn => by
    have eb : begun b (i :: r) t = i :: r := by
      unfold begun
      rw [List.filter_eq_self]
      intro x hx
      rw [(win_no (hw x hx)).2.1]
      exact decide_eq_true ht
    have es : smallestBy (wEnd b) (i :: r) = i := by
      rw [smallestBy_is, List.foldl_cons]
      show (r.foldl (sbStep (wEnd b)) (some i)).getD 0 = i
      rw [smallest_same (wEnd b) i 10000 r (win_no (hw i (List.mem_cons_self ..))).2.2 fun x hx => (win_no (hw x (List.mem_cons_of_mem _ hx))).2.2]
      rfl
    have nd2 := List.nodup_cons.mp nd
    rw [ed_pick n (by rw [eb]; simp), eb, es]
    have ef : (i :: r).filter (fun j => j != i) = r := by
      rw [List.filter_cons, if_neg (by simp), List.filter_eq_self]
      intro x hx
      simp
      intro q
      exact nd2.1 (by rw [← q]; exact hx)
    rw [ef, ed_late b n r _ nd2.2 (fun x hx => hw x (List.mem_cons_of_mem _ hx)) (by omega) (by simpa using hn)]
theorem ed_none {b : Bakery} {n : Nat} {rem : List Nat} {t : Nat} (nd : rem.Nodup) (hw : ∀ i ∈ rem, hasWin b i = false) (ht : t < 10000) (hn : rem.length + 1 ≤ n) : earliestDeadlineFrom b n rem t = rem := by
  by_cases h0 : rem = []
  · rw [h0, ed_nil]
  · obtain ⟨m, rfl⟩ : ∃ m, n = m + 1 := ⟨n - 1, by omega⟩
    have eb : begun b rem t = [] := by
      unfold begun
      rw [List.filter_eq_nil_iff]
      intro x hx
      rw [(win_no (hw x hx)).2.1]
      simp
      omega
    rw [ed_jump m h0 eb]
    have em : (rem.map (wBeg b)).foldl min 10000 = 10000 := foldl_min _ _ _ (fun x hx => by
      obtain ⟨i, hi, rfl⟩ := List.mem_map.mp hx
      rw [(win_no (hw i hi)).2.1]
      exact Nat.le_refl _) (Nat.le_refl _) (.inr rfl)
    rw [em]
    exact ed_late b m rem _ nd hw (Nat.le_refl _) (by omega)
/-! ### the same, over the doughs that have a window -/
def wins (b : Bakery) (rem : List Nat) : List Nat := rem.filter (hasWin b)
def nowins (b : Bakery) (rem : List Nat) : List Nat := rem.filter fun i => !hasWin b i
theorem begun_wins {b : Bakery} {rem : List Nat} {t : Nat} (ht : t < 10000) : begun b rem t = begun b (wins b rem) t := by
  unfold begun wins
  rw [List.filter_filter]
  refine List.filter_congr fun x _ => ?_
  cases h : hasWin b x with
  | true => simp
  | false =>
    rw [(win_no h).2.1]
    simp
    omega
theorem split_len (b : Bakery) (rem : List Nat) : (wins b rem).length + (nowins b rem).length = rem.length := by
  unfold wins nowins
  induction rem with
  | nil => rfl
  | cons x r ih =>
    rw [List.filter_cons, List.filter_cons]
    cases hasWin b x with
    | true =>
      rw [if_pos rfl, if_neg (by simp), List.length_cons, List.length_cons]
      omega
    | false =>
      rw [if_neg (by simp), if_pos (show (!false) = true from rfl), List.length_cons, List.length_cons]
      omega
theorem wins_nil {b : Bakery} {rem : List Nat} (h : wins b rem = []) : nowins b rem = rem := by
  unfold wins at h
  unfold nowins
  rw [List.filter_eq_nil_iff] at h
  rw [List.filter_eq_self]
  intro x hx
  have := h x hx
  cases q : hasWin b x with
  | true => exact absurd q this
  | false => rfl
theorem wins_drop (b : Bakery) (rem : List Nat) (i : Nat) : wins b (rem.filter fun j => j != i) = (wins b rem).filter fun j => j != i := by
  unfold wins
  rw [List.filter_filter, List.filter_filter]
  refine List.filter_congr fun x _ => Bool.and_comm _ _
theorem nowins_drop {b : Bakery} {rem : List Nat} {i : Nat} (h : hasWin b i = true) : nowins b (rem.filter fun j => j != i) = nowins b rem := by
  unfold nowins
  rw [List.filter_filter]
  refine List.filter_congr fun x _ => ?_
  by_cases e : x = i
  · subst e
    rw [h]
    rfl
  · have : (x != i) = true := by simp [e]
    rw [this, Bool.and_true]
/-- where the loop of the deadlines stands: n steps are left of the specification's -/
structure EdAt (b : Bakery) (n : Nat) (order rem : List Nat) (t : Nat) : Prop where
  eq : earliestDeadline b = order ++ earliestDeadlineFrom b n rem t
  nd : rem.Nodup
  asc : rem.Pairwise (· < ·)
  lt : ∀ i ∈ rem, i < b.doughs.length
  sum : order.length + rem.length = b.doughs.length
  time : t ≤ 36 + 9 * order.length
  steps : 2 * (wins b rem).length + (nowins b rem).length + 1 ≤ n ∨ (begun b (wins b rem) t ≠ [] ∧ 2 * (wins b rem).length + (nowins b rem).length ≤ n)
  rest : nowins b rem = nowins b (allDoughs b)
theorem EdAt.start (b : Bakery) : EdAt b (2 * b.doughs.length + 1) [] (allDoughs b) 0 := by
  refine ⟨rfl, List.nodup_range, List.pairwise_lt_range, fun i hi => List.mem_range.mp hi, by simp [allDoughs], by omega, .inl ?_, rfl⟩
  have := split_len b (allDoughs b)
  have e : (allDoughs b).length = b.doughs.length := by simp [allDoughs]
  omega
section
variable {b : Bakery} {n t : Nat} {order rem : List Nat} (hp : b.bakingTime ≤ 9) (hh : hours b ≤ 36) (h6 : b.doughs.length ≤ 6)
include h6
theorem EdAt.small (E : EdAt b n order rem t) : t < 10000 := by
  have h1 := E.time
  have h2 := E.sum
  omega
theorem EdAt.last (E : EdAt b n order rem t) (h : wins b rem = []) : earliestDeadline b = order ++ nowins b (allDoughs b) := by
  have e := wins_nil h
  rw [E.eq, ← E.rest, e]
  congr 1
  refine ed_none E.nd (fun i hi => ?_) (E.small h6) ?_
  · have q : i ∈ nowins b rem := by rw [e]; exact hi
    have := (List.mem_filter.mp q).2
    cases z : hasWin b i with
    | true =>
      rw [z] at this
      cases this
    | false => rfl
  · rcases E.steps with s | ⟨s, _⟩
    · rw [e, h] at s
      simpa using s
    · rw [h] at s
      exact absurd rfl s
include hh in
theorem EdAt.jump (E : EdAt b n order rem t) (h : wins b rem ≠ []) (hb : begun b (wins b rem) t = []) {m : Nat} (hm : m ∈ (wins b rem).map (wBeg b)) (hle : ∀ y ∈ (wins b rem).map (wBeg b), m ≤ y) : 0 < n ∧ EdAt b (n - 1) order rem m := by
  have ht := E.small h6
  have hr : rem ≠ [] := fun q => h (by rw [q]; rfl)
  rcases E.steps with s | ⟨s, _⟩
  · refine ⟨by omega, ?_⟩
    have hm36 : m ≤ 36 := by
      obtain ⟨i, hi, rfl⟩ := List.mem_map.mp hm
      have := win_le (List.mem_filter.mp hi).2
      omega
    have em : (rem.map (wBeg b)).foldl min 10000 = m := foldl_min _ _ _ (fun x hx => by
      obtain ⟨i, hi, rfl⟩ := List.mem_map.mp hx
      cases q : hasWin b i with
      | true => exact hle _ (List.mem_map.mpr ⟨i, List.mem_filter.mpr ⟨hi, q⟩, rfl⟩)
      | false =>
        rw [(win_no q).2.1]
        omega) (by omega) (.inl (by
      obtain ⟨i, hi, rfl⟩ := List.mem_map.mp hm
      exact List.mem_map.mpr ⟨i, (List.mem_filter.mp hi).1, rfl⟩))
    refine ⟨?_, E.nd, E.asc, E.lt, E.sum, by omega, .inr ⟨?_, by omega⟩, E.rest⟩
    · rw [E.eq]
      congr 1
      obtain ⟨k, rfl⟩ : ∃ k, n = k + 1 := ⟨n - 1, by omega⟩
      rw [ed_jump k hr (by rw [begun_wins ht]; exact hb), em]
      rfl
    · intro q
      obtain ⟨i, hi, e⟩ := List.mem_map.mp hm
      have : i ∈ begun b (wins b rem) m := List.mem_filter.mpr ⟨hi, decide_eq_true (by omega)⟩
      rw [q] at this
      cases this
  · exact absurd hb s
include hp in
theorem EdAt.pick (E : EdAt b n order rem t) (hb : begun b (wins b rem) t ≠ []) : 0 < n ∧ smallestBy (wEnd b) (begun b (wins b rem) t) ∈ wins b rem ∧
    EdAt b (n - 1) (order ++ [smallestBy (wEnd b) (begun b (wins b rem) t)]) (rem.filter fun j => j != smallestBy (wEnd b) (begun b (wins b rem) t)) (t + b.bakingTime) := by
  have ht := E.small h6
  have hm : smallestBy (wEnd b) (begun b (wins b rem) t) ∈ wins b rem := (List.mem_filter.mp (smallest_mem (wEnd b) hb)).1
  generalize ei : smallestBy (wEnd b) (begun b (wins b rem) t) = i at hm ⊢
  have hi := List.mem_filter.mp hm
  have hl1 : 1 ≤ (wins b rem).length := List.length_pos_iff.mpr (List.ne_nil_of_mem hm)
  have hn : 0 < n := by
    rcases E.steps with s | ⟨_, s⟩ <;> omega
  have ndw : (wins b rem).Nodup := E.nd.filter _
  have lw := filter_len (n := (wins b rem).length - 1) ndw hm (by omega)
  have lr : 1 ≤ rem.length := List.length_pos_iff.mpr (List.ne_nil_of_mem hi.1)
  have lr2 := filter_len (n := rem.length - 1) E.nd hi.1 (by omega)
  have hs := E.sum
  have htm := E.time
  refine ⟨hn, hm, ?_, E.nd.filter _, E.asc.filter _, fun j hj => E.lt j (List.mem_filter.mp hj).1, ?_, ?_, .inl ?_, ?_⟩
  · rw [E.eq, List.append_assoc]
    congr 1
    obtain ⟨k, rfl⟩ : ∃ k, n = k + 1 := ⟨n - 1, by omega⟩
    rw [ed_pick k (by rw [begun_wins ht]; exact hb), begun_wins ht, ei]
    rfl
  · rw [List.length_append, lr2]
    show order.length + 1 + _ = _
    omega
  · rw [List.length_append]
    show _ ≤ 36 + 9 * (order.length + 1)
    omega
  · rw [wins_drop, lw, nowins_drop hi.2]
    rcases E.steps with s | ⟨_, s⟩ <;> omega
  · rw [nowins_drop hi.2]
    exact E.rest
end
/-! ### hours that are cooled -/
theorem count_cool (h : Nat) (d : Dough) : (cool h d).countP (fun c => c) = ((List.range h).filter (isCooled d)).length := by
  unfold cool
  rw [List.countP_map, List.countP_eq_length_filter]
  rfl
end Bk
/-! What a plan is worth; where a deadline's order lies. -/
namespace Bk
open Sr98 SrCommon
theorem ordersOf_mem : ∀ (n : Nat) (l o : List Nat), o ∈ ordersOf n l → ∀ x ∈ o, x ∈ l
  | 0, l, o, h, x, hx => by
    unfold ordersOf at h
    rw [List.mem_singleton.mp h] at hx
    cases hx
  | n + 1, l, o, h, x, hx => by
    unfold ordersOf at h
    by_cases hl : l = []
    · rw [if_pos hl] at h
      rw [List.mem_singleton.mp h] at hx
      cases hx
    · rw [if_neg hl] at h
      obtain ⟨i, hi, ho⟩ := List.mem_flatMap.mp h
      obtain ⟨o', ho', rfl⟩ := List.mem_map.mp ho
      rcases List.mem_cons.mp hx with rfl | hx
      · exact hi
      · exact (List.mem_filter.mp (ordersOf_mem n _ o' ho' x hx)).1
def planStep (b : Bakery) (best : Option (List Nat × Nat)) (order : List Nat) : Option (List Nat × Nat) := match finishedAt b order with
  | none => best
  | some t => match best with
    | none => some (order, t)
    | some x => if t < x.2 then some (order, t) else some x
theorem planStep_in {b : Bakery} {A : List (List Nat)} : ∀ (L : List (List Nat)) (best : Option (List Nat × Nat)), (∀ o ∈ L, o ∈ A) → (∀ x, best = some x → x.1 ∈ A ∧ finishedAt b x.1 = some x.2) → ∀ x, L.foldl (planStep b) best = some x → x.1 ∈ A ∧ finishedAt b x.1 = some x.2
  | [], best, _, h, x, e => h x e
  | o :: L, best, hL, h, x, e => by
    rw [List.foldl_cons] at e
    refine planStep_in L _ (fun o' ho' => hL o' (List.mem_cons_of_mem _ ho')) (fun y hy => ?_) x e
    unfold planStep at hy
    cases q : finishedAt b o with
    | none =>
      rw [q] at hy
      exact h y hy
    | some t =>
      rw [q] at hy
      cases best with
      | none =>
        cases hy
        exact ⟨hL o (List.mem_cons_self ..), q⟩
      | some z =>
        replace hy : (if t < z.2 then some (o, t) else some z) = some y := hy
        by_cases hz : t < z.2
        · rw [if_pos hz] at hy
          cases hy
          exact ⟨hL o (List.mem_cons_self ..), q⟩
        · rw [if_neg hz] at hy
          cases hy
          exact h _ rfl
theorem plan_some {b : Bakery} {l o : List Nat} (hn : l.Nodup) (h : plan b l = some o) : (∀ x ∈ o, x ∈ l) ∧ o.length = l.length ∧ ∃ T, startTimesFrom b o 0 = some T ∧ startTimes b o = some T ∧ finishedAt b o = some ((T.getLast?.map fun t => t + b.bakingTime).getD 0) := by
  have e : plan b l = ((ordersOf l.length l).foldl (planStep b) none).map Prod.fst := rfl
  rw [e] at h
  cases q : (ordersOf l.length l).foldl (planStep b) none with
  | none =>
    rw [q] at h
    cases h
  | some x =>
    rw [q] at h
    cases h
    obtain ⟨h1, h2⟩ := planStep_in (A := ordersOf l.length l) _ none (fun o ho => ho) (fun x e => by cases e) x q
    refine ⟨ordersOf_mem _ _ _ h1, ordersOf_len _ _ _ hn rfl h1, ?_⟩
    unfold finishedAt at h2
    cases z : startTimes b x.1 with
    | none =>
      rw [z] at h2
      cases h2
    | some T =>
      refine ⟨T, z, rfl, ?_⟩
      unfold finishedAt
      rw [z]
      rfl
theorem bestSet_plan (b : Bakery) : ∀ k, (plan b (bestSet b k)).isSome = true
  | 0 => rfl
  | k + 1 => by
    rw [bestSet_succ]
    split
    · rename_i h
      exact h.2
    · exact bestSet_plan b k
theorem largest_plan (b : Bakery) : ∃ o, plan b (largestSet b) = some o := Option.isSome_iff_exists.mp (bestSet_plan b (2 ^ b.doughs.length))
theorem largest_ok (b : Bakery) : (largestSet b).Nodup ∧ (∀ x ∈ largestSet b, x < b.doughs.length) ∧ (largestSet b).length ≤ b.doughs.length := by
  obtain ⟨h1, h2⟩ := bestSet_nodup b (2 ^ b.doughs.length)
  refine ⟨h1, h2, ?_⟩
  rcases bestSet_mask b (2 ^ b.doughs.length) with h | ⟨s, _, h⟩
  · show (bestSet b (2 ^ b.doughs.length)).length ≤ _
    rw [h]
    exact Nat.zero_le _
  · show (bestSet b (2 ^ b.doughs.length)).length ≤ _
    rw [h]
    unfold maskMembers
    exact Nat.le_trans (List.length_filter_le _ _) (by rw [List.length_range]; exact Nat.le_refl _)
/-! ### the order by the earliest deadline -/
theorem ed_in (b : Bakery) : ∀ (n : Nat) (rem : List Nat) (t : Nat), (∀ x ∈ earliestDeadlineFrom b n rem t, x ∈ rem) ∧ (earliestDeadlineFrom b n rem t).length ≤ rem.length
  | 0, rem, t => ⟨fun x hx => (nomatch hx), Nat.zero_le _⟩
  | n + 1, rem, t => by
    by_cases hr : rem = []
    · rw [hr, ed_nil]
      exact ⟨fun x hx => hx, Nat.le_refl _⟩
    · by_cases hb : begun b rem t = []
      · rw [ed_jump n hr hb]
        exact ed_in b n rem _
      · rw [ed_pick n hb]
        have hm : smallestBy (wEnd b) (begun b rem t) ∈ rem := (List.mem_filter.mp (smallest_mem (wEnd b) hb)).1
        obtain ⟨h1, h2⟩ := ed_in b n (rem.filter fun j => j != smallestBy (wEnd b) (begun b rem t)) (t + b.bakingTime)
        refine ⟨fun x hx => ?_, ?_⟩
        · rcases List.mem_cons.mp hx with rfl | hx
          · exact hm
          · exact (List.mem_filter.mp (h1 x hx)).1
        · rw [List.length_cons]
          have : (rem.filter fun j => j != smallestBy (wEnd b) (begun b rem t)).length < rem.length := List.length_filter_lt_length_iff_exists.mpr ⟨_, hm, by simp⟩
          omega
theorem ed_ok (b : Bakery) : (∀ x ∈ earliestDeadline b, x < b.doughs.length) ∧ (earliestDeadline b).length ≤ b.doughs.length := by
  obtain ⟨h1, h2⟩ := ed_in b (2 * b.doughs.length + 1) (allDoughs b) 0
  refine ⟨fun x hx => List.mem_range.mp (h1 x hx), Nat.le_trans h2 ?_⟩
  simp [allDoughs]
theorem from_len (b : Bakery) : ∀ {o : List Nat} {t : Nat} {T : List Nat}, startTimesFrom b o t = some T → T.length = o.length
  | [], t, T, h => by
    cases h
    rfl
  | i :: r, t, T, h => by
    rw [from_cons] at h
    cases e : estart b i t with
    | none =>
      rw [e] at h
      cases h
    | some s =>
      rw [e] at h
      replace h : (startTimesFrom b r (s + b.bakingTime)).map (s :: ·) = some T := h
      cases z : startTimesFrom b r (s + b.bakingTime) with
      | none =>
        rw [z] at h
        cases h
      | some T' =>
        rw [z] at h
        cases h
        rw [List.length_cons, List.length_cons, from_len b z]
end Bk
/-! Rules that the layer lacks; the defs' facts in bundles; the heap. -/
namespace Bk
open PySem PySem.Spec PyProof.Rows L2
open PySem.W (Codec)

section
variable {X : Cx}
/-- a op b op c op d -/
def tChain3 (r r' r'' : R2) (ta tb tc td : TE) : TE := fun σ H Q => ta σ H fun x H1 => tb σ H1 fun y H2 => r x y H2 fun z H3 => ∃ k, z = .bl k ∧
  (if k = true then tc σ H3 fun w' H4 => r' y w' H4 fun z2 H5 => ∃ k2, z2 = .bl k2 ∧ (if k2 = true then td σ H5 fun w2 H6 => r'' w' w2 H6 Q else Q (.bl false) H5) else Q (.bl false) H3)
theorem pe_chain3 {a b c d : Expr} {pos : Pos} {ta tb tc td : TE} {op op' op'' : CmpOp} {r r' r'' : R2} (ho : OpR X (compareOp op) r) (ho' : OpR X (compareOp op') r') (ho'' : OpR X (compareOp op'') r'') (ha : PE X a ta) (hb : PE X b tb) (hc : PE X c tc) (hd : PE X d td)
    (hm : lastMarks [op, op', op''] [b, c, d] = false := by with_unfolding_all rfl) : PE X (.Compare a [op, op', op''] [b, c, d] pos) (tChain3 r r' r'' ta tb tc td) := by
  refine ⟨fun pins s σ H Q I h => ?_⟩
  refine Compare_chain (thn (ha.run pins s σ H _ I h) fun v s1 ⟨x, H1, I1, r1, q1⟩ => chain_link (thn (hb.run pins s1 σ H1 _ I1 q1) fun u s2 ⟨y, H2, I2, r2, q2⟩ =>
    thn (ho pins s2 σ H2 x y v u _ I2 r1 r2 q2) fun d s3 ⟨z, H3, I3, r3, k, e, q3⟩ => ?_)) hm
  subst e
  cases r3
  refine wpAny_truthy_bool ?_
  cases k with
  | false => exact ite_ff ⟨.bl false, H3, I3, rfl, q3⟩
  | true =>
    refine ite_tt (chain_link (thn (hc.run pins s3 σ H3 _ I3 q3) fun w' s4 ⟨z', H4, I4, r4, q4⟩ => thn (ho' pins s4 σ H4 y z' u w' _ I4 r2 r4 q4) fun d5 s5 ⟨z5, H5, I5, r5, k5, e5, q5⟩ => ?_))
    subst e5
    cases r5
    refine wpAny_truthy_bool ?_
    cases k5 with
    | false => exact ite_ff ⟨.bl false, H5, I5, rfl, q5⟩
    | true => exact ite_tt (chain_last (thn (hd.run pins s5 σ H5 _ I5 q5) fun w6 s6 ⟨z6, H6, I6, r6, q6⟩ => ho'' pins s6 σ H6 z' z6 w' w6 Q I6 r4 r6 q6))
end

section
variable {X : Cx}
theorem pt_chain3 {a b c d : Expr} {pos : Pos} {ta tb tc td : TE} {op op' op'' : CmpOp} {r r' r'' : R2} (ho : OpR X (compareOp op) r) (ho' : OpR X (compareOp op') r') (ho'' : OpR X (compareOp op'') r'') (ha : PE X a ta) (hb : PE X b tb) (hc : PE X c tc) (hd : PE X d td)
    (hm : lastMarks [op, op', op''] [b, c, d] = false := by with_unfolding_all rfl) : PT X (.Compare a [op, op', op''] [b, c, d] pos) (tTest (tChain3 r r' r'' ta tb tc td)) := by
  refine ⟨fun pins s σ H Q I h => ?_⟩
  refine isTrue_chain (thn (ha.run pins s σ H _ I h) fun v s1 ⟨x, H1, I1, r1, q1⟩ => test_link (thn (hb.run pins s1 σ H1 _ I1 q1) fun u s2 ⟨y, H2, I2, r2, q2⟩ =>
    thn (ho pins s2 σ H2 x y v u _ I2 r1 r2 q2) fun d s3 ⟨z, H3, I3, r3, k, e, q3⟩ => ?_)) hm
  subst e
  cases r3
  refine wpAny_truthy_bool ?_
  cases k with
  | false =>
    obtain ⟨k', e', q'⟩ := q3
    cases e'
    exact ite_ff ⟨H3, I3, q'⟩
  | true =>
    refine ite_tt (test_link (thn (hc.run pins s3 σ H3 _ I3 q3) fun w' s4 ⟨z', H4, I4, r4, q4⟩ => thn (ho' pins s4 σ H4 y z' u w' _ I4 r2 r4 q4) fun d5 s5 ⟨z5, H5, I5, r5, k5, e5, q5⟩ => ?_))
    subst e5
    cases r5
    refine wpAny_truthy_bool ?_
    cases k5 with
    | false =>
      obtain ⟨k', e', q'⟩ := q5
      cases e'
      exact ite_ff ⟨H5, I5, q'⟩
    | true =>
      refine ite_tt (test_last (thn (hd.run pins s5 σ H5 _ I5 q5) fun w6 s6 ⟨z6, H6, I6, r6, q6⟩ => thn (ho'' pins s6 σ H6 z' z6 w' w6 _ I6 r4 r6 q6) fun d' s7 ⟨z2, H7, I7, r7, k2, e2, q7⟩ => ?_))
      subst e2
      cases r7
      exact wpAny_truthy_bool ⟨H7, I7, q7⟩
end
/-! ### what stands behind the top, in bundles -/
structure MFun (K : PySem.W.Frag) (C : Addr) (m qual : Str) (st : Stmt) : Prop where
  ex : ∃ f fd, Fun K m qual st f fd ∧ Meth K C m f
structure GFun (K : PySem.W.Frag) (mg : Str → Option Value) (x : Str) (st : Stmt) : Prop where
  ex : ∃ f fd, Fun K x x st f fd ∧ mg x = some (.ref f)
structure MOk (P : Program) (w : World) (K : PySem.W.Frag) (mg : Str → Option Value) (base : Heap) (k : Nat) (C : Addr) (m : Str) (ps : List Str) (sp : Sp) : Prop where
  ex : ∃ f fd, FnOk P w K mg base CX0 k f fd ps sp ∧ Binds K fd ps [] ∧ Meth K C m f
structure GOk (P : Program) (w : World) (K : PySem.W.Frag) (mg : Str → Option Value) (base : Heap) (k : Nat) (x : Str) (ps : List Str) (sp : Sp) : Prop where
  ex : ∃ f fd, FnOk P w K mg base CX0 k f fd ps sp ∧ Binds K fd ps [] ∧ mg x = some (.ref f) ∧ PySem.W.keepIn K (.ref f) = true
/-- a class: its __init__'s promise, one level above -/
structure KOk (P : Program) (w : World) (K : PySem.W.Frag) (mg : Str → Option Value) (base : Heap) (k : Nat) (C : Addr) (x : Str) (ps : List Str) (sp : Sp) : Prop where
  ex : ∃ f fd, FnOk P w K mg base CX0 k f fd ps sp ∧ Binds K fd ps [] ∧ Mk K C f
  nm : mg x = some (.ref C)
section
variable {X : Cx} {k : Nat} {C : Addr} {m x : Str} {ps : List Str} {sp : Sp} {pos apos p : Pos} {e o : Expr} {es : List Expr} {ta : TE} {t : TA}
/-- o.m(e, ..), the method by its bundle -/
theorem pe_m {pl : Sem Bool} (he : PE X o ta) (c : Cls X.K C) (M : MOk X.prog X.w X.K X.mg X.base k C m ps sp) (hr : Room k X.A) (ha : PA X (e :: es) t)
    (hst : starEach (e :: es) X.env = (false, eval e X.env) :: starEach es X.env := by rfl) (hpl : (backTo pos (starEach es X.env)).any (·.1) = false := by rfl)
    (ht : eval (.Call (.Attribute o m apos) (e :: es) [] pos) X.env = (do
      let ov ← eval o X.env
      standAt apos.atName
      let (f, first) ← holding [ov] (getMethod ov m pl)
      callWith pos f first (backTo pos (starEach (e :: es) X.env)) (backToKw pos (keywordEach [] X.env))) := by rfl) :
    PE X (.Call (.Attribute o m apos) (e :: es) [] pos) (tMeth C m sp [] E0 ta t) := by
  obtain ⟨f, fd, F, b, M⟩ := M.ex
  exact pe_meth he c M F hr b .nil pass0 ha hst hpl ht
theorem pe_m0 {pl : Sem Bool} (he : PE X o ta) (c : Cls X.K C) (M : MOk X.prog X.w X.K X.mg X.base k C m ps sp) (hr : Room k X.A)
    (ht : eval (.Call (.Attribute o m apos) [] [] pos) X.env = (do
      let ov ← eval o X.env
      standAt apos.atName
      let (f, first) ← holding [ov] (getMethod ov m pl)
      callWith pos f first (backTo pos (starEach [] X.env)) (backToKw pos (keywordEach [] X.env))) := by rfl) :
    PE X (.Call (.Attribute o m apos) [] [] pos) (tMeth C m sp [] E0 ta tNil) := by
  obtain ⟨f, fd, F, b, M⟩ := M.ex
  exact pe_meth0 he c M F hr b .nil pass0 ht
/-- x(e, ..), the def by its bundle -/
theorem pe_g (G : GOk X.prog X.w X.K X.mg X.base k x ps sp) (hr : Room k X.A) (hg : Gl X x) (ha : PA X (e :: es) t) (hdb : (x == ("__debug__" : Str)) = false := by decide)
    (he : starEach (e :: es) X.env = (false, eval e X.env) :: starEach es X.env := by rfl) (hpl : (backTo pos (starEach es X.env)).any (·.1) = false := by rfl) :
    PE X (.Call (.Name x p) (e :: es) [] pos) (tCall sp [] E0 t) := by
  obtain ⟨f, fd, F, b, n, kp⟩ := G.ex
  exact pe_call F hr hg n kp b .nil pass0 ha hdb he hpl
/-- x(e, ..), the class by its bundle -/
theorem pe_k (G : KOk X.prog X.w X.K X.mg X.base k C x ps sp) (hr : Room (k + 1) X.A) (hg : Gl X x) (ha : PA X (e :: es) t) (hdb : (x == ("__debug__" : Str)) = false := by decide)
    (he : starEach (e :: es) X.env = (false, eval e X.env) :: starEach es X.env := by rfl) (hpl : (backTo pos (starEach es X.env)).any (·.1) = false := by rfl) :
    PE X (.Call (.Name x p) (e :: es) [] pos) (tMake C sp [] E0 t) := by
  obtain ⟨f, fd, F, b, M⟩ := G.ex
  exact pe_make M F hr hg G.nm b .nil pass0 ha hdb he hpl
theorem pe_k0 (G : KOk X.prog X.w X.K X.mg X.base k C x ps sp) (hr : Room (k + 1) X.A) (hg : Gl X x) (hdb : (x == ("__debug__" : Str)) = false := by decide) :
    PE X (.Call (.Name x p) [] [] pos) (tMake C sp [] E0 tNil) := by
  obtain ⟨f, fd, F, b, M⟩ := G.ex
  exact pe_make0 M F hr hg G.nm b .nil pass0 hdb
end
section
variable {P : Program} {w : World} {K : PySem.W.Frag} {mg : Str → Option Value} {base : Heap}
theorem MOk.mono {j k : Nat} {C : Addr} {m : Str} {ps : List Str} {sp : Sp} (M : MOk P w K mg base j C m ps sp) (h : j ≤ k) : MOk P w K mg base k C m ps sp := by
  obtain ⟨f, fd, F, b, M⟩ := M.ex
  exact ⟨f, fd, F.mono h, b, M⟩
theorem GOk.mono {j k : Nat} {x : Str} {ps : List Str} {sp : Sp} (M : GOk P w K mg base j x ps sp) (h : j ≤ k) : GOk P w K mg base k x ps sp := by
  obtain ⟨f, fd, F, b, M⟩ := M.ex
  exact ⟨f, fd, F.mono h, b, M⟩
end
/-! ### fields -/
theorem lk_here {k : Str} {v : V} {r : List (Str × V)} : List.lookup k ((k, v) :: r) = some v := by
  have e : (k == k) = true := beq_self_eq_true k
  simp only [List.lookup, e]
theorem lk_past {k g : Str} {v : V} {r : List (Str × V)} (h : (k == g) = false) : List.lookup k ((g, v) :: r) = List.lookup k r := by
  simp only [List.lookup, h]
theorem put_here {f : Str} {v x : V} {r : List (Str × V)} : putF f v ((f, x) :: r) = (f, v) :: r := if_pos rfl
theorem put_past {f g : Str} {v x : V} {r : List (Str × V)} (h : ¬ g = f) : putF f v ((g, x) :: r) = (g, x) :: putF f v r := if_neg h
/-! ### the text by places -/
def top (i : Nat) : Stmt := PySem.Challenge.pw_bakehours_s01_answers.main.body.getD i (.Pass ⟨0, 0, 0, 0⟩)
/-- a whole number of the module's top -/
def ConstI (mg : Str → Option Value) (x : Str) (i : Int) : Prop := ∃ t, mg x = some (.int i t)
theorem pe_const {X : Cx} {x : Str} {pos : Pos} {i : Int} (hm : ConstI X.mg x i) (hg : Gl X x := by rfl) (hd : (x == ("__debug__" : Str)) = false := by decide) : PE X (.Name x pos) (tC (.int i)) := by
  obtain ⟨t, e⟩ := hm
  exact pe_glob hg e ⟨t, rfl⟩ hd
/-! ### frames -/
/-- all that was tracked outside of F is as it was -/
def Keeps (F : List Addr) (H H' : Hp) : Prop := ∀ b o, H b = some o → b ∉ F → H' b = some o
theorem Keeps.refl (F : List Addr) (H : Hp) : Keeps F H H := fun _ _ h _ => h
theorem Keeps.trans {F : List Addr} {H H1 H2 : Hp} (a : Keeps F H H1) (b : Keeps F H1 H2) : Keeps F H H2 := fun c o h n => b c o (a c o h n) n
theorem Keeps.mono {F G : List Addr} {H H' : Hp} (a : Keeps F H H') (h : ∀ x ∈ F, x ∈ G) : Keeps G H H' := fun c o e n => a c o e fun m => n (h c m)
theorem keeps_of_same {H H' : Hp} (a : Same H H') (F : List Addr) : Keeps F H H' := fun c o e _ => a c o e
theorem Keeps.toSame {H H' : Hp} (a : Keeps [] H H') : Same H H' := fun c o e => a c o e (by simp)
theorem keeps_upd {F : List Addr} {H : Hp} {a : Addr} {o : HO} (h : a ∈ F) : Keeps F H (upd H a o) := fun b u e n => by
  rw [upd_ne (fun q => n (by rw [q]; exact h))]
  exact e
theorem same_new {H : Hp} {a : Addr} {o : HO} (h : H a = none) : Same H (upd H a o) := fun b u e => by
  rw [upd_ne (ne_of_none e h)]
  exact e
/-- numbers as values -/
def vNat (l : List Nat) : List V := l.map fun (n : Nat) => V.int (n : Int)
def vInt (l : List Int) : List V := l.map V.int
theorem vNat_vInt (l : List Nat) : vNat l = vInt (SrCommon.natsToInts l) := by simp [vNat, vInt, SrCommon.natsToInts]
end Bk
/-! More rules that the layer lacks. -/
namespace Bk
open PySem PySem.Spec PyProof.Rows L2
open PySem.W (Codec)
/-! ### a list built out of a list: some of its items, each turned by r -/
theorem lc_filt {K : PySem.W.Frag} {α : Type} {a : Addr} {inj : α → V} (l : List α) (f : α → Bool) (r : α → V) {g : TG} {tt : TT} {te : TE} {vs : List Nat} {σ : L2.St} {H1 : Hp} {D : Addr} {Qd : Hp → Prop} (ha : SqL K H1 a (l.map inj)) (hD : H1 D = none) (hl : l.length < sizeLine)
    (hs : ∀ (x : α) (H' : Hp) (Z : V → Hp → Prop) (Z' : Hp → Prop), x ∈ l → Same H1 H' → (f x = true → Z (r x) H') → (f x = false → Z' H') → g (inj x) (wipe σ vs) H' fun σ2 H2 => wipe σ2 vs = wipe σ vs ∧ tt σ2 H2 fun b H3 => if b = true then te σ2 H3 Z else Z' H3)
    (hd : ∀ H', Same H1 H' → H' D = some (.lst ((l.filter f).map r)) → Qd H') :
    ∃ W : Nat → Nat → Hp → Prop, (∃ m, W 0 m (upd H1 D (.lst []))) ∧ ∀ i m H, W i m H →
      ((Itl K a).stop i H ∧ Qd H) ∨ ((Itl K a).go i H ∧ ∃ Nx : Hp → Prop, (∀ H', Nx H' → ∃ m', m' < m ∧ W (i + 1) m' H') ∧ ∀ x H', (Itl K a).yld i H x H' → g x (wipe σ vs) H' fun σ2 H2 => wipe σ2 vs = wipe σ vs ∧ tt σ2 H2 fun b H3 =>
        if b = true then te σ2 H3 fun y H4 => ∃ acc, H4 D = some (.lst acc) ∧ acc.length < sizeLine ∧ Nx (upd H4 D (.lst (acc ++ [y]))) else Nx H3) := by
  refine lc_list (fun i H' => Same H1 H' ∧ H' D = some (.lst (((l.take i).filter f).map r))) ⟨same_new hD, by rw [upd_same]; rfl⟩ (fun i H' _ h => h.1.seq ha) ?_ (fun H' h => hd H' h.1 ?_)
  · rintro i x H' hx ⟨s1, hl1⟩
    rw [List.getElem?_map] at hx
    obtain ⟨y, hy, rfl⟩ : ∃ y, l[i]? = some y ∧ x = inj y := by
      cases e : l[i]? with
      | none =>
        rw [e] at hx
        cases hx
      | some y =>
        rw [e] at hx
        exact ⟨y, rfl, (Option.some.inj hx).symm⟩
    refine hs y H' _ _ (List.mem_of_getElem? hy) s1 (fun hf => ⟨_, hl1, ?_, ?_, ?_⟩) fun hf => ⟨s1, ?_⟩
    · rw [List.length_map]
      exact Nat.lt_of_le_of_lt (Nat.le_trans (List.length_filter_le _ _) (by rw [List.length_take]; exact Nat.min_le_right _ _)) hl
    · exact fun q o e => by
        rw [upd_ne (ne_of_none e hD)]
        exact s1 q o e
    · rw [upd_same, take_snoc hy, List.filter_append, List.map_append, List.filter_cons, if_pos hf]
      rfl
    · rw [take_snoc hy, List.filter_append, List.filter_cons, if_neg (by rw [hf]; exact Bool.false_ne_true), List.filter_nil, List.append_nil]
      exact hl1
  · have e := h.2
    rw [List.length_map, List.take_length] at e
    exact e
/-! ### len(set(xs)) of whole numbers, some maybe more than once -/
def met (ns : List Int) : List Int := PyProof.Rows.firstMet (fun i => ns.getD i 0) ns.length
def tLenSetG (K : PySem.W.Frag) (ta : TE) : TE := fun σ H Q => ta σ H fun x H1 => ∃ (l : Addr) (ns : List Int), x = .ref l ∧ SqL K H1 l (ns.map V.int) ∧ ns.length ≤ 1000 ∧ Q (.int ((met ns).length : Nat)) H1
theorem met_le (f : Nat → Int) : ∀ n, (PyProof.Rows.firstMet f n).length ≤ n
  | 0 => Nat.le_refl _
  | n + 1 => by
    rw [PyProof.Rows.firstMet_succ]
    have := met_le f n
    unfold PyProof.Rows.step_dedup
    split
    · omega
    · rw [List.length_append]
      show _ + 1 ≤ _
      omega
theorem pe_lenSetG {X : Cx} {a : Expr} {ta : TE} {p p2 q pos : Pos} (hg : Gl X "len") (hm : X.mg "len" = none) (hg2 : Gl X "set") (hm2 : X.mg "set" = none) (ha : PE X a ta) (hc : X.calm = true := by rfl)
    (na : starEach [a] X.env = (false, eval a X.env) :: starEach [] X.env := by rfl) : PE X (.Call (.Name "len" p) [.Call (.Name "set" p2) [a] [] q] [] pos) (tLenSetG X.K ta) := by
  refine ⟨fun pins s σ H Q I h => ?_⟩
  refine Call_ (ld_blt I hg hm boot_len ?_)
  refine PyProof.Rows.callWith_builtin1 (PyProof.Rows.args_cons ?_ rfl) rfl rfl
  refine Call_ (ld_blt I hg2 hm2 boot_set ?_)
  refine PyProof.Rows.callWith_type1 (PyProof.Rows.args_cons (thn (ha.run pins s σ H _ I h) fun v s1 ⟨x, H1, I1, r1, q1⟩ => PyProof.Rows.args_nil ?_) na) na rfl
  obtain ⟨l, ns, rfl, hq, hl, q1⟩ := q1
  cases r1
  obtain ⟨its, r, pl, hz⟩ := I1.list hq
  have hlen : its.toArray.size = ns.length := by rw [List.size_toArray, ← r.length, List.length_map]
  refine call_set_list (I1.ok.hd hc) pl.isList (by simpa using r.ints) (by rw [hlen]; unfold scanBound; omega) fun h' tk hS hk => ?_
  refine PyProof.Rows.args_nil ?_
  rw [hlen] at hS
  obtain ⟨o, es, ep, t, ho, hex, hd, _, _, _, hf, hn⟩ := hS
  have I2 : Inv X pins σ H1 { s1 with heap := h', toks := tk } := I1.kept fun b o e => hk b o (Heap.lt_size e) e
  have hml : (met ns).length ≤ ns.length := met_le _ _
  have hn : es.size = (met ns).length := hn
  exact call_len_set ho hex hd hf (by rw [hn] <;> omega) ⟨.int (met ns).length, H1, I2.tok _, ⟨_, by rw [hn]⟩, q1⟩
/-! ### xs.count(True) -/
def rCntB (K : PySem.W.Frag) : V → List V → Hp → VK → Prop := fun x xs H Q => ∃ (p : Addr) (bs : List Bool), x = .ref p ∧ xs = [.bl true] ∧ SqL K H p (bs.map V.bl) ∧ Q (.int ((bs.countP fun c => c) : Nat)) H
theorem cntB : ∀ {bs : List Bool} {us : List Value}, Vals (bs.map V.bl) us → us.countP (eqU (.bl true)) = bs.countP fun c => c
  | [], _, .nil => rfl
  | b :: bs, _, .cons r t => by
    have ih := cntB t
    cases r
    rw [List.countP_cons, List.countP_cons, ih]
    cases b <;> rfl
theorem flatB : ∀ bs : List Bool, (bs.map V.bl).all flatV = true
  | [] => rfl
  | b :: r => by
    show (flatV (.bl b) && (r.map V.bl).all flatV) = true
    rw [flatB r] <;> rfl
theorem mt_lcountB {X : Cx} : MtR X "list.count" (rCntB X.K) := by
  intro pins s σ H x xs v us Q I rx rxs h
  obtain ⟨p, bs, rfl, rfl, hs, q⟩ := h
  cases rx
  obtain ⟨u, rfl, ru⟩ := rxs.one
  cases ru
  obtain ⟨its, rv, ⟨⟨cls, dd, data, sl⟩, n, ho, hc, hdn, hd⟩, hlen⟩ := I.list hs
  simp only at hc hd
  subst hc hd
  refine call_meets PySem.F.slot_list_count ⟨_, ho, rfl⟩ PySem.F.entry_list_count (PySem.F.args_list_count_2 _ _)
    (SeqAt.list_countAt p its.toArray n dd sl (.bool true) (eqU (.bl true))) ⟨ho, fun y hy => mem_eqAt (x := .bl true) rfl rfl rv (flatB bs) y (by simpa using hy), ?_⟩
  have ec : its.toArray.toList.countP (eqU (.bl true)) = bs.countP fun c => c := cntB rv
  refine ⟨.int ((bs.countP fun c => c) : Nat), H, I.tok _, ⟨s.toks, ?_⟩, q⟩
  show Value.int ((its.toArray.toList.countP (eqU (.bl true)) : Nat) : Int) s.toks = Value.int (((bs.countP fun c => c) : Nat) : Int) s.toks
  rw [ec]
/-! ### within a comprehension: the readings over the same written part -/
theorem ixK {X : Cx} (K : PySem.W.Frag) (h : X.K = K := by rfl) : IxR X (rIxL K) := by
  subst h
  exact ix_list
def rLenS (K : PySem.W.Frag) : List V → Hp → VK → Prop := fun xs H Q => ∃ p ys, xs = [.ref p] ∧ (SqL K H p ys ∨ SqT K H p ys) ∧ Q (.int (ys.length : Nat)) H
theorem lenK {X : Cx} (K : PySem.W.Frag) (h : X.K = K := by rfl) : CallR X (.builtin "len") (rLenS K) := by
  subst h
  exact call_len_seq
theorem fldK {X : Cx} {e : Expr} {ta : TE} {f : Str} {pos : Pos} (K : PySem.W.Frag) (he : PE X e ta) (hb : attributeBase e f X.env (eval e X.env) = eval e X.env) (h : X.K = K := by rfl) : PE X (.Attribute e f pos) (tFld K ta f) := by
  subst h
  exact pe_fld he hb
end Bk
namespace Bk
open PySem PySem.Spec PyProof.Rows L2
open PySem.W (Codec)
open Sr98 (Bakery)
abbrev Dg := Sr98.Dough
/-! ### a dough in the heap -/
def dF (d : Dg) (c : Addr) : List (Str × V) := [("mixed_at", .int (d.mixedAt : Nat)), ("minimum", .int (d.minimum : Nat)), ("maximum", .int (d.maximum : Nat)), ("cooled", .ref c)]
def vBl (l : List Bool) : List V := l.map V.bl
/-- the dough d of so many hours stands at a, its list of hours at c -/
structure DoughAt (CD : Addr) (H : Hp) (h : Nat) (a c : Addr) (d : Dg) : Prop where
  ins : ∃ dx, H a = some (.ins CD dx (dF d c))
  lst : H c = some (.lst (vBl (cool h d)))
  bits : d.cooled < 2 ^ h
  mix : d.mixedAt ≤ h
theorem DoughAt.keep {CD : Addr} {H H' : Hp} {h : Nat} {a c : Addr} {d : Dg} (D : DoughAt CD H h a c d) {F : List Addr} (k : Keeps F H H') (na : a ∉ F) (nc : c ∉ F) : DoughAt CD H' h a c d := by
  obtain ⟨dx, e⟩ := D.ins
  exact ⟨⟨dx, k _ _ e na⟩, k _ _ D.lst nc, D.bits, D.mix⟩
theorem dF_mixed (d : Dg) (c : Addr) : (dF d c).lookup ("mixed_at" : Str) = some (.int (d.mixedAt : Nat)) := lk_here
theorem dF_min (d : Dg) (c : Addr) : (dF d c).lookup ("minimum" : Str) = some (.int (d.minimum : Nat)) := (lk_past (by decide +kernel)).trans lk_here
theorem dF_max (d : Dg) (c : Addr) : (dF d c).lookup ("maximum" : Str) = some (.int (d.maximum : Nat)) := (lk_past (by decide +kernel)).trans ((lk_past (by decide +kernel)).trans lk_here)
theorem dF_cooled (d : Dg) (c : Addr) : (dF d c).lookup ("cooled" : Str) = some (.ref c) := (lk_past (by decide +kernel)).trans ((lk_past (by decide +kernel)).trans ((lk_past (by decide +kernel)).trans lk_here))
theorem dF_no (d : Dg) (c : Addr) {m : Str} (h1 : (m == ("mixed_at" : Str)) = false) (h2 : (m == ("minimum" : Str)) = false) (h3 : (m == ("maximum" : Str)) = false) (h4 : (m == ("cooled" : Str)) = false) : (dF d c).lookup m = none :=
  (lk_past h1).trans ((lk_past h2).trans ((lk_past h3).trans ((lk_past h4).trans rfl)))
theorem dF_put (d : Dg) (c c' : Addr) : putF "cooled" (.ref c') (dF d c) = dF d c' :=
  (put_past (by decide +kernel)).trans (congrArg _ ((put_past (by decide +kernel)).trans (congrArg _ ((put_past (by decide +kernel)).trans (congrArg _ put_here)))))
/-- the class Dough behind the top -/
structure TD (K : PySem.W.Frag) (mg : Str → Option Value) (CD : Addr) : Prop where
  cl : Cls K CD
  nMix : NoAttr K CD "mixed_at"
  nMin : NoAttr K CD "minimum"
  nMax : NoAttr K CD "maximum"
  nCo : NoAttr K CD "cooled"
  range : mg "range" = none
  max : mg "max" = none
  len : mg "len" = none
  rest : ConstI mg "RESTING_TEMPERATURE" 4

section
variable {P : Program} {w : World} {K : PySem.W.Frag} {mg : Str → Option Value} {base : Heap} {CD : Addr}
abbrev iDough : Nat := 42
abbrev sRisen : Stmt := inClass (top iDough) 6
def spRisen (CD : Addr) : Sp := fun vs H Q _ => ∃ (a c tl : Addr) (b : Bakery) (d : Dg) (t : Nat), vs = [.ref a, .int (t : Nat), .ref tl] ∧ DoughAt CD H (Sr98.hours b) a c d ∧ H tl = some (.lst (vNat b.temperatures)) ∧
  t ≤ Sr98.hours b ∧ Sr98.hours b ≤ 36 ∧ Q (.int (Sr98.risen b d t : Nat)) H
theorem scRisen : FnScope ["self", "t", "temperatures", "amount", "hour"] ["self", "t", "temperatures"] (defScope sRisen) := ⟨rfl, rfl, rfl, by decide +kernel, rfl, by decide +kernel, by decide +kernel⟩
theorem vNat_at {l : List Nat} {i : Nat} (h : i < l.length) : (vNat l)[i]? = some (.int (l.getD i 0 : Nat)) := by
  unfold vNat
  rw [List.getElem?_map, List.getElem?_eq_getElem h, List.getD_eq_getElem?_getD, List.getElem?_eq_getElem h]
  rfl
theorem vBl_at {l : List Bool} {i : Nat} {b : Bool} (h : l[i]? = some b) : (vBl l)[i]? = some (.bl b) := by
  unfold vBl
  rw [List.getElem?_map, h]
  rfl
theorem ok_risen (T : TD K mg CD) (F : MFun K CD "risen_by" "Dough.risen_by" sRisen) : MOk P w K mg base 1 CD "risen_by" ["self", "t", "temperatures"] (spRisen CD) := by
  obtain ⟨f, fd, F, M⟩ := F.ex
  refine ⟨f, fd, F.ok scRisen (fun vs H Q E h => ?_) (fun cdv A outer s H vs Q E hr h => ?_), F.binds fun _ _ _ _ _ _ us hl => match us, hl with | [_, _, _], _ => rfl, M⟩
  · obtain ⟨a, c, tl, b, d, t, rfl, _⟩ := h
    rfl
  · obtain ⟨a, c, tl, b, d, t, rfl, D, hT, ht, hh, k⟩ := h
    refine ⟨_, pss_cons (ps_set (i := 3) scRisen.nd rfl (Or.inl rfl) pe_int)
      (pss_cons (ps_for PassesOwn.never rfl (pi_range2 (by rfl) T.range (pa_cons (pe_fld (pv 0) rfl) (pa_cons (pv 1) pa_nil))) (pg_name (i := 4) scRisen.nd rfl (Or.inl rfl))
        (pss_one (ps_if (pt_not (pt_val (pe_ix ix_list (pe_fld (pv 0) rfl) (pv 4) (fun _ _ => rfl))))
          (pss_one (ps_aug (i := 3) scRisen.nd rfl (.inl rfl) (pe_callB (call_max2 rfl) (by rfl) T.max (by decide +kernel) (pa_cons pe_int (pa_cons (pe_op op_sub (pe_ix ix_list (pv 2) (pv 4) (fun _ _ => rfl)) (pe_const T.rest)) pa_nil))) ip_add)) pss_nil)))
      (pss_one (ps_ret (pv 3)))), ?_⟩
    obtain ⟨dx, hI⟩ := D.ins
    refine ⟨_, rfl, a, CD, dx, _, _, rfl, hI, T.cl, T.nMix, dF_mixed d c, _, rfl, _, _, rfl, ?_, ?_⟩
    · have := D.mix
      exact ⟨by omega, by omega, by omega, by omega⟩
    refine for_range (lo := (d.mixedAt : Nat)) (n := ((t : Int) - (d.mixedAt : Nat)).toNat) (fun i σ H' => H' = H ∧ ∃ v, σ = [some (.ref a), some (.int (t : Nat)), some (.ref tl), some (.int (Sr98.risen b d (d.mixedAt + i) : Nat)), v]) ⟨rfl, none, ?_⟩ ?_ ?_
    · rw [Nat.add_zero, risen_mixed b d _ (Nat.le_refl _)]
      rfl
    · rintro i σ H' hi ⟨rfl, v, rfl⟩
      have hlt : d.mixedAt + i < Sr98.hours b := by omega
      have hc := cool_at (d := d) hlt
      have e1 : ((d.mixedAt : Nat) : Int) + (i : Int) = ((d.mixedAt + i : Nat) : Int) := by omega
      have step : Sr98.risen b d (d.mixedAt + (i + 1)) = Sr98.risen b d (d.mixedAt + i) + Sr98.rise b d (d.mixedAt + i) := risen_succ b d (d.mixedAt + i)
      refine ⟨_, rfl, a, CD, dx, _, _, rfl, hI, T.cl, T.nCo, dF_cooled d c, _, rfl, c, _, _, _, rfl, rfl, SqL.of D.lst, at_of e1 (vBl_at hc), _, rfl, ?_⟩
      cases hcd : Sr98.isCooled d (d.mixedAt + i) with
      | true =>
        refine iteF ⟨rfl, some (.int (((d.mixedAt : Nat) : Int) + (i : Nat))), ?_⟩
        rw [step]
        unfold Sr98.rise
        rw [if_pos (.inr hcd)]
        rfl
      | false =>
        refine iteT ⟨_, rfl, _, rfl, _, rfl, tl, _, _, _, rfl, rfl, SqL.of hT, at_of e1 (vNat_at hlt), _, _, rfl, rfl, _, _, rfl, _, _, rfl, rfl, rfl, some (.int (((d.mixedAt : Nat) : Int) + (i : Nat))), ?_⟩
        have er : Sr98.rise b d (d.mixedAt + i) = b.temperatures.getD (d.mixedAt + i) 0 - 4 := by
          unfold Sr98.rise
          rw [if_neg]
          rintro (q | q)
          · omega
          · rw [hcd] at q
            cases q
        have e2 : ((Sr98.risen b d (d.mixedAt + i) : Nat) : Int) + (if ((b.temperatures.getD (d.mixedAt + i) 0 : Nat) : Int) - 4 > 0 then ((b.temperatures.getD (d.mixedAt + i) 0 : Nat) : Int) - 4 else 0) = (Sr98.risen b d (d.mixedAt + (i + 1)) : Nat) := by
          rw [step, er]
          split <;> omega
        rw [← e2]
        rfl
    · rintro σ H' ⟨rfl, v, rfl⟩
      have e : Sr98.risen b d (d.mixedAt + ((t : Int) - (d.mixedAt : Nat)).toNat) = Sr98.risen b d t := by
        by_cases hm : d.mixedAt ≤ t
        · congr 1
          omega
        · rw [show ((t : Int) - (d.mixedAt : Nat)).toNat = 0 by omega, risen_mixed b d _ (by omega), risen_mixed b d _ (by omega)]
      rw [e]
      exact ⟨_, rfl, k⟩
end
end Bk
namespace Bk
open PySem PySem.Spec PyProof.Rows L2
open PySem.W (Codec)
open Sr98 (Bakery)
section
variable {P : Program} {w : World} {K : PySem.W.Frag} {mg : Str → Option Value} {base : Heap} {CD : Addr}
abbrev sDInit : Stmt := inClass (top iDough) 0
abbrev sCoolH : Stmt := inClass (top iDough) 1
abbrev sNever : Stmt := inClass (top iDough) 2
abbrev sEver : Stmt := inClass (top iDough) 3
/-! ### __init__ -/
def spDInit (CD : Addr) : Sp := fun vs H Q _ => ∃ (p dx : Addr) (mi mn mx h : Nat), vs = [.ref p, .int (mi : Nat), .int (mn : Nat), .int (mx : Nat), .int (h : Nat)] ∧ H p = some (.ins CD dx []) ∧ h ≤ 36 ∧ mi ≤ h ∧
  ∀ (H' : Hp) (c : Addr), DoughAt CD H' h p c ⟨mi, mn, mx, 0⟩ → H c = none → Keeps [p] H H' → Q .non H'
theorem scDInit : FnScope ["self", "mixed_at", "minimum", "maximum", "hours"] ["self", "mixed_at", "minimum", "maximum", "hours"] (defScope sDInit) := ⟨rfl, rfl, rfl, by decide +kernel, rfl, by decide +kernel, by decide +kernel⟩
theorem rep_false (h : Nat) : (List.replicate (h : Int).toNat [V.bl false]).flatten = vBl (List.replicate h false) := by
  rw [Int.toNat_natCast]
  induction h with
  | zero => rfl
  | succ n ih =>
    rw [List.replicate_succ, List.flatten_cons, ih, List.replicate_succ]
    rfl
theorem ok_dinit {x : Str} (T : TD K mg CD) (F : ∃ f fd, Fun K "__init__" "Dough.__init__" sDInit f fd ∧ Mk K CD f) (n : mg x = some (.ref CD)) : KOk P w K mg base 1 CD x ["self", "mixed_at", "minimum", "maximum", "hours"] (spDInit CD) := by
  obtain ⟨f, fd, F, M⟩ := F
  refine ⟨⟨f, fd, F.ok scDInit (fun vs H Q E h => ?_) (fun cdv A outer s H vs Q E hr h => ?_), F.binds fun _ _ _ _ _ _ us hl => match us, hl with | [_, _, _, _, _], _ => rfl, M⟩, n⟩
  · obtain ⟨p, dx, mi, mn, mx, h, rfl, _⟩ := h
    rfl
  · obtain ⟨p, dx, mi, mn, mx, h, rfl, hp, hh, hm, k⟩ := h
    refine ⟨_, pss_cons (ps_fld (pv 0) (pv 1) rfl) (pss_cons (ps_fld (pv 0) (pv 2) rfl) (pss_cons (ps_fld (pv 0) (pv 3) rfl)
      (pss_one (ps_fld (pv 0) (pe_op op_rep (pe_lst (pa_cons pe_bl pa_nil)) (pv 4)) rfl)))), ?_⟩
    refine ⟨_, rfl, _, rfl, p, CD, dx, _, rfl, hp, T.cl, T.nMix, (by show 0 < 1000; decide), ?_⟩
    refine ⟨_, rfl, _, rfl, p, CD, dx, _, rfl, upd_same, T.cl, T.nMin, (by show 1 < 1000; decide), ?_⟩
    refine ⟨_, rfl, _, rfl, p, CD, dx, _, rfl, upd_same, T.cl, T.nMax, (by show 2 < 1000; decide), ?_⟩
    refine ⟨(by show 1 ≤ sizeLine; decide), fun q hq => ?_⟩
    refine ⟨_, rfl, q, _, _, rfl, rfl, upd_same, by omega, by omega, (by show 1 * (h : Int).toNat ≤ sizeLine; rw [Int.toNat_natCast, Nat.one_mul]; exact Nat.le_trans hh (by decide)), fun c hc => ?_⟩
    rw [upd_upd, upd_upd] at hq hc ⊢
    have hcq : c ≠ q := fun e => by
      subst e
      rw [upd_same] at hc
      cases hc
    rw [upd_ne hcq] at hc
    have hcp : c ≠ p := fun e => by
      subst e
      rw [upd_same] at hc
      cases hc
    rw [upd_ne hcp] at hc
    have hqp : q ≠ p := fun e => by
      subst e
      rw [upd_same] at hq
      cases hq
    rw [upd_ne hqp] at hq
    refine ⟨_, rfl, p, CD, dx, _, rfl, by rw [upd_ne hcp.symm, upd_ne hqp.symm]; exact upd_same, T.cl, T.nCo, (by show 3 < 1000; decide), ?_⟩
    refine k _ c ⟨⟨dx, ?_⟩, ?_, Nat.pow_pos (by decide), hm⟩ hc ?_
    · rw [upd_same]
      rfl
    · rw [upd_ne hcp, upd_same, rep_false, cool_zero h rfl]
    · intro b o e n
      have hb : b ≠ p := fun q => n (by simp [q])
      rw [upd_ne hb, upd_ne (ne_of_none e hc), upd_ne (ne_of_none e hq), upd_ne hb]
      exact e
/-! ### cool_hours -/
def spCoolH (CD : Addr) : Sp := fun vs H Q _ => ∃ (a c : Addr) (d : Dg) (h f g : Nat), vs = [.ref a, .int (f : Nat), .int (g : Nat)] ∧ DoughAt CD H h a c d ∧ f ≤ g ∧ g ≤ h ∧ h ≤ 36 ∧
  ∀ H' : Hp, DoughAt CD H' h a c (Sr98.withCooling d f g) → Keeps [c] H H' → Q .non H'
theorem scCoolH : FnScope ["self", "start", "to", "hour"] ["self", "start", "to"] (defScope sCoolH) := ⟨rfl, rfl, rfl, by decide +kernel, rfl, by decide +kernel, by decide +kernel⟩
theorem vBl_len (l : List Bool) : (vBl l).length = l.length := by simp [vBl]
theorem ixN_nat {n : Nat} {z : Int} {j : Nat} (e : z = (j : Int)) (h : j < n) : ixN n z = some j := by
  subst e
  unfold ixN
  simp [h]
theorem ok_coolH (T : TD K mg CD) (F : MFun K CD "cool_hours" "Dough.cool_hours" sCoolH) : MOk P w K mg base 1 CD "cool_hours" ["self", "start", "to"] (spCoolH CD) := by
  obtain ⟨f, fd, F, M⟩ := F.ex
  refine ⟨f, fd, F.ok scCoolH (fun vs H Q E h => ?_) (fun cdv A outer s H vs Q E hr h => ?_), F.binds fun _ _ _ _ _ _ us hl => match us, hl with | [_, _, _], _ => rfl, M⟩
  · obtain ⟨a, c, d, h, f, g, rfl, _⟩ := h
    rfl
  · obtain ⟨a, c, d, h, f, g, rfl, D, hf, hg, hh, k⟩ := h
    obtain ⟨dx, hI⟩ := D.ins
    have nac : a ≠ c := ne_of hI D.lst (by intro q; cases q)
    refine ⟨_, pss_one (ps_for PassesOwn.never rfl (pi_range2 (by rfl) T.range (pa_cons (pv 1) (pa_cons (pv 2) pa_nil))) (pg_name (i := 3) scCoolH.nd rfl (Or.inl rfl))
        (pss_one (ps_asg pe_bl (pg_sub (pe_fld (pv 0) rfl) (pv 3) set_list)))), ?_⟩
    refine ⟨_, rfl, _, rfl, _, _, rfl, ⟨by omega, by omega, by omega, by omega⟩, ?_⟩
    refine for_range (lo := (f : Nat)) (n := ((g : Int) - (f : Nat)).toNat) (fun i σ H' => (∃ v, σ = [some (.ref a), some (.int (f : Nat)), some (.int (g : Nat)), v]) ∧ H' c = some (.lst (vBl (cool h (Sr98.withCooling d f (f + i))))) ∧ Keeps [c] H H')
      ⟨⟨none, rfl⟩, ?_, Keeps.refl _ _⟩ ?_ ?_
    · rw [cool_none]
      exact D.lst
    · rintro i σ H' hi ⟨⟨v, rfl⟩, hc, kp⟩
      have hI' : H' a = some (.ins CD dx (dF d c)) := kp _ _ hI (by simp [nac])
      refine ⟨_, rfl, a, CD, dx, _, _, rfl, hI', T.cl, T.nCo, dF_cooled d c, _, rfl, c, _, _, f + i, rfl, rfl, hc, ixN_nat (by omega) (by rw [vBl_len, cool_len]; omega), ?_⟩
      refine ⟨⟨_, rfl⟩, ?_, kp.trans (keeps_upd (by simp))⟩
      rw [upd_same, ← cool_set]
      unfold vBl
      rw [List.map_set]
    · rintro σ H' ⟨⟨v, rfl⟩, hc, kp⟩
      have e : f + ((g : Int) - (f : Nat)).toNat = g := by omega
      rw [e] at hc
      exact k H' ⟨⟨dx, kp _ _ hI (by simp [nac])⟩, hc, cooling_lt D.bits hg, D.mix⟩ kp
/-! ### cool_never -/
def spNever (CD : Addr) : Sp := fun vs H Q _ => ∃ (a c : Addr) (d : Dg) (h : Nat), vs = [.ref a] ∧ DoughAt CD H h a c d ∧ h ≤ 36 ∧
  ∀ (H' : Hp) (c' : Addr), DoughAt CD H' h a c' { d with cooled := 0 } → H c' = none → Keeps [a] H H' → Q .non H'
theorem scNever : FnScope ["self"] ["self"] (defScope sNever) := ⟨rfl, rfl, rfl, by decide +kernel, rfl, by decide +kernel, by decide +kernel⟩
theorem ok_never (T : TD K mg CD) (F : MFun K CD "cool_never" "Dough.cool_never" sNever) : MOk P w K mg base 1 CD "cool_never" ["self"] (spNever CD) := by
  obtain ⟨f, fd, F, M⟩ := F.ex
  refine ⟨f, fd, F.ok scNever (fun vs H Q E h => ?_) (fun cdv A outer s H vs Q E hr h => ?_), F.binds fun _ _ _ _ _ _ us hl => match us, hl with | [_], _ => rfl, M⟩
  · obtain ⟨a, c, d, h, rfl, _⟩ := h
    rfl
  · obtain ⟨a, c, d, h, rfl, D, hh, k⟩ := h
    obtain ⟨dx, hI⟩ := D.ins
    refine ⟨_, pss_one (ps_fld (pv 0) (pe_op op_rep (pe_lst (pa_cons pe_bl pa_nil)) (pe_callB call_len_seq (by rfl) T.len PySem.boot_len (pa_cons (pe_fld (pv 0) rfl) pa_nil))) rfl), ?_⟩
    refine ⟨(by show 1 ≤ sizeLine; decide), fun q hq => ?_⟩
    have hqa : a ≠ q := ne_of_none hI hq
    have hqc : c ≠ q := ne_of_none D.lst hq
    refine ⟨_, rfl, a, CD, dx, _, _, rfl, by rw [upd_ne hqa]; exact hI, T.cl, T.nCo, dF_cooled d c, c, _, rfl, .inl (SqL.of (by rw [upd_ne hqc]; exact D.lst)), ?_⟩
    rw [vBl_len, cool_len]
    refine ⟨q, _, _, rfl, rfl, upd_same, by omega, by omega, (by show 1 * (h : Int).toNat ≤ sizeLine; rw [Int.toNat_natCast, Nat.one_mul]; exact Nat.le_trans hh (by decide)), fun c' hc' => ?_⟩
    have hcq : c' ≠ q := fun e => by
      subst e
      rw [upd_same] at hc'
      cases hc'
    rw [upd_ne hcq] at hc'
    have hca : a ≠ c' := ne_of_none hI hc'
    refine ⟨_, rfl, a, CD, dx, _, rfl, by rw [upd_ne hca, upd_ne hqa]; exact hI, T.cl, T.nCo, (by show 4 < 1000; decide), ?_⟩
    refine k _ c' ⟨⟨dx, ?_⟩, ?_, Nat.pow_pos (by decide), D.mix⟩ hc' ?_
    · rw [upd_same, dF_put]
      rfl
    · rw [upd_ne hca.symm, upd_same, rep_false, cool_zero h rfl]
    · intro b o e n
      have hb : b ≠ a := fun q => n (by simp [q])
      rw [upd_ne hb, upd_ne (ne_of_none e hc'), upd_ne (ne_of_none e hq)]
      exact e
/-! ### is_ever_cooled -/
def spEver (CD : Addr) : Sp := fun vs H Q _ => ∃ (a c : Addr) (d : Dg) (h : Nat), vs = [.ref a] ∧ DoughAt CD H h a c d ∧ Q (.bl (!decide (d.cooled = 0))) H
theorem scEver : FnScope ["self"] ["self"] (defScope sEver) := ⟨rfl, rfl, rfl, by decide +kernel, rfl, by decide +kernel, by decide +kernel⟩
theorem vBl_flat : ∀ l : List Bool, (vBl l).all flatV = true
  | [] => rfl
  | b :: r => by
    show (flatV (.bl b) && (vBl r).all flatV) = true
    rw [vBl_flat r] <;> rfl
theorem inV_true : ∀ l : List Bool, inV (.bl true) (vBl l) = l.any (fun c => c)
  | [] => rfl
  | b :: r => by
    show (eqV (.bl b) (.bl true) || inV (.bl true) (vBl r)) = (b || r.any (fun c => c))
    rw [inV_true r]
    cases b <;> rfl
theorem ok_ever (T : TD K mg CD) (F : MFun K CD "is_ever_cooled" "Dough.is_ever_cooled" sEver) : MOk P w K mg base 1 CD "is_ever_cooled" ["self"] (spEver CD) := by
  obtain ⟨f, fd, F, M⟩ := F.ex
  refine ⟨f, fd, F.ok scEver (fun vs H Q E h => ?_) (fun cdv A outer s H vs Q E hr h => ?_), F.binds fun _ _ _ _ _ _ us hl => match us, hl with | [_], _ => rfl, M⟩
  · obtain ⟨a, c, d, h, rfl, _⟩ := h
    rfl
  · obtain ⟨a, c, d, h, rfl, D, k⟩ := h
    obtain ⟨dx, hI⟩ := D.ins
    refine ⟨_, pss_one (ps_ret (pe_cmpR op_in_seq pe_bl (pe_fld (pv 0) rfl) (by rfl))), ?_⟩
    refine ⟨_, rfl, a, CD, dx, _, _, rfl, hI, T.cl, T.nCo, dF_cooled d c, c, _, rfl, .inl (SqL.of D.lst), rfl, vBl_flat _, ?_⟩
    have e : inV (.bl true) (vBl (cool h d)) = !decide (d.cooled = 0) := by rw [inV_true, cool_any D.bits]
    show Q (.bl (inV (.bl true) (vBl (cool h d)))) H
    rw [e]
    exact k
end
end Bk
namespace Bk
open PySem PySem.Spec PyProof.Rows L2
open PySem.W (Codec)
open Sr98 (Bakery)
section
variable {P : Program} {w : World} {K : PySem.W.Frag} {mg : Str → Option Value} {base : Heap} {CD : Addr}
abbrev sCan : Stmt := inClass (top iDough) 7
abbrev sTimes : Stmt := inClass (top iDough) 8
/-! ### can_be_put_in -/
def spCan (CD : Addr) : Sp := fun vs H Q _ => ∃ (a c tl : Addr) (b : Bakery) (d : Dg) (t : Nat), vs = [.ref a, .int (t : Nat), .ref tl] ∧ DoughAt CD H (Sr98.hours b) a c d ∧ H tl = some (.lst (vNat b.temperatures)) ∧
  t ≤ Sr98.hours b ∧ Sr98.hours b ≤ 36 ∧ d.mixedAt ≤ t ∧ Q (.bl (Sr98.canBakeAt b d t)) H
theorem scCan : FnScope ["self", "t", "temperatures"] ["self", "t", "temperatures"] (defScope sCan) := ⟨rfl, rfl, rfl, by decide +kernel, rfl, by decide +kernel, by decide +kernel⟩
theorem ok_can (T : TD K mg CD) (F : MFun K CD "can_be_put_in" "Dough.can_be_put_in" sCan) (R : MOk P w K mg base 1 CD "risen_by" ["self", "t", "temperatures"] (spRisen CD)) :
    MOk P w K mg base 2 CD "can_be_put_in" ["self", "t", "temperatures"] (spCan CD) := by
  obtain ⟨f, fd, F, M⟩ := F.ex
  refine ⟨f, fd, F.ok scCan (fun vs H Q E h => ?_) (fun cdv A outer s H vs Q E hr h => ?_), F.binds fun _ _ _ _ _ _ us hl => match us, hl with | [_, _, _], _ => rfl, M⟩
  · obtain ⟨a, c, tl, b, d, t, rfl, _⟩ := h
    rfl
  · obtain ⟨a, c, tl, b, d, t, rfl, D, hT, ht, hh, hm, k⟩ := h
    obtain ⟨dx, hI⟩ := D.ins
    refine ⟨_, pss_one (ps_ret (pe_chain op_le op_le (pe_fld (pv 0) rfl) (pe_m (pv 0) T.cl R hr (pa_cons (pv 1) (pa_cons (pv 2) pa_nil))) (pe_fld (pv 0) rfl))), ?_⟩
    refine ⟨_, rfl, a, CD, dx, _, _, rfl, hI, T.cl, T.nMin, dF_min d c, _, rfl, a, dx, _, rfl, hI, dF_no d c (by decide +kernel) (by decide +kernel) (by decide +kernel) (by decide +kernel), _, rfl, _, rfl,
      a, c, tl, b, d, t, rfl, D, hT, ht, hh, _, _, rfl, rfl, _, rfl, ?_⟩
    have e : Sr98.canBakeAt b d t = (decide (d.minimum ≤ Sr98.risen b d t) && decide (Sr98.risen b d t ≤ d.maximum)) := by
      unfold Sr98.canBakeAt
      rw [decide_eq_true hm, decide_eq_true ht]
      rfl
    rw [e] at k
    by_cases h1 : d.minimum ≤ Sr98.risen b d t
    · rw [decide_eq_true (show ((d.minimum : Nat) : Int) ≤ (Sr98.risen b d t : Nat) by omega)]
      rw [decide_eq_true h1, Bool.true_and] at k
      refine iteT ⟨_, rfl, a, CD, dx, _, _, rfl, hI, T.cl, T.nMax, dF_max d c, _, _, rfl, rfl, ?_⟩
      show Q (.bl (decide (((Sr98.risen b d t : Nat) : Int) ≤ (d.maximum : Nat)))) H
      rw [show decide (((Sr98.risen b d t : Nat) : Int) ≤ (d.maximum : Nat)) = decide (Sr98.risen b d t ≤ d.maximum) from decide_eq_decide.mpr (by omega)]
      exact k
    · rw [decide_eq_false (show ¬ ((d.minimum : Nat) : Int) ≤ (Sr98.risen b d t : Nat) by omega)]
      rw [decide_eq_false h1, Bool.false_and] at k
      exact iteF k
/-! ### times_of_window -/
def winV (b : Bakery) (d : Dg) : List V := match Sr98.window b d with
  | none => []
  | some w => [.int (w.1 : Nat), .int (w.2 : Nat)]
def spTimes (CD : Addr) : Sp := fun vs H Q _ => ∃ (a c tl : Addr) (b : Bakery) (d : Dg), vs = [.ref a, .ref tl] ∧ DoughAt CD H (Sr98.hours b) a c d ∧ H tl = some (.lst (vNat b.temperatures)) ∧
  Sr98.hours b ≤ 36 ∧ ∀ (H' : Hp) (p : Addr), Same H H' → H p = none → H' p = some (.lst (winV b d)) → Q (.ref p) H'
theorem scTimes : FnScope ["self", "temperatures", "last", "times", "t"] ["self", "temperatures"] (defScope sTimes) := ⟨rfl, rfl, rfl, by decide +kernel, rfl, by decide +kernel, by decide +kernel⟩
theorem vNat_len (l : List Nat) : (vNat l).length = l.length := by simp [vNat]
theorem vNat_app (l r : List Nat) : vNat (l ++ r) = vNat l ++ vNat r := by simp [vNat]
theorem winUp_len (b : Bakery) (d : Dg) (i : Nat) : (winUp b d i).length ≤ i := by
  unfold winUp
  refine Nat.le_trans (List.length_filter_le _ _) ?_
  rw [List.length_map, List.length_range]
  exact Nat.le_refl _
theorem ok_times (T : TD K mg CD) (F : MFun K CD "times_of_window" "Dough.times_of_window" sTimes) (G : MOk P w K mg base 2 CD "can_be_put_in" ["self", "t", "temperatures"] (spCan CD)) :
    MOk P w K mg base 3 CD "times_of_window" ["self", "temperatures"] (spTimes CD) := by
  obtain ⟨f, fd, F, M⟩ := F.ex
  refine ⟨f, fd, F.ok scTimes (fun vs H Q E h => ?_) (fun cdv A outer s H vs Q E hr h => ?_), F.binds fun _ _ _ _ _ _ us hl => match us, hl with | [_, _], _ => rfl, M⟩
  · obtain ⟨a, c, tl, b, d, rfl, _⟩ := h
    rfl
  · obtain ⟨a, c, tl, b, d, rfl, D, hT, hh, k⟩ := h
    obtain ⟨dx, hI⟩ := D.ins
    refine ⟨_, pss_cons (ps_set (i := 2) scTimes.nd rfl (Or.inl rfl) (pe_callB call_len_seq (by rfl) T.len PySem.boot_len (pa_cons (pv 1) pa_nil)))
      (pss_cons (ps_setLc (i := 3) (own := [("t", 4)]) (g := gName 4) rfl scTimes.nd rfl rfl (sw_true rfl rfl rfl (by decide +kernel))
        (pi_range2 (by rfl) T.range (pa_cons (pe_fld (pv 0) rfl) (pa_cons (pe_op op_add (pv 2) pe_int) pa_nil)))
        (blkOk_by (N := ["self", "temperatures", "last", "times", "t"]) (sc := defScope sTimes) (by decide +kernel))
        (fun _ _ _ _ _ => pg_name (i := 4) scTimes.nd rfl (Or.inl rfl))
        (fun _ _ _ _ _ => pts_one (pt_val (pe_m (pv 0) T.cl G hr (pa_cons (pv 4) (pa_cons (pv 1) pa_nil)))))
        (fun _ _ _ _ _ => pv 4))
      (pss_cons (ps_if (pt_cmpR op_eq (pe_callB call_len_seq (by rfl) T.len PySem.boot_len (pa_cons (pv 3) pa_nil)) pe_int (nomark _)) (pss_one (ps_ret (pe_lst pa_nil))) pss_nil)
      (pss_one (ps_ret (pe_lst (pa_cons (pe_ix ix_list (pv 3) pe_int (fun _ _ => rfl)) (pa_cons (pe_ix ix_list (pv 3) (pe_un un_neg pe_int) (fun _ _ => rfl)) pa_nil))))))), ?_⟩
    have hlen : b.temperatures.length = Sr98.hours b := rfl
    refine ⟨_, rfl, tl, _, rfl, .inl (SqL.of hT), ?_⟩
    rw [vNat_len, hlen]
    have hmx := D.mix
    refine ⟨_, rfl, a, CD, dx, _, _, rfl, hI, T.cl, T.nMix, dF_mixed d c, _, rfl, _, _, rfl, rfl, _, _, rfl, ⟨by omega, by omega, by omega, by omega⟩, fun L hL => ?_⟩
    refine lc_range (lo := (d.mixedAt : Nat)) (n := (((Sr98.hours b : Nat) : Int) + 1 - (d.mixedAt : Nat)).toNat) (fun i H' => H' L = some (.lst (vNat (winUp b d i))) ∧ Same H H') ⟨upd_same, same_new hL⟩ ?_ ?_
    · rintro i H' hi ⟨hl, s1⟩
      have e1 : ((d.mixedAt : Nat) : Int) + (i : Int) = ((d.mixedAt + i : Nat) : Int) := by omega
      have D' : DoughAt CD H' (Sr98.hours b) a c d := D.keep (keeps_of_same s1 []) (by simp) (by simp)
      refine ⟨rfl, _, rfl, a, dx, _, rfl, s1 _ _ hI, dF_no d c (by decide +kernel) (by decide +kernel) (by decide +kernel) (by decide +kernel), _, rfl, _, rfl,
        a, c, tl, b, d, d.mixedAt + i, (by rw [e1]; rfl), D', s1 _ _ hT, by omega, hh, by omega, _, rfl, ?_⟩
      have step := winUp_succ b d i
      cases hc : Sr98.canBakeAt b d (d.mixedAt + i) with
      | true =>
        rw [hc, if_pos rfl] at step
        refine iteT ⟨_, rfl, _, hl, ?_, ?_, ?_⟩
        · rw [vNat_len]
          exact Nat.lt_of_le_of_lt (winUp_len b d i) (small1000 (by omega))
        · rw [upd_same, step, vNat_app, e1]
          rfl
        · intro q o e
          rw [upd_ne (ne_of_none e hL)]
          exact s1 q o e
      | false =>
        rw [hc, if_neg (by simp), List.append_nil] at step
        refine iteF ⟨?_, s1⟩
        rw [step]
        exact hl
    · rintro H' ⟨hl, s1⟩
      rw [show (((Sr98.hours b : Nat) : Int) + 1 - (d.mixedAt : Nat)).toNat = Sr98.hours b + 1 - d.mixedAt by omega, winUp_all hmx] at hl
      refine ⟨_, rfl, L, _, rfl, .inl (SqL.of hl), rfl, _, rfl, ?_⟩
      cases hw : Sr98.window b d with
      | none =>
        have e0 := winTimes_none hw
        rw [e0] at hl ⊢
        refine iteT ⟨Nat.zero_le _, fun p hp => ?_⟩
        refine k _ p (fun q o e => by rw [upd_ne (ne_of_none (s1 q o e) hp)]; exact s1 q o e) (Same.free s1 hp) ?_
        rw [upd_same]
        unfold winV
        rw [hw]
      | some ww =>
        obtain ⟨n0, e1, e2⟩ := window_iff hw
        have hp0 : 0 < (winTimes b d).length := List.length_pos_iff.mpr n0
        have ez : (decide (V.int (((vNat (winTimes b d)).length : Nat) : Int) = V.int 0)) = false := by
          refine decide_eq_false fun q => ?_
          have q2 : (((vNat (winTimes b d)).length : Nat) : Int) = 0 := V.int.inj q
          rw [vNat_len] at q2
          omega
        refine (show (if decide (V.int (((vNat (winTimes b d)).length : Nat) : Int) = V.int 0) = true then _ else _) from ?_)
        rw [ez]
        have ef : (vNat (winTimes b d))[0]? = some (.int (ww.1 : Nat)) := by
          unfold vNat
          rw [List.getElem?_map, ← List.head?_eq_getElem?, e1]
          rfl
        have el : atI (vNat (winTimes b d)) (-1) = some (.int (ww.2 : Nat)) := by
          obtain ⟨r, er⟩ : ∃ r, winTimes b d = r ++ [ww.2] := by
            rw [List.getLast?_eq_some_iff] at e2
            exact e2
          rw [er, vNat_app]
          exact atI_last _ _
        refine iteF ⟨_, rfl, L, _, _, _, rfl, rfl, SqL.of hl, at_of (j := 0) rfl ef, _, rfl, _, rfl, L, _, _, _, rfl, rfl, SqL.of hl, el, (by show 2 ≤ sizeLine; decide), fun p hp => ?_⟩
        refine k _ p (fun q o e => by rw [upd_ne (ne_of_none (s1 q o e) hp)]; exact s1 q o e) (Same.free s1 hp) ?_
        rw [upd_same]
        unfold winV
        rw [hw]
end
end Bk
namespace Bk
open PySem PySem.Spec PyProof.Rows L2
open PySem.W (Codec)
open Sr98 (Bakery)
open SrCommon (inRange)
structure TL (mg : Str → Option Value) : Prop where
  mostH : ConstI mg "MOST_HOURS" 36
  longB : ConstI mg "LONGEST_BAKING" 9
  highT : ConstI mg "HIGHEST_TEMPERATURE" 40
  highA : ConstI mg "HIGHEST_AMOUNT" 999
section
variable {P : Program} {w : World} {K : PySem.W.Frag} {mg : Str → Option Value} {base : Heap}
abbrev sIsH : Stmt := top 31
abbrev sIsB : Stmt := top 32
abbrev sIsT : Stmt := top 33
abbrev sAre : Stmt := top 34
def spIn (lo hi : Int) : Sp := fun vs H Q _ => ∃ x : Int, vs = [.int x] ∧ Q (.bl (inRange x lo hi)) H
theorem inRange_of {x lo hi : Int} {H : Hp} {Q : VK} (k : Q (.bl (inRange x lo hi)) H) : (if decide (lo ≤ x) = true then Q (.bl (decide (x ≤ hi))) H else Q (.bl false) H) := by
  unfold inRange at k
  by_cases h : lo ≤ x
  · rw [decide_eq_true h] at k ⊢
    exact iteT k
  · rw [decide_eq_false h] at k ⊢
    exact iteF k
theorem scIsH : FnScope ["h"] ["h"] (defScope sIsH) := ⟨rfl, rfl, rfl, by decide +kernel, rfl, by decide +kernel, by decide +kernel⟩
theorem scIsB : FnScope ["p"] ["p"] (defScope sIsB) := ⟨rfl, rfl, rfl, by decide +kernel, rfl, by decide +kernel, by decide +kernel⟩
theorem scIsT : FnScope ["temperature"] ["temperature"] (defScope sIsT) := ⟨rfl, rfl, rfl, by decide +kernel, rfl, by decide +kernel, by decide +kernel⟩
theorem scAre : FnScope ["minimum", "maximum"] ["minimum", "maximum"] (defScope sAre) := ⟨rfl, rfl, rfl, by decide +kernel, rfl, by decide +kernel, by decide +kernel⟩
theorem inRange_go {x lo hi : Int} {H : Hp} {Q : VK} (k : Q (.bl (inRange x lo hi)) H) : if decide (lo ≤ x) = true then (∃ i j : Int, V.int x = .int i ∧ V.int hi = .int j ∧ Q (.bl (decide (i ≤ j))) H) else Q (.bl false) H := by
  have q := inRange_of k
  by_cases h : lo ≤ x
  · rw [decide_eq_true h] at q ⊢
    rw [if_pos rfl] at q
    exact iteT ⟨_, _, rfl, rfl, q⟩
  · rw [decide_eq_false h] at q ⊢
    rw [if_neg Bool.false_ne_true] at q
    exact iteF q
theorem ok_isH (T : TL mg) (F : GFun K mg "is_number_of_hours" sIsH) : GOk P w K mg base 1 "is_number_of_hours" ["h"] (spIn 1 36) := by
  obtain ⟨f, fd, F, n⟩ := F.ex
  refine ⟨f, fd, F.ok scIsH (fun vs H Q E h => ?_) (fun cdv A outer s H vs Q E hr h => ?_), F.binds fun _ _ _ _ _ _ us hl => match us, hl with | [_], _ => rfl, n, F.kp⟩
  · obtain ⟨x, rfl, _⟩ := h
    rfl
  · obtain ⟨x, rfl, k⟩ := h
    refine ⟨_, pss_one (ps_ret (pe_chain op_le op_le pe_int (pv 0) (pe_const T.mostH))), ?_⟩
    exact ⟨_, rfl, _, _, rfl, rfl, _, rfl, inRange_go k⟩
theorem ok_isB (T : TL mg) (F : GFun K mg "is_baking_time" sIsB) : GOk P w K mg base 1 "is_baking_time" ["p"] (spIn 1 9) := by
  obtain ⟨f, fd, F, n⟩ := F.ex
  refine ⟨f, fd, F.ok scIsB (fun vs H Q E h => ?_) (fun cdv A outer s H vs Q E hr h => ?_), F.binds fun _ _ _ _ _ _ us hl => match us, hl with | [_], _ => rfl, n, F.kp⟩
  · obtain ⟨x, rfl, _⟩ := h
    rfl
  · obtain ⟨x, rfl, k⟩ := h
    refine ⟨_, pss_one (ps_ret (pe_chain op_le op_le pe_int (pv 0) (pe_const T.longB))), ?_⟩
    exact ⟨_, rfl, _, _, rfl, rfl, _, rfl, inRange_go k⟩
theorem ok_isT (T : TL mg) (F : GFun K mg "is_temperature" sIsT) : GOk P w K mg base 1 "is_temperature" ["temperature"] (spIn 0 40) := by
  obtain ⟨f, fd, F, n⟩ := F.ex
  refine ⟨f, fd, F.ok scIsT (fun vs H Q E h => ?_) (fun cdv A outer s H vs Q E hr h => ?_), F.binds fun _ _ _ _ _ _ us hl => match us, hl with | [_], _ => rfl, n, F.kp⟩
  · obtain ⟨x, rfl, _⟩ := h
    rfl
  · obtain ⟨x, rfl, k⟩ := h
    refine ⟨_, pss_one (ps_ret (pe_chain op_le op_le pe_int (pv 0) (pe_const T.highT))), ?_⟩
    exact ⟨_, rfl, _, _, rfl, rfl, _, rfl, inRange_go k⟩
def spAre : Sp := fun vs H Q _ => ∃ x y : Int, vs = [.int x, .int y] ∧ Q (.bl (decide (1 ≤ x) && (decide (x ≤ y) && decide (y ≤ 999)))) H
theorem ok_are (T : TL mg) (F : GFun K mg "are_amounts" sAre) : GOk P w K mg base 1 "are_amounts" ["minimum", "maximum"] spAre := by
  obtain ⟨f, fd, F, n⟩ := F.ex
  refine ⟨f, fd, F.ok scAre (fun vs H Q E h => ?_) (fun cdv A outer s H vs Q E hr h => ?_), F.binds fun _ _ _ _ _ _ us hl => match us, hl with | [_, _], _ => rfl, n, F.kp⟩
  · obtain ⟨x, y, rfl, _⟩ := h
    rfl
  · obtain ⟨x, y, rfl, k⟩ := h
    refine ⟨_, pss_one (ps_ret (pe_chain3 op_le op_le op_le pe_int (pv 0) (pv 1) (pe_const T.highA))), ?_⟩
    refine ⟨_, rfl, _, _, rfl, rfl, _, rfl, ?_⟩
    by_cases h1 : (1 : Int) ≤ x
    · rw [decide_eq_true h1] at k ⊢
      rw [Bool.true_and] at k
      refine iteT ⟨_, rfl, _, _, rfl, rfl, _, rfl, ?_⟩
      by_cases h2 : x ≤ y
      · rw [decide_eq_true h2] at k ⊢
        rw [Bool.true_and] at k
        exact iteT ⟨_, _, rfl, rfl, k⟩
      · rw [decide_eq_false h2] at k ⊢
        exact iteF k
    · rw [decide_eq_false h1] at k ⊢
      exact iteF k
end
end Bk
namespace Bk
open PySem PySem.Spec PyProof.Rows L2
open PySem.W (Codec)
structure TLay (K : PySem.W.Frag) (mg : Str → Option Value) : Prop where
  whole : ∃ a, mg "WHOLE_NUMBERS" = some (.ref a) ∧ ∀ H, SqT K H a (vNat wn)
  st : ConstI mg "START_TIMES" 10
  len : mg "len" = none
section
variable {P : Program} {w : World} {K : PySem.W.Frag} {mg : Str → Option Value} {base : Heap}
abbrev sEnd : Stmt := top 17
abbrev sSingle : Stmt := top 18
theorem vInt_at {l : List Int} {i : Nat} {z : Int} (h : l[i]? = some z) : (vInt l)[i]? = some (.int z) := by
  unfold vInt
  rw [List.getElem?_map, h]
  rfl
theorem vInt_len (l : List Int) : (vInt l).length = l.length := by simp [vInt]
theorem at_mid {pre l post : List Int} {i : Nat} {z : Int} (h : l[i]? = some z) : (pre ++ (l ++ post))[pre.length + i]? = some z := by
  rw [List.getElem?_append_right (by omega), show pre.length + i - pre.length = i by omega, List.getElem?_append_left (List.getElem?_eq_some_iff.mp h).1]
  exact h
def spEnd (K : PySem.W.Frag) : Sp := fun vs H Q _ => ∃ (a : Addr) (l pre post : List Int) (c : List (List Int)), vs = [.ref a, .int (pre.length : Nat)] ∧ SqL K H a (vInt l) ∧ l = pre ++ (flat1 c ++ post) ∧ Sr98Neutral.asked1 c = true ∧
  Q (.int ((pre.length + (flat1 c).length : Nat) : Int)) H
theorem scEnd : FnScope ["calls", "place", "number", "end"] ["calls", "place"] (defScope sEnd) := ⟨rfl, rfl, rfl, by decide +kernel, rfl, by decide +kernel, by decide +kernel⟩
theorem ok_end (T : TLay K mg) (F : GFun K mg "end_of_call" sEnd) : GOk P w K mg base 1 "end_of_call" ["calls", "place"] (spEnd K) := by
  obtain ⟨f, fd, F, n⟩ := F.ex
  refine ⟨f, fd, F.ok scEnd (fun vs H Q E h => ?_) (fun cdv A outer s H vs Q E hr h => ?_), F.binds fun _ _ _ _ _ _ us hl => match us, hl with | [_, _], _ => rfl, n, F.kp⟩
  · obtain ⟨a, l, pre, post, c, rfl, _⟩ := h
    rfl
  · obtain ⟨a, l, pre, post, c, rfl, hS, rfl, hc, k⟩ := h
    obtain ⟨aw, hw, hW⟩ := T.whole
    refine ⟨_, pss_cons (ps_set (i := 2) scEnd.nd rfl (Or.inl rfl) (pe_ix ix_list (pv 0) (pv 1) (fun _ _ => rfl)))
      (pss_cons (ps_set (i := 3) scEnd.nd rfl (Or.inl rfl) (pe_op op_add (pe_op op_add (pv 1) pe_int) (pe_ix ix_tup (pe_glob (v := .ref aw) (by rfl) hw rfl) (pv 2) (fun _ _ => rfl))))
      (pss_cons (ps_if (pt_cmpR op_eq (pv 2) (pe_const T.st) (nomark _)) (pss_one (ps_ret (pe_op op_add (pv 3) (pe_ix ix_list (pv 0) (pe_op op_add (pv 1) pe_int) (fun _ _ => rfl))))) pss_nil)
      (pss_one (ps_ret (pv 3))))), ?_⟩
    obtain ⟨p, kk, hk, h0, hcase⟩ := asked_call hc
    refine ⟨_, rfl, _, rfl, a, _, _, _, rfl, rfl, hS, at_of rfl (vInt_at (by simpa using at_mid (pre := pre) (post := post) h0)), ?_⟩
    have hkw : (vNat wn)[p]? = some (.int (kk : Nat)) := by
      unfold vNat
      rw [List.getElem?_map, hk]
      rfl
    refine ⟨_, rfl, _, _, rfl, rfl, _, rfl, aw, _, _, _, rfl, rfl, hW _, at_of rfl hkw, _, _, rfl, rfl, ?_⟩
    refine ⟨_, rfl, rfl, _, rfl, ?_⟩
    rcases hcase with ⟨hp, hl⟩ | ⟨rfl, rfl, r, rfl, hr70⟩
    · refine (show (if decide (V.int ((p : Nat) : Int) = V.int 10) = true then _ else _) from ?_)
      rw [decide_eq_false (fun q => by have q2 : ((p : Nat) : Int) = 10 := V.int.inj q; omega)]
      refine iteF ⟨_, rfl, ?_⟩
      have e : ((pre.length : Nat) : Int) + 1 + (kk : Nat) = ((pre.length + (flat1 c).length : Nat) : Int) := by omega
      show Q (.int (((pre.length : Nat) : Int) + 1 + (kk : Nat))) H
      rw [e]
      exact k
    · have h1 : (flat1 [[10], r])[1]? = some ((r.length : Nat) : Int) := rfl
      have e : (flat1 [[10], r]).length = 2 + r.length := by
        show ([10] ++ (((r.length : Int) :: r) ++ [])).length = _
        simp
        omega
      refine iteT ⟨_, rfl, _, rfl, _, rfl, _, _, rfl, rfl, a, _, _, _, rfl, rfl, hS, at_of (j := pre.length + 1) (by omega) (vInt_at (at_mid h1)), _, _, rfl, rfl, ?_⟩
      show Q (.int (((pre.length : Nat) : Int) + 1 + (1 : Nat) + (r.length : Nat))) H
      rw [show ((pre.length : Nat) : Int) + 1 + (1 : Nat) + (r.length : Nat) = ((pre.length + (flat1 [[10], r]).length : Nat) : Int) by omega]
      exact k
/-! ### single_calls -/
/-- so many lists at these places, what each holds -/
structure ListsAt (H : Hp) (as : List Addr) (ls : List (List Int)) : Prop where
  len : as.length = ls.length
  at_ : ∀ (j : Nat) (x : Addr) (l : List Int), as[j]? = some x → ls[j]? = some l → H x = some (.lst (vInt l))
def spSingle (K : PySem.W.Frag) : Sp := fun vs H Q _ => ∃ (a : Addr) (cs : List (List (List Int))), vs = [.ref a] ∧ SqL K H a (vInt (cs.flatMap flat1)) ∧ (∀ c ∈ cs, Sr98Neutral.asked1 c = true) ∧ cs.length ≤ 60 ∧
  ∀ (H' : Hp) (p : Addr) (as : List Addr), Same H H' → H p = none → (∀ x ∈ as, H x = none) → H' p = some (.lst (as.map V.ref)) → p ∉ as → ListsAt H' as (cs.map flat1) → Q (.ref p) H'
theorem scSingle : FnScope ["calls", "found", "place", "end"] ["calls"] (defScope sSingle) := ⟨rfl, rfl, rfl, by decide +kernel, rfl, by decide +kernel, by decide +kernel⟩
theorem ok_single (T : TLay K mg) (F : GFun K mg "single_calls" sSingle) (G : GOk P w K mg base 1 "end_of_call" ["calls", "place"] (spEnd K)) : GOk P w K mg base 2 "single_calls" ["calls"] (spSingle K) := by
  obtain ⟨f, fd, F, n⟩ := F.ex
  refine ⟨f, fd, F.ok scSingle (fun vs H Q E h => ?_) (fun cdv A outer s H vs Q E hr h => ?_), F.binds fun _ _ _ _ _ _ us hl => match us, hl with | [_], _ => rfl, n, F.kp⟩
  · obtain ⟨a, cs, rfl, _⟩ := h
    rfl
  · obtain ⟨a, cs, rfl, hS, hcs, h60, k⟩ := h
    refine ⟨_, pss_cons (ps_set (i := 1) scSingle.nd rfl (Or.inl rfl) (pe_lst pa_nil))
      (pss_cons (ps_set (i := 2) scSingle.nd rfl (Or.inl rfl) pe_int)
      (pss_cons (ps_while PassesOwn.never (pt_cmpR op_lt (pv 2) (pe_callB call_len_seq (by rfl) T.len PySem.boot_len (pa_cons (pv 0) pa_nil)) (nomark _))
        (pss_cons (ps_set (i := 3) scSingle.nd rfl (Or.inl rfl) (pe_g G hr rfl (pa_cons (pv 0) (pa_cons (pv 2) pa_nil))))
        (pss_cons (ps_expr (pe_bm PySem.F.plainAttrs_list PySem.F.slot_list_append PySem.F.type_list_append mt_append (pv 1) (pa_cons (pe_slice sl_list (pv 0) (po_some (pv 2)) (po_some (pv 3))) pa_nil)))
        (pss_one (ps_set (i := 2) scSingle.nd rfl (Or.inl rfl) (pv 3))))))
      (pss_one (ps_ret (pv 1))))), ?_⟩
    refine ⟨Nat.zero_le _, fun L hL => ?_⟩
    refine ⟨fun m σ H' => ∃ (i : Nat) (as : List Addr) (v : Option V), m = cs.length - i ∧ i ≤ cs.length ∧ σ = [some (.ref a), some (.ref L), some (.int (((cs.take i).flatMap flat1).length : Nat)), v] ∧
      Same H H' ∧ H' L = some (.lst (as.map V.ref)) ∧ (∀ x ∈ as, H x = none) ∧ L ∉ as ∧ ListsAt H' as ((cs.take i).map flat1),
      ⟨cs.length, 0, [], none, by simp, Nat.zero_le _, rfl, same_new hL, upd_same, by simp, by simp, ⟨rfl, fun j x l h => by simp at h⟩⟩, ?_⟩
    rintro m σ H' ⟨i, as, v, rfl, hi, rfl, s1, hl, hn, hLa, hA⟩
    refine ⟨_, rfl, _, rfl, a, _, rfl, .inl (s1.seq hS), _, _, rfl, rfl, _, rfl, ?_⟩
    rw [vInt_len]
    by_cases hlt : i < cs.length
    · obtain ⟨c, hc⟩ : ∃ c, cs[i]? = some c := ⟨_, List.getElem?_eq_getElem hlt⟩
      have hcm : c ∈ cs := List.mem_of_getElem? hc
      have hl1 := flat1_len (hcs c hcm)
      have ef := flat_take hc
      have etk : (cs.take (i + 1)).flatMap flat1 = (cs.take i).flatMap flat1 ++ flat1 c := by
        rw [take_snoc hc, List.flatMap_append]
        simp
      rw [decide_eq_true (show ((((cs.take i).flatMap flat1).length : Nat) : Int) < ((cs.flatMap flat1).length : Nat) by
        rw [ef]
        simp only [List.length_append]
        omega)]
      refine iteT ⟨fun σ' H2 => ∃ (as' : List Addr) (v' : Option V), σ' = [some (.ref a), some (.ref L), some (.int (((cs.take (i + 1)).flatMap flat1).length : Nat)), v'] ∧
        Same H H2 ∧ H2 L = some (.lst (as'.map V.ref)) ∧ (∀ x ∈ as', H x = none) ∧ L ∉ as' ∧ ListsAt H2 as' ((cs.take (i + 1)).map flat1),
        fun σ' H2 ⟨as', v', h1, h2, h3, h4, h5, h6⟩ => ⟨cs.length - (i + 1), by omega, i + 1, as', v', rfl, by omega, h1, h2, h3, h4, h5, h6⟩, ?_⟩
      refine ⟨_, rfl, _, rfl, a, _, _, _, c, rfl, s1.seq hS, ef, hcs c hcm, ?_⟩
      refine ⟨_, rfl, .inl ⟨rfl, _, SqL.of hl⟩, _, rfl, _, rfl, _, rfl, _, rfl, _, rfl, a, _, rfl, s1.seq hS, fun q hq => ?_⟩
      have hqL : L ≠ q := ne_of_none hl hq
      have hqa : q ∉ as := fun m => by
        obtain ⟨j, hj⟩ := List.mem_iff_getElem?.mp m
        have hj2 : j < ((cs.take i).map flat1).length := by
          rw [← hA.len]
          exact (List.getElem?_eq_some_iff.mp hj).1
        have := hA.at_ j q _ hj (List.getElem?_eq_getElem hj2)
        rw [hq] at this
        cases this
      have elen : as.length = i := by
        rw [hA.len, List.length_map, List.length_take]
        omega
      refine ⟨L, _, _, rfl, rfl, by rw [upd_ne hqL]; exact hl, by rw [List.length_map, elen]; exact small1000 (by omega), ?_⟩
      refine ⟨_, rfl, as ++ [q], some (.int (((cs.take (i + 1)).flatMap flat1).length : Nat)), ?_, ?_, ?_, ?_, ?_, ?_⟩
      · rw [etk, List.length_append]
        rfl
      · intro b o e
        rw [upd_ne (ne_of_none e hL), upd_ne (ne_of_none (s1 b o e) hq)]
        exact s1 b o e
      · rw [upd_same, List.map_append]
        rfl
      · intro x hx
        rcases List.mem_append.mp hx with hx | hx
        · exact hn x hx
        · rw [List.mem_singleton.mp hx]
          exact Same.free s1 hq
      · intro hx
        rcases List.mem_append.mp hx with hx | hx
        · exact hLa hx
        · exact hqL (List.mem_singleton.mp hx)
      · have ecut : cutV (vInt (cs.flatMap flat1)) (some (((cs.take i).flatMap flat1).length : Nat)) (some ((((cs.take i).flatMap flat1).length + (flat1 c).length : Nat) : Int)) = vInt (flat1 c) := by
          unfold cutV
          rw [HT.sIx_nat, HT.sIx_nat, vInt_len, ef, List.length_append, List.length_append]
          rw [Nat.min_eq_left (by omega), Nat.min_eq_left (by omega)]
          unfold vInt
          rw [List.map_append, List.drop_append_of_le_length (by rw [List.length_map]; omega), List.drop_eq_nil_of_le (by rw [List.length_map]; omega), List.nil_append, List.map_append]
          rw [show ((cs.take i).flatMap flat1).length + (flat1 c).length - ((cs.take i).flatMap flat1).length = ((flat1 c).map V.int).length by rw [List.length_map]; omega]
          exact List.take_left
        refine ⟨by rw [List.length_append, hA.len, take_snoc hc, List.map_append, List.length_append]; rfl, fun j x l hj hjl => ?_⟩
        rw [take_snoc hc, List.map_append] at hjl
        by_cases hji : j < i
        · rw [List.getElem?_append_left (by omega)] at hj
          rw [List.getElem?_append_left (by rw [List.length_map, List.length_take]; omega)] at hjl
          have hx := hA.at_ j x l hj hjl
          rw [upd_ne (fun z => hLa (by rw [← z]; exact List.mem_of_getElem? hj)), upd_ne (fun z => hqa (by rw [← z]; exact List.mem_of_getElem? hj))]
          exact hx
        · rw [List.getElem?_append_right (by omega)] at hj
          rw [List.getElem?_append_right (by rw [List.length_map, List.length_take]; omega)] at hjl
          rw [List.length_map, List.length_take, Nat.min_eq_left (by omega)] at hjl
          rw [elen] at hj
          have ej : j - i = 0 := by
            have := (List.getElem?_eq_some_iff.mp hj).1
            simp at this
            omega
          rw [ej] at hj hjl
          cases hj
          cases hjl
          rw [upd_ne hqL.symm, upd_same, ecut]
    · have e : i = cs.length := by omega
      subst e
      rw [List.take_length] at hA ⊢
      rw [decide_eq_false (Int.lt_irrefl _)]
      refine iteF ⟨_, rfl, k H' L as s1 hL hn hl hLa hA⟩
end
end Bk
namespace Bk
open PySem PySem.Spec PyProof.Rows L2
open PySem.W (Codec)
open Sr98 (Bakery)
/-! ### a schedule in the heap -/
def sF (b : Bakery) (t l : Addr) : List (Str × V) := [("hours", .int (Sr98.hours b : Nat)), ("baking_time", .int (b.bakingTime : Nat)), ("temperatures", .ref t), ("doughs", .ref l)]
theorem sF_hours (b : Bakery) (t l : Addr) : (sF b t l).lookup ("hours" : Str) = some (.int (Sr98.hours b : Nat)) := lk_here
theorem sF_bake (b : Bakery) (t l : Addr) : (sF b t l).lookup ("baking_time" : Str) = some (.int (b.bakingTime : Nat)) := (lk_past (by decide +kernel)).trans lk_here
theorem sF_temp (b : Bakery) (t l : Addr) : (sF b t l).lookup ("temperatures" : Str) = some (.ref t) := (lk_past (by decide +kernel)).trans ((lk_past (by decide +kernel)).trans lk_here)
theorem sF_doughs (b : Bakery) (t l : Addr) : (sF b t l).lookup ("doughs" : Str) = some (.ref l) := (lk_past (by decide +kernel)).trans ((lk_past (by decide +kernel)).trans ((lk_past (by decide +kernel)).trans lk_here))
theorem sF_no (b : Bakery) (t l : Addr) {m : Str} (h1 : (m == ("hours" : Str)) = false) (h2 : (m == ("baking_time" : Str)) = false) (h3 : (m == ("temperatures" : Str)) = false) (h4 : (m == ("doughs" : Str)) = false) : (sF b t l).lookup m = none :=
  (lk_past h1).trans ((lk_past h2).trans ((lk_past h3).trans ((lk_past h4).trans rfl)))
theorem sF_put (b : Bakery) (t l : Addr) (p : Nat) : putF "baking_time" (.int (p : Nat)) (sF b t l) = sF { b with bakingTime := p } t l := (put_past (by decide +kernel)).trans (congrArg _ put_here)
structure Wf (b : Bakery) : Prop where
  h1 : 1 ≤ Sr98.hours b
  h36 : Sr98.hours b ≤ 36
  p1 : 1 ≤ b.bakingTime
  p9 : b.bakingTime ≤ 9
  six : b.doughs.length ≤ 6
structure SchedAt (CS CD : Addr) (H : Hp) (s t l : Addr) (as : List (Addr × Addr)) (b : Bakery) : Prop where
  ins : ∃ dx, H s = some (.ins CS dx (sF b t l))
  tmp : H t = some (.lst (vNat b.temperatures))
  lst : H l = some (.lst (as.map fun p => V.ref p.1))
  len : as.length = b.doughs.length
  each : ∀ (j : Nat) (p : Addr × Addr) (d : Dg), as[j]? = some p → b.doughs[j]? = some d → DoughAt CD H (Sr98.hours b) p.1 p.2 d
  nda : (as.map Prod.fst).Nodup
  ndc : (as.map Prod.snd).Nodup
  tl : t ≠ l
  ct : ∀ p ∈ as, p.2 ≠ t ∧ p.2 ≠ l
  wf : Wf b
def foot (s t l : Addr) (as : List (Addr × Addr)) : List Addr := s :: t :: l :: as.flatMap fun p => [p.1, p.2]
theorem foot_s {s t l : Addr} {as : List (Addr × Addr)} : s ∈ foot s t l as := List.mem_cons_self ..
theorem foot_t {s t l : Addr} {as : List (Addr × Addr)} : t ∈ foot s t l as := List.mem_cons_of_mem _ (List.mem_cons_self ..)
theorem foot_l {s t l : Addr} {as : List (Addr × Addr)} : l ∈ foot s t l as := List.mem_cons_of_mem _ (List.mem_cons_of_mem _ (List.mem_cons_self ..))
theorem foot_a {s t l : Addr} {as : List (Addr × Addr)} {p : Addr × Addr} (h : p ∈ as) : p.1 ∈ foot s t l as := List.mem_cons_of_mem _ (List.mem_cons_of_mem _ (List.mem_cons_of_mem _ (List.mem_flatMap.mpr ⟨p, h, by simp⟩)))
theorem foot_c {s t l : Addr} {as : List (Addr × Addr)} {p : Addr × Addr} (h : p ∈ as) : p.2 ∈ foot s t l as := List.mem_cons_of_mem _ (List.mem_cons_of_mem _ (List.mem_cons_of_mem _ (List.mem_flatMap.mpr ⟨p, h, by simp⟩)))
theorem mem_foot {s t l x : Addr} {as : List (Addr × Addr)} (h : x ∈ foot s t l as) : x = s ∨ x = t ∨ x = l ∨ ∃ p ∈ as, x = p.1 ∨ x = p.2 := by
  unfold foot at h
  rcases List.mem_cons.mp h with h | h
  · exact .inl h
  · rcases List.mem_cons.mp h with h | h
    · exact .inr (.inl h)
    · rcases List.mem_cons.mp h with h | h
      · exact .inr (.inr (.inl h))
      · obtain ⟨p, hp, hx⟩ := List.mem_flatMap.mp h
        refine .inr (.inr (.inr ⟨p, hp, ?_⟩))
        simpa using hx
section
variable {CS CD : Addr} {H H' : Hp} {s t l : Addr} {as : List (Addr × Addr)} {b : Bakery}
theorem SchedAt.dough (S : SchedAt CS CD H s t l as b) {j : Nat} (h : j < b.doughs.length) : ∃ p d, as[j]? = some p ∧ b.doughs[j]? = some d ∧ p ∈ as ∧ Sr98.doughAt b j = d ∧ DoughAt CD H (Sr98.hours b) p.1 p.2 d := by
  have h2 : j < as.length := by rw [S.len]; exact h
  refine ⟨as[j], b.doughs[j], List.getElem?_eq_getElem h2, List.getElem?_eq_getElem h, List.getElem_mem h2, ?_, S.each j _ _ (List.getElem?_eq_getElem h2) (List.getElem?_eq_getElem h)⟩
  unfold Sr98.doughAt
  rw [List.getD_eq_getElem?_getD, List.getElem?_eq_getElem h]
  rfl
theorem SchedAt.mem (S : SchedAt CS CD H s t l as b) {p : Addr × Addr} (h : p ∈ as) : ∃ d, DoughAt CD H (Sr98.hours b) p.1 p.2 d := by
  obtain ⟨j, hj⟩ := List.mem_iff_getElem?.mp h
  have h2 : j < b.doughs.length := by
    rw [← S.len]
    exact (List.getElem?_eq_some_iff.mp hj).1
  exact ⟨_, S.each j p _ hj (List.getElem?_eq_getElem h2)⟩
theorem SchedAt.there (S : SchedAt CS CD H s t l as b) {x : Addr} (h : x ∈ foot s t l as) : ∃ o, H x = some o := by
  rcases mem_foot h with rfl | rfl | rfl | ⟨p, hp, e⟩
  · obtain ⟨_, e⟩ := S.ins
    exact ⟨_, e⟩
  · exact ⟨_, S.tmp⟩
  · exact ⟨_, S.lst⟩
  · obtain ⟨d, D⟩ := S.mem hp
    rcases e with rfl | rfl
    · obtain ⟨_, e⟩ := D.ins
      exact ⟨_, e⟩
    · exact ⟨_, D.lst⟩
theorem SchedAt.keep (S : SchedAt CS CD H s t l as b) {F : List Addr} (k : Keeps F H H') (n : ∀ x ∈ foot s t l as, x ∉ F) : SchedAt CS CD H' s t l as b := by
  obtain ⟨dx, e⟩ := S.ins
  refine ⟨⟨dx, k _ _ e (n _ foot_s)⟩, k _ _ S.tmp (n _ foot_t), k _ _ S.lst (n _ foot_l), S.len, fun j p d hp hd => ?_, S.nda, S.ndc, S.tl, S.ct, S.wf⟩
  have hm := List.mem_of_getElem? hp
  exact (S.each j p d hp hd).keep k (n _ (foot_a hm)) (n _ (foot_c hm))
theorem SchedAt.same (S : SchedAt CS CD H s t l as b) (k : Same H H') : SchedAt CS CD H' s t l as b := S.keep (keeps_of_same k []) (by simp)
theorem SchedAt.nfoot (S : SchedAt CS CD H s t l as b) {x : Addr} (h : H x = none) : x ∉ foot s t l as := fun m => by
  obtain ⟨o, e⟩ := S.there m
  rw [e] at h
  cases h
/-- the doughs and the schedule are instances, the rest are lists -/
theorem SchedAt.sne (S : SchedAt CS CD H s t l as b) {q : Addr} {xs : List V} (h : H q = some (.lst xs)) : s ≠ q := by
  obtain ⟨dx, e⟩ := S.ins
  exact ne_of e h (by intro z; cases z)
theorem SchedAt.ane (S : SchedAt CS CD H s t l as b) {q : Addr} {xs : List V} (h : H q = some (.lst xs)) {p : Addr × Addr} (hp : p ∈ as) : p.1 ≠ q := by
  obtain ⟨d, D⟩ := S.mem hp
  obtain ⟨dx, e⟩ := D.ins
  exact ne_of e h (by intro z; cases z)
end
/-! ### what a call is worth -/
def after (b : Bakery) (c : Sr98.Call) : Bakery := (Sr98.perform b c).1.getD b
def ans (b : Bakery) (c : Sr98.Call) : List Int := (Sr98.perform b c).2.code :: (Sr98.perform b c).2.values
/-- behind a call: the schedule as it is due, the answer as a new list, all else as it was -/
def Done (CS CD : Addr) (H : Hp) (s t l : Addr) (as : List (Addr × Addr)) (b : Bakery) (c : Sr98.Call) (Q : VK) : Prop :=
  ∀ (H' : Hp) (p : Addr) (as' : List (Addr × Addr)), SchedAt CS CD H' s t l as' (after b c) → Keeps (foot s t l as) H H' → (∀ x ∈ foot s t l as', x ∈ foot s t l as ∨ H x = none) →
    H' p = some (.lst (vInt (ans b c))) → H p = none → p ∉ foot s t l as' → Q (.ref p) H'
theorem Done.go {CS CD : Addr} {H H1 : Hp} {s t l p : Addr} {as as' : List (Addr × Addr)} {b : Bakery} {c : Sr98.Call} {Q : VK} {ns : List Int} (D : Done CS CD H s t l as b c Q) (S : SchedAt CS CD H1 s t l as' (after b c))
    (k : Keeps (foot s t l as) H H1) (n : ∀ x ∈ foot s t l as', x ∈ foot s t l as ∨ H x = none) (hs : ∀ x, H1 x = none → H x = none) (hp : H1 p = none) (e : ans b c = ns) : Q (.ref p) (upd H1 p (.lst (vInt ns))) := by
  subst e
  exact D _ p as' (S.same (same_new hp)) (fun x o h m => by rw [upd_ne (ne_of_none (k x o h m) hp)]; exact k x o h m) n upd_same (hs p hp) (S.nfoot hp)
/-- nothing is changed -/
theorem Done.quit {CS CD : Addr} {H H1 : Hp} {s t l p : Addr} {as : List (Addr × Addr)} {b : Bakery} {c : Sr98.Call} {Q : VK} {ns : List Int} {r : SrCommon.Result} (D : Done CS CD H s t l as b c Q) (S : SchedAt CS CD H s t l as b)
    (k : Same H H1) (hp : H1 p = none) (e : Sr98.perform b c = (none, r)) (er : r.code :: r.values = ns) : Q (.ref p) (upd H1 p (.lst (vInt ns))) := by
  have ea : after b c = b := by unfold after; rw [e]; rfl
  refine D.go (as' := as) (by rw [ea]; exact S.same k) (keeps_of_same k _) (fun x h => .inl h) (fun x h => Same.free k h) hp ?_
  unfold ans
  rw [e]
  exact er
theorem Done.shift {CS CD : Addr} {H H1 : Hp} {s t l : Addr} {as : List (Addr × Addr)} {b : Bakery} {c : Sr98.Call} {Q : VK} (D : Done CS CD H s t l as b c Q) (k : Same H H1) : Done CS CD H1 s t l as b c Q :=
  fun H' p as' S K n hp h0 hf => D H' p as' S ((keeps_of_same k _).trans K) (fun x hx => (n x hx).imp_right fun e => Same.free k e) hp (Same.free k h0) hf
/-- the class Schedule behind the top, and the constants of its file -/
structure TS' (K : PySem.W.Frag) (mg : Str → Option Value) (CS : Addr) : Prop where
  cl : Cls K CS
  nH : NoAttr K CS "hours"
  nB : NoAttr K CS "baking_time"
  nT : NoAttr K CS "temperatures"
  nD : NoAttr K CS "doughs"
  first : ConstI mg "FIRST_TEMPERATURE" 24
  miss : ConstI mg "MISSING" (-2)
  oor : ConstI mg "OUT_OF_RANGE" (-22)
  many : ConstI mg "TOO_MANY_DOUGHS" (-28)
  six : ConstI mg "DOUGHS_AT_MOST" 6
  noco : ConstI mg "NOT_COOLED" (-6)
  nowin : ConstI mg "NO_WINDOW" (-33)
section
variable {P : Program} {w : World} {K : PySem.W.Frag} {mg : Str → Option Value} {base : Heap} {CS CD : Addr}
abbrev iSched : Nat := 45
abbrev sSInit : Stmt := inClass (top iSched) 0
abbrev sHasH : Stmt := inClass (top iSched) 1
abbrev sHasD : Stmt := inClass (top iSched) 2
def spHasH (CS : Addr) : Sp := fun vs H Q _ => ∃ (s dx t l : Addr) (b : Bakery) (x : Int), vs = [.ref s, .int x] ∧ H s = some (.ins CS dx (sF b t l)) ∧ Q (.bl (Sr98.isHour b x)) H
theorem scHasH : FnScope ["self", "t"] ["self", "t"] (defScope sHasH) := ⟨rfl, rfl, rfl, by decide +kernel, rfl, by decide +kernel, by decide +kernel⟩
theorem isIndex_go {x : Int} {n : Nat} {H : Hp} {Q : VK} (k : Q (.bl (SrCommon.isIndex x n)) H) : if decide (0 ≤ x) = true then (∃ i j : Int, V.int x = .int i ∧ V.int (n : Nat) = .int j ∧ Q (.bl (decide (i < j))) H) else Q (.bl false) H := by
  unfold SrCommon.isIndex at k
  by_cases h : (0 : Int) ≤ x
  · rw [decide_eq_true h] at k ⊢
    exact iteT ⟨_, _, rfl, rfl, k⟩
  · rw [decide_eq_false h] at k ⊢
    exact iteF k
theorem ok_hasH (T : TS' K mg CS) (F : MFun K CS "has_hour" "Schedule.has_hour" sHasH) : MOk P w K mg base 1 CS "has_hour" ["self", "t"] (spHasH CS) := by
  obtain ⟨f, fd, F, M⟩ := F.ex
  refine ⟨f, fd, F.ok scHasH (fun vs H Q E h => ?_) (fun cdv A outer s H vs Q E hr h => ?_), F.binds fun _ _ _ _ _ _ us hl => match us, hl with | [_, _], _ => rfl, M⟩
  · obtain ⟨s, dx, t, l, b, x, rfl, _⟩ := h
    rfl
  · obtain ⟨s, dx, t, l, b, x, rfl, hI, k⟩ := h
    refine ⟨_, pss_one (ps_ret (pe_chain op_le op_lt pe_int (pv 1) (pe_fld (pv 0) rfl))), ?_⟩
    refine ⟨_, rfl, _, _, rfl, rfl, _, rfl, ?_⟩
    have q := isIndex_go (H := H) (Q := Q) (n := Sr98.hours b) (x := x) k
    by_cases h : (0 : Int) ≤ x
    · rw [decide_eq_true h] at q ⊢
      rw [if_pos rfl] at q
      exact iteT ⟨_, rfl, s, CS, dx, _, _, rfl, hI, T.cl, T.nH, sF_hours b t l, q⟩
    · rw [decide_eq_false h] at q ⊢
      rw [if_neg Bool.false_ne_true] at q
      exact iteF q
def spHasD (K : PySem.W.Frag) (CS : Addr) : Sp := fun vs H Q _ => ∃ (s dx t l : Addr) (xs : List V) (b : Bakery) (x : Int), vs = [.ref s, .int x] ∧ H s = some (.ins CS dx (sF b t l)) ∧ H l = some (.lst xs) ∧ xs.length = b.doughs.length ∧ Q (.bl (Sr98.isDough b x)) H
theorem scHasD : FnScope ["self", "i"] ["self", "i"] (defScope sHasD) := ⟨rfl, rfl, rfl, by decide +kernel, rfl, by decide +kernel, by decide +kernel⟩
theorem ok_hasD (T : TS' K mg CS) (hlen : mg "len" = none) (F : MFun K CS "has_dough" "Schedule.has_dough" sHasD) : MOk P w K mg base 1 CS "has_dough" ["self", "i"] (spHasD K CS) := by
  obtain ⟨f, fd, F, M⟩ := F.ex
  refine ⟨f, fd, F.ok scHasD (fun vs H Q E h => ?_) (fun cdv A outer s H vs Q E hr h => ?_), F.binds fun _ _ _ _ _ _ us hl => match us, hl with | [_, _], _ => rfl, M⟩
  · obtain ⟨s, dx, t, l, xs, b, x, rfl, _⟩ := h
    rfl
  · obtain ⟨s, dx, t, l, xs, b, x, rfl, hI, hl, hlen2, k⟩ := h
    refine ⟨_, pss_one (ps_ret (pe_chain op_le op_lt pe_int (pv 1) (pe_callB call_len_seq (by rfl) hlen PySem.boot_len (pa_cons (pe_fld (pv 0) rfl) pa_nil)))), ?_⟩
    refine ⟨_, rfl, _, _, rfl, rfl, _, rfl, ?_⟩
    have q := isIndex_go (H := H) (Q := Q) (n := b.doughs.length) (x := x) k
    by_cases h : (0 : Int) ≤ x
    · rw [decide_eq_true h] at q ⊢
      rw [if_pos rfl] at q
      refine iteT ⟨_, rfl, s, CS, dx, _, _, rfl, hI, T.cl, T.nD, sF_doughs b t l, l, _, rfl, .inl (SqL.of hl), ?_⟩
      rw [hlen2]
      exact q
    · rw [decide_eq_false h] at q ⊢
      rw [if_neg Bool.false_ne_true] at q
      exact iteF q
/-! ### __init__ -/
def spSInit (CS CD : Addr) : Sp := fun vs H Q _ => ∃ (s dx : Addr) (h p : Nat), vs = [.ref s, .int (h : Nat), .int (p : Nat)] ∧ H s = some (.ins CS dx []) ∧ 1 ≤ h ∧ h ≤ 36 ∧ 1 ≤ p ∧ p ≤ 9 ∧
  ∀ (H' : Hp) (t l : Addr), SchedAt CS CD H' s t l [] ⟨List.replicate h 24, [], p⟩ → H t = none → H l = none → Keeps [s] H H' → Q .non H'
theorem scSInit : FnScope ["self", "hours", "baking_time"] ["self", "hours", "baking_time"] (defScope sSInit) := ⟨rfl, rfl, rfl, by decide +kernel, rfl, by decide +kernel, by decide +kernel⟩
theorem rep_24 (h : Nat) : (List.replicate (h : Int).toNat [V.int 24]).flatten = vNat (List.replicate h 24) := by
  rw [Int.toNat_natCast]
  induction h with
  | zero => rfl
  | succ n ih =>
    rw [List.replicate_succ, List.flatten_cons, ih, List.replicate_succ]
    rfl
theorem ok_sinit (T : TS' K mg CS) (F : ∃ f fd, Fun K "__init__" "Schedule.__init__" sSInit f fd ∧ Mk K CS f) (n : mg "Schedule" = some (.ref CS)) : KOk P w K mg base 1 CS "Schedule" ["self", "hours", "baking_time"] (spSInit CS CD) := by
  obtain ⟨f, fd, F, M⟩ := F
  refine ⟨⟨f, fd, F.ok scSInit (fun vs H Q E h => ?_) (fun cdv A outer s H vs Q E hr h => ?_), F.binds fun _ _ _ _ _ _ us hl => match us, hl with | [_, _, _], _ => rfl, M⟩, n⟩
  · obtain ⟨s, dx, h, p, rfl, _⟩ := h
    rfl
  · obtain ⟨s, dx, h, p, rfl, hs, h1, h36, hp1, hp9, k⟩ := h
    refine ⟨_, pss_cons (ps_fld (pv 0) (pv 1) rfl) (pss_cons (ps_fld (pv 0) (pv 2) rfl)
      (pss_cons (ps_fld (pv 0) (pe_op op_rep (pe_lst (pa_cons (pe_const T.first) pa_nil)) (pv 1)) rfl)
      (pss_one (ps_fld (pv 0) (pe_lst pa_nil) rfl)))), ?_⟩
    refine ⟨_, rfl, _, rfl, s, CS, dx, _, rfl, hs, T.cl, T.nH, (by show 0 < 1000; decide), ?_⟩
    refine ⟨_, rfl, _, rfl, s, CS, dx, _, rfl, upd_same, T.cl, T.nB, (by show 1 < 1000; decide), ?_⟩
    rw [upd_upd]
    refine ⟨(by show 1 ≤ sizeLine; decide), fun q hq => ?_⟩
    have hqs : q ≠ s := fun e => by
      subst e
      rw [upd_same] at hq
      cases hq
    rw [upd_ne hqs] at hq
    refine ⟨_, rfl, q, _, _, rfl, rfl, upd_same, by omega, by omega, (by show 1 * (h : Int).toNat ≤ sizeLine; rw [Int.toNat_natCast, Nat.one_mul]; exact Nat.le_trans h36 (by decide)), fun t ht => ?_⟩
    have htq : t ≠ q := fun e => by
      subst e
      rw [upd_same] at ht
      cases ht
    rw [upd_ne htq] at ht
    have hts : t ≠ s := fun e => by
      subst e
      rw [upd_same] at ht
      cases ht
    rw [upd_ne hts] at ht
    refine ⟨_, rfl, s, CS, dx, _, rfl, by rw [upd_ne hts.symm, upd_ne hqs.symm]; exact upd_same, T.cl, T.nT, (by show 2 < 1000; decide), ?_⟩
    refine ⟨Nat.zero_le _, fun l hl => ?_⟩
    have hls : l ≠ s := fun e => by
      subst e
      rw [upd_same] at hl
      cases hl
    rw [upd_ne hls] at hl
    have hlt : l ≠ t := fun e => by
      subst e
      rw [upd_same] at hl
      cases hl
    rw [upd_ne hlt] at hl
    have hlq : l ≠ q := fun e => by
      subst e
      rw [upd_same] at hl
      cases hl
    rw [upd_ne hlq, upd_ne hls] at hl
    refine ⟨_, rfl, s, CS, dx, _, rfl, by rw [upd_ne hls.symm]; exact upd_same, T.cl, T.nD, (by show 3 < 1000; decide), ?_⟩
    have hh : Sr98.hours (⟨List.replicate h 24, [], p⟩ : Bakery) = h := by
      unfold Sr98.hours
      simp
    refine k _ t l ⟨⟨dx, ?_⟩, ?_, ?_, rfl, fun j p d hp => by simp at hp, by simp, by simp, hlt.symm, fun p hp => by simp at hp, ⟨by rw [hh]; exact h1, by rw [hh]; exact h36, hp1, hp9, Nat.zero_le _⟩⟩ ht hl ?_
    · rw [upd_same]
      unfold sF
      rw [hh]
      rfl
    · rw [upd_ne hts, upd_ne hlt.symm, upd_ne hts, upd_same, rep_24]
    · rw [upd_ne hls, upd_same]
      rfl
    · intro x o e m
      have hx : x ≠ s := fun q => m (by simp [q])
      rw [upd_ne hx, upd_ne (ne_of_none e hl), upd_ne hx, upd_ne (ne_of_none e ht), upd_ne (ne_of_none e hq), upd_ne hx]
      exact e
end
end Bk
namespace Bk
open PySem PySem.Spec PyProof.Rows L2
open PySem.W (Codec)
open Sr98 (Bakery)
section
variable {P : Program} {w : World} {K : PySem.W.Frag} {mg : Str → Option Value} {base : Heap} {CS CD : Addr}
abbrev sSetT : Stmt := inClass (top iSched) 3
abbrev sSetTs : Stmt := inClass (top iSched) 4
/-! ### set_temperature -/
def spSetT (CS CD : Addr) : Sp := fun vs H Q _ => ∃ (s t l : Addr) (as : List (Addr × Addr)) (b : Bakery) (x y : Int), vs = [.ref s, .int x, .int y] ∧ SchedAt CS CD H s t l as b ∧ Done CS CD H s t l as b (.setTemperature x y) Q
theorem scSetT : FnScope ["self", "t", "temperature", "old_temperature"] ["self", "t", "temperature"] (defScope sSetT) := ⟨rfl, rfl, rfl, by decide +kernel, rfl, by decide +kernel, by decide +kernel⟩
theorem isIndex_nat {x : Int} {n : Nat} (h : SrCommon.isIndex x n = true) : ∃ j : Nat, x = (j : Int) ∧ j < n := by
  unfold SrCommon.isIndex at h
  rw [Bool.and_eq_true] at h
  have h1 := of_decide_eq_true h.1
  have h2 := of_decide_eq_true h.2
  exact ⟨x.toNat, by omega, by omega⟩
theorem inRange_nat {x lo hi : Int} (h : SrCommon.inRange x lo hi = true) : lo ≤ x ∧ x ≤ hi := by
  unfold SrCommon.inRange at h
  rw [Bool.and_eq_true] at h
  exact ⟨of_decide_eq_true h.1, of_decide_eq_true h.2⟩
/-- other temperatures, as many -/
theorem SchedAt.warm {H H' : Hp} {s t l : Addr} {as : List (Addr × Addr)} {b : Bakery} (S : SchedAt CS CD H s t l as b) {ts : List Nat} (hl : ts.length = b.temperatures.length) (ht : H' t = some (.lst (vNat ts))) (k : Keeps [t] H H') :
    SchedAt CS CD H' s t l as { b with temperatures := ts } := by
  obtain ⟨dx, e⟩ := S.ins
  have hh : Sr98.hours { b with temperatures := ts } = Sr98.hours b := hl
  have st := S.sne S.tmp
  refine ⟨⟨dx, ?_⟩, ht, k _ _ S.lst (by simp [S.tl.symm]), S.len, fun j p d hp hd => ?_, S.nda, S.ndc, S.tl, S.ct, ⟨by rw [hh]; exact S.wf.h1, by rw [hh]; exact S.wf.h36, S.wf.p1, S.wf.p9, S.wf.six⟩⟩
  · have e2 : sF { b with temperatures := ts } t l = sF b t l := by
      unfold sF
      rw [hh]
    rw [e2]
    exact k _ _ e (by simp [st])
  · have hm := List.mem_of_getElem? hp
    rw [hh]
    exact (S.each j p d hp hd).keep k (by simp [S.ane S.tmp hm]) (by simp [(S.ct p hm).1])
theorem ok_setT (T : TS' K mg CS) (F : MFun K CS "set_temperature" "Schedule.set_temperature" sSetT) (HH : MOk P w K mg base 1 CS "has_hour" ["self", "t"] (spHasH CS)) (IT : GOk P w K mg base 1 "is_temperature" ["temperature"] (spIn 0 40)) :
    MOk P w K mg base 2 CS "set_temperature" ["self", "t", "temperature"] (spSetT CS CD) := by
  obtain ⟨f, fd, F, M⟩ := F.ex
  refine ⟨f, fd, F.ok scSetT (fun vs H Q E h => ?_) (fun cdv A outer s H vs Q E hr h => ?_), F.binds fun _ _ _ _ _ _ us hl => match us, hl with | [_, _, _], _ => rfl, M⟩
  · obtain ⟨s, t, l, as, b, x, y, rfl, _⟩ := h
    rfl
  · obtain ⟨s, t, l, as, b, x, y, rfl, S, D⟩ := h
    obtain ⟨dx, hI⟩ := S.ins
    refine ⟨_, pss_cons (ps_if (pt_not (pt_val (pe_m (pv 0) T.cl HH hr (pa_cons (pv 1) pa_nil)))) (pss_one (ps_ret (pe_lst (pa_cons (pe_const T.miss) pa_nil)))) pss_nil)
      (pss_cons (ps_if (pt_not (pt_val (pe_g IT hr rfl (pa_cons (pv 2) pa_nil)))) (pss_one (ps_ret (pe_lst (pa_cons (pe_const T.oor) pa_nil)))) pss_nil)
      (pss_cons (ps_set (i := 3) scSetT.nd rfl (Or.inl rfl) (pe_ix ix_list (pe_fld (pv 0) rfl) (pv 1) (fun _ _ => rfl)))
      (pss_cons (ps_asg (pv 2) (pg_sub (pe_fld (pv 0) rfl) (pv 1) set_list))
      (pss_one (ps_ret (pe_lst (pa_cons (pv 3) pa_nil))))))), ?_⟩
    refine ⟨_, rfl, s, dx, _, rfl, hI, sF_no b t l (by decide +kernel) (by decide +kernel) (by decide +kernel) (by decide +kernel), _, rfl, s, dx, t, l, b, x, rfl, hI, _, rfl, ?_⟩
    cases hx : Sr98.isHour b x with
    | false => exact iteT ⟨(by show 1 ≤ sizeLine; decide), fun p hp => D.quit (ns := [-2]) S (Same.refl H) hp (if_pos hx) rfl⟩
    | true =>
      refine iteF ⟨_, rfl, y, rfl, _, rfl, ?_⟩
      have hxn : ¬ Sr98.isHour b x = false := by rw [hx]; simp
      cases hy : SrCommon.inRange y 0 40 with
      | false => exact iteT ⟨(by show 1 ≤ sizeLine; decide), fun p hp => D.quit (ns := [-22]) S (Same.refl H) hp ((if_neg hxn).trans (if_pos hy)) rfl⟩
      | true =>
        have hyn : ¬ Sr98.isTemperature y = false := by rw [show Sr98.isTemperature y = true from hy]; simp
        obtain ⟨j, rfl, hj⟩ := isIndex_nat hx
        have hy2 := inRange_nat hy
        refine iteF ⟨_, rfl, s, CS, dx, _, _, rfl, hI, T.cl, T.nT, sF_temp b t l, _, rfl, t, _, _, _, rfl, rfl, SqL.of S.tmp, at_of (j := j) rfl (vNat_at hj), ?_⟩
        refine ⟨_, rfl, _, rfl, s, CS, dx, _, _, rfl, hI, T.cl, T.nT, sF_temp b t l, _, rfl, t, _, _, j, rfl, rfl, S.tmp, ixN_nat rfl (by rw [vNat_len]; exact hj), ?_⟩
        refine ⟨_, rfl, (by show 1 ≤ sizeLine; decide), fun p hp => ?_⟩
        have ep : Sr98.perform b (.setTemperature (j : Int) y) = (some { b with temperatures := b.temperatures.set j y.toNat }, SrCommon.Result.ofCode ((b.temperatures.getD j 0 : Nat) : Int)) := (if_neg hxn).trans (if_neg hyn)
        have es : (vNat b.temperatures).set j (.int y) = vNat (b.temperatures.set j y.toNat) := by
          unfold vNat
          rw [List.map_set]
          congr 2
          omega
        refine D.go (ns := [((b.temperatures.getD j 0 : Nat) : Int)]) (as' := as) ?_ ((keeps_upd (by simp)).mono (F := [t]) (by simp [foot_t])) (fun x h => .inl h) (fun x h => ?_) hp ?_
        · unfold after
          rw [ep]
          exact S.warm (by rw [List.length_set]) (by rw [upd_same, es]) (keeps_upd (by simp))
        · by_cases e : x = t
          · subst e
            rw [upd_same] at h
            cases h
          · rw [upd_ne e] at h
            exact h
        · unfold ans
          rw [ep]
          rfl
/-! ### set_temperatures -/
def spSetTs (CS CD : Addr) : Sp := fun vs H Q _ => ∃ (s t l : Addr) (as : List (Addr × Addr)) (b : Bakery) (x y z : Int), vs = [.ref s, .int x, .int y, .int z] ∧ SchedAt CS CD H s t l as b ∧ Done CS CD H s t l as b (.setTemperatures x y z) Q
theorem scSetTs : FnScope ["self", "start", "to", "temperature", "hour"] ["self", "start", "to", "temperature"] (defScope sSetTs) := ⟨rfl, rfl, rfl, by decide +kernel, rfl, by decide +kernel, by decide +kernel⟩
theorem ok_setTs (T : TS' K mg CS) (hrange : mg "range" = none) (F : MFun K CS "set_temperatures" "Schedule.set_temperatures" sSetTs) (IT : GOk P w K mg base 1 "is_temperature" ["temperature"] (spIn 0 40)) :
    MOk P w K mg base 2 CS "set_temperatures" ["self", "start", "to", "temperature"] (spSetTs CS CD) := by
  obtain ⟨f, fd, F, M⟩ := F.ex
  refine ⟨f, fd, F.ok scSetTs (fun vs H Q E h => ?_) (fun cdv A outer s H vs Q E hr h => ?_), F.binds fun _ _ _ _ _ _ us hl => match us, hl with | [_, _, _, _], _ => rfl, M⟩
  · obtain ⟨s, t, l, as, b, x, y, z, rfl, _⟩ := h
    rfl
  · obtain ⟨s, t, l, as, b, x, y, z, rfl, S, D⟩ := h
    obtain ⟨dx, hI⟩ := S.ins
    refine ⟨_, pss_cons (ps_if (pt_not (pt_chain3 op_le op_le op_le pe_int (pv 1) (pv 2) (pe_fld (pv 0) rfl))) (pss_one (ps_ret (pe_lst (pa_cons (pe_const T.oor) pa_nil)))) pss_nil)
      (pss_cons (ps_if (pt_not (pt_val (pe_g IT hr rfl (pa_cons (pv 3) pa_nil)))) (pss_one (ps_ret (pe_lst (pa_cons (pe_const T.oor) pa_nil)))) pss_nil)
      (pss_cons (ps_for PassesOwn.never rfl (pi_range2 (by rfl) hrange (pa_cons (pv 1) (pa_cons (pv 2) pa_nil))) (pg_name (i := 4) scSetTs.nd rfl (Or.inl rfl))
        (pss_one (ps_asg (pv 3) (pg_sub (pe_fld (pv 0) rfl) (pv 4) set_list))))
      (pss_one (ps_ret (pe_lst (pa_cons (pe_op op_sub (pv 2) (pv 1)) pa_nil)))))), ?_⟩
    have quit : (x < 0 ∨ y < x ∨ (Sr98.hours b : Int) < y ∨ Sr98.isTemperature z = false) → 1 ≤ sizeLine ∧ ∀ p, H p = none → Q (.ref p) (upd H p (.lst [.int (-22)])) := fun h =>
      ⟨by decide, fun p hp => D.quit (ns := [-22]) S (Same.refl H) hp (if_pos h) rfl⟩
    refine ⟨_, rfl, _, _, rfl, rfl, _, rfl, ?_⟩
    by_cases h1 : (0 : Int) ≤ x
    · rw [decide_eq_true h1]
      refine iteT ⟨_, rfl, _, _, rfl, rfl, _, rfl, ?_⟩
      by_cases h2 : x ≤ y
      · rw [decide_eq_true h2]
        refine iteT ⟨_, rfl, s, CS, dx, _, _, rfl, hI, T.cl, T.nH, sF_hours b t l, _, _, rfl, rfl, _, rfl, ?_⟩
        by_cases h3 : y ≤ (Sr98.hours b : Nat)
        · rw [decide_eq_true h3]
          refine iteF ⟨_, rfl, z, rfl, _, rfl, ?_⟩
          cases hz : SrCommon.inRange z 0 40 with
          | false => exact iteT (quit (.inr (.inr (.inr hz))))
          | true =>
            have hz2 := inRange_nat hz
            have hn : ¬ (x < 0 ∨ y < x ∨ (Sr98.hours b : Int) < y ∨ Sr98.isTemperature z = false) := by
              rintro (q | q | q | q)
              · omega
              · omega
              · omega
              · rw [show Sr98.isTemperature z = true from hz] at q
                cases q
            obtain ⟨i0, rfl⟩ : ∃ n : Nat, x = (n : Int) := ⟨x.toNat, by omega⟩
            obtain ⟨i1, rfl⟩ : ∃ n : Nat, y = (n : Int) := ⟨y.toNat, by omega⟩
            obtain ⟨zz, rfl⟩ : ∃ n : Nat, z = (n : Int) := ⟨z.toNat, by omega⟩
            have h36 := S.wf.h36
            have ep : Sr98.perform b (.setTemperatures (i0 : Int) i1 zz) = (some { b with temperatures := warmed b.temperatures i0 i1 zz }, SrCommon.Result.ofCode ((i1 : Int) - i0)) := if_neg hn
            refine iteF ⟨_, rfl, _, rfl, _, _, rfl, ⟨by omega, by omega, by omega, by omega⟩, ?_⟩
            refine for_range (lo := (i0 : Nat)) (n := ((i1 : Int) - (i0 : Nat)).toNat) (fun i σ H' => (∃ v, σ = [some (.ref s), some (.int (i0 : Nat)), some (.int (i1 : Nat)), some (.int (zz : Nat)), v]) ∧ H' t = some (.lst (vNat (warmed b.temperatures i0 (i0 + i) zz))) ∧ Keeps [t] H H' ∧ ∀ x, H' x = none → H x = none)
              ⟨⟨none, rfl⟩, ?_, Keeps.refl _ _, fun x h => h⟩ ?_ ?_
            · rw [warmed_none]
              exact S.tmp
            · rintro i σ H' hi ⟨⟨v, rfl⟩, ht, kp, hs⟩
              have hI' : H' s = some (.ins CS dx (sF b t l)) := kp _ _ hI (by simp [S.sne S.tmp])
              have hb : i0 + i < b.temperatures.length := by
                have : Sr98.hours b = b.temperatures.length := rfl
                omega
              refine ⟨_, rfl, _, rfl, s, CS, dx, _, _, rfl, hI', T.cl, T.nT, sF_temp b t l, _, rfl, t, _, _, i0 + i, rfl, rfl, ht, ixN_nat (by omega) (by rw [vNat_len, warmed_len]; exact hb), ?_⟩
              refine ⟨⟨_, rfl⟩, ?_, kp.trans (keeps_upd (by simp)), fun x h => ?_⟩
              · rw [upd_same, ← warmed_set]
                unfold vNat
                rw [List.map_set]
              · by_cases e : x = t
                · subst e
                  rw [upd_same] at h
                  cases h
                · rw [upd_ne e] at h
                  exact hs x h
            · rintro σ H' ⟨⟨v, rfl⟩, ht, kp, hs⟩
              rw [show i0 + ((i1 : Int) - (i0 : Nat)).toNat = i1 by omega] at ht
              refine ⟨_, rfl, _, rfl, _, _, rfl, rfl, (by show 1 ≤ sizeLine; decide), fun p hp => ?_⟩
              refine D.go (ns := [(i1 : Int) - i0]) (as' := as) ?_ (kp.mono (by simp [foot_t])) (fun x h => .inl h) hs hp ?_
              · unfold after
                rw [ep]
                exact S.warm (by rw [warmed_len]) ht kp
              · unfold ans
                rw [ep]
                rfl
        · rw [decide_eq_false h3]
          exact iteT (quit (.inr (.inr (.inl (by omega)))))
      · rw [decide_eq_false h2]
        exact iteF ⟨_, rfl, iteT (quit (.inr (.inl (by omega))))⟩
    · rw [decide_eq_false h1]
      exact iteF ⟨_, rfl, iteT (quit (.inl (by omega)))⟩
end
end Bk
namespace Bk
open PySem PySem.Spec PyProof.Rows L2
open PySem.W (Codec)
open Sr98 (Bakery)
section
variable {P : Program} {w : World} {K : PySem.W.Frag} {mg : Str → Option Value} {base : Heap} {CS CD : Addr}
abbrev sAdd : Stmt := inClass (top iSched) 5
abbrev sRem : Stmt := inClass (top iSched) 6
/-! ### add_dough -/
def spAdd (CS CD : Addr) : Sp := fun vs H Q _ => ∃ (s t l : Addr) (as : List (Addr × Addr)) (b : Bakery) (x y z : Int), vs = [.ref s, .int x, .int y, .int z] ∧ SchedAt CS CD H s t l as b ∧ Done CS CD H s t l as b (.addDough x y z) Q
theorem scAdd : FnScope ["self", "mixed_at", "minimum", "maximum"] ["self", "mixed_at", "minimum", "maximum"] (defScope sAdd) := ⟨rfl, rfl, rfl, by decide +kernel, rfl, by decide +kernel, by decide +kernel⟩
theorem SchedAt.add {H H' : Hp} {s t l x c : Addr} {as : List (Addr × Addr)} {b : Bakery} {d : Dg} (S : SchedAt CS CD H s t l as b) (k : Keeps [l] H H') (hl : H' l = some (.lst ((as ++ [(x, c)]).map fun p => V.ref p.1))) (D : DoughAt CD H' (Sr98.hours b) x c d)
    (hx : H x = none) (hc : H c = none) (h6 : b.doughs.length < 6) : SchedAt CS CD H' s t l (as ++ [(x, c)]) { b with doughs := b.doughs ++ [d] } := by
  obtain ⟨dx, e⟩ := S.ins
  have hh : Sr98.hours { b with doughs := b.doughs ++ [d] } = Sr98.hours b := rfl
  refine ⟨⟨dx, k _ _ e (by simp [S.sne S.lst])⟩, k _ _ S.tmp (by simp [S.tl]), hl, ?_, fun j p d' hp hd => ?_, ?_, ?_, S.tl, fun p hp => ?_, ⟨S.wf.h1, S.wf.h36, S.wf.p1, S.wf.p9, ?_⟩⟩
  · rw [List.length_append, List.length_append, S.len]
    rfl
  · by_cases hj : j < as.length
    · rw [List.getElem?_append_left hj] at hp
      have hd' : (b.doughs ++ [d])[j]? = some d' := hd
      rw [List.getElem?_append_left (by rw [← S.len]; exact hj)] at hd'
      have hm := List.mem_of_getElem? hp
      exact (S.each j p d' hp hd').keep k (by simp [S.ane S.lst hm]) (by simp [(S.ct p hm).2])
    · have hd' : (b.doughs ++ [d])[j]? = some d' := hd
      rw [List.getElem?_append_right (by omega)] at hp
      rw [List.getElem?_append_right (by rw [← S.len]; omega), ← S.len] at hd'
      have ej : j - as.length = 0 := by
        have := (List.getElem?_eq_some_iff.mp hp).1
        simp at this
        omega
      rw [ej] at hp hd'
      cases hp
      cases hd'
      exact D
  · rw [List.map_append]
    refine List.nodup_append.mpr ⟨S.nda, by simp, fun a ha b' hb' => ?_⟩
    have eb : b' = x := by simpa using hb'
    subst eb
    obtain ⟨p, hp, rfl⟩ := List.mem_map.mp ha
    obtain ⟨o, eo⟩ := S.there (foot_a hp)
    exact ne_of_none eo hx
  · rw [List.map_append]
    refine List.nodup_append.mpr ⟨S.ndc, by simp, fun a ha b' hb' => ?_⟩
    have eb : b' = c := by simpa using hb'
    subst eb
    obtain ⟨p, hp, rfl⟩ := List.mem_map.mp ha
    obtain ⟨o, eo⟩ := S.there (foot_c hp)
    exact ne_of_none eo hc
  · rcases List.mem_append.mp hp with hp | hp
    · exact S.ct p hp
    · rw [List.mem_singleton.mp hp]
      exact ⟨(ne_of_none S.tmp hc).symm, (ne_of_none S.lst hc).symm⟩
  · show (b.doughs ++ [d]).length ≤ 6
    rw [List.length_append]
    show b.doughs.length + 1 ≤ 6
    omega
theorem foot_snoc {s t l x c y : Addr} {as : List (Addr × Addr)} (h : y ∈ foot s t l (as ++ [(x, c)])) : y ∈ foot s t l as ∨ y = x ∨ y = c := by
  rcases mem_foot h with rfl | rfl | rfl | ⟨p, hp, e⟩
  · exact .inl foot_s
  · exact .inl foot_t
  · exact .inl foot_l
  · rcases List.mem_append.mp hp with hp | hp
    · rcases e with rfl | rfl
      · exact .inl (foot_a hp)
      · exact .inl (foot_c hp)
    · rw [List.mem_singleton.mp hp] at e
      exact .inr e
theorem ok_add (T : TS' K mg CS) (hlen : mg "len" = none) (F : MFun K CS "add_dough" "Schedule.add_dough" sAdd) (HH : MOk P w K mg base 1 CS "has_hour" ["self", "t"] (spHasH CS)) (AA : GOk P w K mg base 1 "are_amounts" ["minimum", "maximum"] spAre)
    (DK : KOk P w K mg base 1 CD "Dough" ["self", "mixed_at", "minimum", "maximum", "hours"] (spDInit CD)) :
    MOk P w K mg base 3 CS "add_dough" ["self", "mixed_at", "minimum", "maximum"] (spAdd CS CD) := by
  obtain ⟨f, fd, F, M⟩ := F.ex
  refine ⟨f, fd, F.ok scAdd (fun vs H Q E h => ?_) (fun cdv A outer s H vs Q E hr h => ?_), F.binds fun _ _ _ _ _ _ us hl => match us, hl with | [_, _, _, _], _ => rfl, M⟩
  · obtain ⟨s, t, l, as, b, x, y, z, rfl, _⟩ := h
    rfl
  · obtain ⟨s, t, l, as, b, x, y, z, rfl, S, D⟩ := h
    obtain ⟨dx, hI⟩ := S.ins
    have hr1 : Room 1 _ := hr.mono (by decide)
    refine ⟨_, pss_cons (ps_if (pt_not (pt_val (pe_m (pv 0) T.cl HH hr1 (pa_cons (pv 1) pa_nil)))) (pss_one (ps_ret (pe_lst (pa_cons (pe_const T.oor) pa_nil)))) pss_nil)
      (pss_cons (ps_if (pt_not (pt_val (pe_g AA hr1 rfl (pa_cons (pv 2) (pa_cons (pv 3) pa_nil))))) (pss_one (ps_ret (pe_lst (pa_cons (pe_const T.oor) pa_nil)))) pss_nil)
      (pss_cons (ps_if (pt_cmpR op_eq (pe_callB call_len_seq (by rfl) hlen PySem.boot_len (pa_cons (pe_fld (pv 0) rfl) pa_nil)) (pe_const T.six) (nomark _)) (pss_one (ps_ret (pe_lst (pa_cons (pe_const T.many) pa_nil)))) pss_nil)
      (pss_cons (ps_expr (pe_bm PySem.F.plainAttrs_list PySem.F.slot_list_append PySem.F.type_list_append mt_append (pe_fld (pv 0) rfl)
        (pa_cons (pe_k DK hr rfl (pa_cons (pv 1) (pa_cons (pv 2) (pa_cons (pv 3) (pa_cons (pe_fld (pv 0) rfl) pa_nil))))) pa_nil)))
      (pss_one (ps_ret (pe_lst (pa_cons (pe_op op_sub (pe_callB call_len_seq (by rfl) hlen PySem.boot_len (pa_cons (pe_fld (pv 0) rfl) pa_nil)) pe_int) pa_nil))))))), ?_⟩
    have quit : (Sr98.isHour b x = false ∨ y < 1 ∨ z < y ∨ 999 < z) → 1 ≤ sizeLine ∧ ∀ p, H p = none → Q (.ref p) (upd H p (.lst [.int (-22)])) := fun h =>
      ⟨by decide, fun p hp => D.quit (ns := [-22]) S (Same.refl H) hp (if_pos h) rfl⟩
    refine ⟨_, rfl, s, dx, _, rfl, hI, sF_no b t l (by decide +kernel) (by decide +kernel) (by decide +kernel) (by decide +kernel), _, rfl, s, dx, t, l, b, x, rfl, hI, _, rfl, ?_⟩
    cases hx : Sr98.isHour b x with
    | false => exact iteT (quit (.inl hx))
    | true =>
      refine iteF ⟨_, rfl, _, rfl, y, z, rfl, _, rfl, ?_⟩
      by_cases hyz : 1 ≤ y ∧ y ≤ z ∧ z ≤ 999
      · rw [decide_eq_true hyz.1, decide_eq_true hyz.2.1, decide_eq_true hyz.2.2]
        have hn : ¬ (Sr98.isHour b x = false ∨ y < 1 ∨ z < y ∨ 999 < z) := by
          rintro (q | q | q | q)
          · rw [hx] at q
            cases q
          · omega
          · omega
          · omega
        refine iteF ⟨_, rfl, s, CS, dx, _, _, rfl, hI, T.cl, T.nD, sF_doughs b t l, l, _, rfl, .inl (SqL.of S.lst), rfl, _, rfl, ?_⟩
        rw [List.length_map, S.len]
        by_cases h6 : b.doughs.length = 6
        · rw [h6]
          have ep : Sr98.perform b (.addDough x y z) = (none, SrCommon.Result.ofCode SrCommon.capacityReached) := (if_neg hn).trans (if_pos (by rw [h6]; decide))
          exact iteT ⟨(by show 1 ≤ sizeLine; decide), fun p hp => D.quit (ns := [-28]) S (Same.refl H) hp ep rfl⟩
        · have hlt : b.doughs.length < 6 := by
            have := S.wf.six
            omega
          rw [decide_eq_false (fun q => by have q2 : ((b.doughs.length : Nat) : Int) = 6 := V.int.inj q; omega)]
          obtain ⟨j, rfl, hj⟩ := isIndex_nat hx
          obtain ⟨yy, rfl⟩ : ∃ n : Nat, y = (n : Int) := ⟨y.toNat, by omega⟩
          obtain ⟨zz, rfl⟩ : ∃ n : Nat, z = (n : Int) := ⟨z.toNat, by omega⟩
          have ep : Sr98.perform b (.addDough (j : Int) yy zz) = (some { b with doughs := b.doughs ++ [⟨j, yy, zz, 0⟩] }, SrCommon.Result.ofCode ((b.doughs.length : Nat) : Int)) := (if_neg hn).trans (if_neg (by show ¬ 6 ≤ b.doughs.length; omega))
          refine iteF ⟨_, rfl, s, CS, dx, _, _, rfl, hI, T.cl, T.nD, sF_doughs b t l, .inl ⟨rfl, _, SqL.of S.lst⟩, _, rfl, _, rfl, _, rfl, _, rfl, s, CS, dx, _, _, rfl, hI, T.cl, T.nH, sF_hours b t l, fun x dx' nx nd ne => ?_⟩
          refine ⟨x, dx', j, yy, zz, Sr98.hours b, rfl, upd_same, S.wf.h36, Nat.le_of_lt hj, fun H1 c D1 hc kp => ⟨rfl, ?_⟩⟩
          have s1 : Same H H1 := Same.made nx nd fun q o e h => kp q o e (by simp [h])
          have hcx : c ≠ x := fun q => by
            subst q
            rw [upd_same] at hc
            cases hc
          have hcd : c ≠ dx' := fun q => by
            subst q
            rw [upd_ne ne, upd_same] at hc
            cases hc
          rw [upd_ne hcx, upd_ne hcd] at hc
          refine ⟨l, _, _, rfl, rfl, s1 _ _ S.lst, by rw [List.length_map, S.len]; exact small1000 (by omega), ?_⟩
          have hI1 : (upd H1 l (.lst ((as.map fun p => V.ref p.1) ++ [V.ref x]))) s = some (.ins CS dx (sF b t l)) := by
            rw [upd_ne (S.sne S.lst)]
            exact s1 _ _ hI
          refine ⟨_, rfl, s, CS, dx, _, _, rfl, hI1, T.cl, T.nD, sF_doughs b t l, l, _, rfl, .inl (SqL.of upd_same), _, _, rfl, rfl, (by show 1 ≤ sizeLine; decide), fun p hp => ?_⟩
          rw [List.length_append, List.length_map, S.len]
          have en : ((b.doughs.length + [V.ref x].length : Nat) : Int) - 1 = ((b.doughs.length : Nat) : Int) := by
            show ((b.doughs.length + 1 : Nat) : Int) - 1 = _
            omega
          have kl : Keeps [l] H (upd H1 l (.lst ((as.map fun p => V.ref p.1) ++ [V.ref x]))) := fun q o e n => by
            rw [upd_ne (fun z => n (by simp [z]))]
            exact s1 q o e
          have eD : DoughAt CD (upd H1 l (.lst ((as.map fun p => V.ref p.1) ++ [V.ref x]))) (Sr98.hours b) x c ⟨j, yy, zz, 0⟩ := D1.keep (keeps_upd (F := [l]) (by simp)) (by simp [(ne_of_none S.lst nx).symm]) (by simp [(ne_of_none S.lst hc).symm])
          refine D.go (ns := [((b.doughs.length + [V.ref x].length : Nat) : Int) - 1]) (as' := as ++ [(x, c)]) ?_ (kl.mono (by simp [foot_l])) (fun y hy => ?_) (fun y hy => ?_) hp ?_
          · unfold after
            rw [ep]
            exact S.add kl (by rw [upd_same, List.map_append]; rfl) eD nx hc hlt
          · rcases foot_snoc hy with h | rfl | rfl
            · exact .inl h
            · exact .inr nx
            · exact .inr hc
          · by_cases e : y = l
            · subst e
              rw [upd_same] at hy
              cases hy
            · rw [upd_ne e] at hy
              exact Same.free s1 hy
          · unfold ans
            rw [ep, en]
            rfl
      · have hf : (decide (1 ≤ y) && (decide (y ≤ z) && decide (z ≤ 999))) = false := by
          rw [← Bool.decide_and, ← Bool.decide_and]
          exact decide_eq_false hyz
        rw [hf]
        exact iteT (quit (by omega))
/-! ### remove_dough -/
def spRem (CS CD : Addr) : Sp := fun vs H Q _ => ∃ (s t l : Addr) (as : List (Addr × Addr)) (b : Bakery) (x : Int), vs = [.ref s, .int x] ∧ SchedAt CS CD H s t l as b ∧ Done CS CD H s t l as b (.removeDough x) Q
theorem scRem : FnScope ["self", "i"] ["self", "i"] (defScope sRem) := ⟨rfl, rfl, rfl, by decide +kernel, rfl, by decide +kernel, by decide +kernel⟩
theorem foot_erase {s t l y : Addr} {as : List (Addr × Addr)} {j : Nat} (h : y ∈ foot s t l (as.eraseIdx j)) : y ∈ foot s t l as := by
  rcases mem_foot h with rfl | rfl | rfl | ⟨p, hp, e⟩
  · exact foot_s
  · exact foot_t
  · exact foot_l
  · have hp := List.mem_of_mem_eraseIdx hp
    rcases e with rfl | rfl
    · exact foot_a hp
    · exact foot_c hp
theorem SchedAt.drop {H H' : Hp} {s t l : Addr} {as : List (Addr × Addr)} {b : Bakery} {j : Nat} (S : SchedAt CS CD H s t l as b) (k : Keeps [l] H H') (hl : H' l = some (.lst ((as.eraseIdx j).map fun p => V.ref p.1))) (hj : j < b.doughs.length) :
    SchedAt CS CD H' s t l (as.eraseIdx j) { b with doughs := b.doughs.eraseIdx j } := by
  obtain ⟨dx, e⟩ := S.ins
  refine ⟨⟨dx, k _ _ e (by simp [S.sne S.lst])⟩, k _ _ S.tmp (by simp [S.tl]), hl, ?_, fun i p d hp hd => ?_, ?_, ?_, S.tl, fun p hp => S.ct p (List.mem_of_mem_eraseIdx hp), ⟨S.wf.h1, S.wf.h36, S.wf.p1, S.wf.p9, ?_⟩⟩
  · rw [List.length_eraseIdx, List.length_eraseIdx, S.len]
  · have hd' : (b.doughs.eraseIdx j)[i]? = some d := hd
    rw [List.getElem?_eraseIdx] at hp hd'
    have go : ∀ i, as[i]? = some p → b.doughs[i]? = some d → DoughAt CD H' (Sr98.hours b) p.1 p.2 d := fun i hp hd => by
      have hm := List.mem_of_getElem? hp
      exact (S.each i p d hp hd).keep k (by simp [S.ane S.lst hm]) (by simp [(S.ct p hm).2])
    by_cases hij : i < j
    · rw [if_pos hij] at hp hd'
      exact go i hp hd'
    · rw [if_neg hij] at hp hd'
      exact go (i + 1) hp hd'
  · exact List.Nodup.sublist ((List.eraseIdx_sublist _ _).map _) S.nda
  · exact List.Nodup.sublist ((List.eraseIdx_sublist _ _).map _) S.ndc
  · show (b.doughs.eraseIdx j).length ≤ 6
    have := S.wf.six
    rw [List.length_eraseIdx]
    split <;> omega
theorem ok_rem (T : TS' K mg CS) (hlen : mg "len" = none) (F : MFun K CS "remove_dough" "Schedule.remove_dough" sRem) (HD : MOk P w K mg base 1 CS "has_dough" ["self", "i"] (spHasD K CS)) : MOk P w K mg base 2 CS "remove_dough" ["self", "i"] (spRem CS CD) := by
  obtain ⟨f, fd, F, M⟩ := F.ex
  refine ⟨f, fd, F.ok scRem (fun vs H Q E h => ?_) (fun cdv A outer s H vs Q E hr h => ?_), F.binds fun _ _ _ _ _ _ us hl => match us, hl with | [_, _], _ => rfl, M⟩
  · obtain ⟨s, t, l, as, b, x, rfl, _⟩ := h
    rfl
  · obtain ⟨s, t, l, as, b, x, rfl, S, D⟩ := h
    obtain ⟨dx, hI⟩ := S.ins
    refine ⟨_, pss_cons (ps_if (pt_not (pt_val (pe_m (pv 0) T.cl HD hr (pa_cons (pv 1) pa_nil)))) (pss_one (ps_ret (pe_lst (pa_cons (pe_const T.miss) pa_nil)))) pss_nil)
      (pss_cons (ps_expr (pe_bm PySem.F.plainAttrs_list PySem.F.slot_list_pop PySem.F.type_list_pop mt_popAt (pe_fld (pv 0) rfl) (pa_cons (pv 1) pa_nil)))
      (pss_one (ps_ret (pe_lst (pa_cons (pe_callB call_len_seq (by rfl) hlen PySem.boot_len (pa_cons (pe_fld (pv 0) rfl) pa_nil)) pa_nil))))), ?_⟩
    refine ⟨_, rfl, s, dx, _, rfl, hI, sF_no b t l (by decide +kernel) (by decide +kernel) (by decide +kernel) (by decide +kernel), _, rfl, s, dx, t, l, _, b, x, rfl, hI, S.lst, by rw [List.length_map, S.len], _, rfl, ?_⟩
    cases hx : Sr98.isDough b x with
    | false => exact iteT ⟨(by show 1 ≤ sizeLine; decide), fun p hp => D.quit (ns := [-2]) S (Same.refl H) hp (if_pos hx) rfl⟩
    | true =>
      have hxn : ¬ Sr98.isDough b x = false := by rw [hx]; simp
      obtain ⟨j, rfl, hj⟩ := isIndex_nat hx
      obtain ⟨p, d, hp, hd, hpm, _, _⟩ := S.dough hj
      have h6 := S.wf.six
      have ep : Sr98.perform b (.removeDough (j : Int)) = (some { b with doughs := b.doughs.eraseIdx j }, SrCommon.Result.ofCode ((b.doughs.length - 1 : Nat) : Int)) := if_neg hxn
      have eix : seqIndex? (j : Int) (as.map fun p => V.ref p.1).length = some j := by
        rw [PyProof.Rows.seqIndex_at (by omega) (by rw [List.length_map, S.len]; omega)] <;> rfl
      refine iteF ⟨_, rfl, s, CS, dx, _, _, rfl, hI, T.cl, T.nD, sF_doughs b t l, .inl ⟨rfl, _, SqL.of S.lst⟩, _, rfl, l, _, _, j, V.ref p.1, rfl, rfl, S.lst, by omega, by omega, eix, by rw [List.getElem?_map, hp]; rfl, ?_⟩
      have eer : (as.map fun p => V.ref p.1).eraseIdx j = (as.eraseIdx j).map fun p => V.ref p.1 := by
        apply List.ext_getElem?
        intro i
        rw [List.getElem?_eraseIdx, List.getElem?_map, List.getElem?_map, List.getElem?_map, List.getElem?_eraseIdx]
        split <;> rfl
      rw [eer]
      have kl : Keeps [l] H (upd H l (.lst ((as.eraseIdx j).map fun p => V.ref p.1))) := keeps_upd (by simp)
      refine ⟨_, rfl, s, CS, dx, _, _, rfl, by rw [upd_ne (S.sne S.lst)]; exact hI, T.cl, T.nD, sF_doughs b t l, l, _, rfl, .inl (SqL.of upd_same), (by show 1 ≤ sizeLine; decide), fun q hq => ?_⟩
      rw [List.length_map, List.length_eraseIdx, S.len, if_pos hj]
      refine D.go (ns := [((b.doughs.length - 1 : Nat) : Int)]) (as' := as.eraseIdx j) ?_ (kl.mono (by simp [foot_l])) (fun y hy => .inl (foot_erase hy)) (fun y hy => ?_) hq ?_
      · unfold after
        rw [ep]
        exact S.drop kl upd_same hj
      · by_cases e : y = l
        · subst e
          rw [upd_same] at hy
          cases hy
        · rw [upd_ne e] at hy
          exact hy
      · unfold ans
        rw [ep]
        rfl
end
end Bk
namespace Bk
open PySem PySem.Spec PyProof.Rows L2
open PySem.W (Codec)
open Sr98 (Bakery)
section
variable {P : Program} {w : World} {K : PySem.W.Frag} {mg : Str → Option Value} {base : Heap} {CS CD : Addr}
abbrev sRefusal : Stmt := inClass (top iSched) 7
abbrev sCool : Stmt := inClass (top iSched) 8
abbrev sStop : Stmt := inClass (top iSched) 9
abbrev sSetB : Stmt := inClass (top iSched) 10
abbrev sWin : Stmt := inClass (top iSched) 11
theorem nodup_set {α : Type} : ∀ {l : List α} {j : Nat} {x : α}, l.Nodup → x ∉ l → (l.set j x).Nodup
  | [], _, _, _, _ => by simp
  | a :: r, 0, x, h, n => by
    have hr := (List.nodup_cons.mp h).2
    exact List.nodup_cons.mpr ⟨fun m => n (List.mem_cons_of_mem _ m), hr⟩
  | a :: r, j + 1, x, h, n => by
    have h2 := List.nodup_cons.mp h
    refine List.nodup_cons.mpr ⟨fun m => ?_, nodup_set h2.2 fun m => n (List.mem_cons_of_mem _ m)⟩
    rcases List.mem_or_eq_of_mem_set m with z | z
    · exact h2.1 z
    · exact n (by rw [← z]; exact List.mem_cons_self ..)
/-- one dough in another's place, its list of hours maybe at another place -/
theorem SchedAt.swap {H H' : Hp} {s t l : Addr} {as : List (Addr × Addr)} {b : Bakery} {j : Nat} {p : Addr × Addr} {c : Addr} {d : Dg} {F : List Addr} (S : SchedAt CS CD H s t l as b) (hp : as[j]? = some p)
    (k : Keeps F H H') (hF : ∀ x ∈ F, x = p.1 ∨ x = p.2) (D : DoughAt CD H' (Sr98.hours b) p.1 c d) (hc : c = p.2 ∨ H c = none) :
    SchedAt CS CD H' s t l (as.set j (p.1, c)) { b with doughs := b.doughs.set j d } := by
  obtain ⟨dx, e⟩ := S.ins
  have hpm := List.mem_of_getElem? hp
  have hjl := (List.getElem?_eq_some_iff.mp hp).1
  obtain ⟨d0, D0⟩ := S.mem hpm
  obtain ⟨dx0, e0⟩ := D0.ins
  have nF : ∀ q : Addr, q ≠ p.1 → q ≠ p.2 → q ∉ F := fun q h1 h2 m => by
    rcases hF q m with z | z
    · exact h1 z
    · exact h2 z
  have hcn : c ≠ t ∧ c ≠ l := by
    rcases hc with rfl | hc
    · exact S.ct p hpm
    · exact ⟨(ne_of_none S.tmp hc).symm, (ne_of_none S.lst hc).symm⟩
  have hsp : s ≠ p.1 := fun q => by
    rw [q, e0] at e
    have e1 := HO.ins.inj (Option.some.inj e)
    have e3 := congrArg (List.map Prod.fst) e1.2.2
    exact absurd e3 (by
      show ¬ (([("mixed_at" : Str), ("minimum" : Str), ("maximum" : Str), ("cooled" : Str)] : List Str) = [("hours" : Str), ("baking_time" : Str), ("temperatures" : Str), ("doughs" : Str)])
      decide +kernel)
  refine ⟨⟨dx, k _ _ e (nF _ hsp (S.sne D0.lst))⟩, k _ _ S.tmp (nF _ (S.ane S.tmp hpm).symm (S.ct p hpm).1.symm), ?_, ?_, fun i q d' hq hd => ?_, ?_, ?_, S.tl, fun q hq => ?_, ⟨S.wf.h1, S.wf.h36, S.wf.p1, S.wf.p9, ?_⟩⟩
  · have em : (as.set j (p.1, c)).map (fun p => V.ref p.1) = as.map fun p => V.ref p.1 := by
      rw [List.map_set]
      apply List.ext_getElem?
      intro i
      rw [List.getElem?_set]
      by_cases hij : j = i
      · subst hij
        rw [if_pos rfl, if_pos (by rw [List.length_map]; exact hjl), List.getElem?_map, hp]
        rfl
      · rw [if_neg hij]
    rw [em]
    exact k _ _ S.lst (nF _ (S.ane S.lst hpm).symm (S.ct p hpm).2.symm)
  · rw [List.length_set]
    show as.length = (b.doughs.set j d).length
    rw [List.length_set, S.len]
  · have hd' : (b.doughs.set j d)[i]? = some d' := hd
    rw [List.getElem?_set] at hq hd'
    by_cases hij : j = i
    · rw [if_pos hij, if_pos (by omega)] at hq
      rw [if_pos hij, if_pos (by rw [← S.len]; omega)] at hd'
      cases hq
      cases hd'
      exact D
    · rw [if_neg hij] at hq hd'
      have hqm := List.mem_of_getElem? hq
      have DD := S.each i q d' hq hd'
      have n1 : q.1 ≠ p.1 := fun z => hij (nd_ix S.nda (by rw [List.getElem?_map, hp]; rfl) (by rw [List.getElem?_map, hq, ← z]; rfl))
      have n2 : q.2 ≠ p.2 := fun z => hij (nd_ix S.ndc (by rw [List.getElem?_map, hp]; rfl) (by rw [List.getElem?_map, hq, ← z]; rfl))
      exact DD.keep k (nF _ n1 (S.ane D0.lst hqm)) (nF _ (fun z => S.ane DD.lst hpm z.symm) n2)
  · have em : (as.set j (p.1, c)).map Prod.fst = as.map Prod.fst := by
      rw [List.map_set]
      apply List.ext_getElem?
      intro i
      rw [List.getElem?_set]
      by_cases hij : j = i
      · subst hij
        rw [if_pos rfl, if_pos (by rw [List.length_map]; exact hjl), List.getElem?_map, hp]
        rfl
      · rw [if_neg hij]
    rw [em]
    exact S.nda
  · rcases hc with rfl | hc
    · have em : as.set j (p.1, p.2) = as := by
        apply List.ext_getElem?
        intro i
        rw [List.getElem?_set]
        by_cases hij : j = i
        · subst hij
          rw [if_pos rfl, if_pos hjl, hp]
        · rw [if_neg hij]
      rw [em]
      exact S.ndc
    · rw [List.map_set]
      refine nodup_set S.ndc fun m => ?_
      obtain ⟨q, hq, rfl⟩ := List.mem_map.mp m
      obtain ⟨o, eo⟩ := S.there (foot_c hq)
      rw [eo] at hc
      cases hc
  · rcases List.mem_or_eq_of_mem_set hq with h | rfl
    · exact S.ct q h
    · exact hcn
  · show (b.doughs.set j d).length ≤ 6
    rw [List.length_set]
    exact S.wf.six
theorem foot_swap {s t l y c : Addr} {as : List (Addr × Addr)} {j : Nat} {p : Addr × Addr} (hp : as[j]? = some p) (h : y ∈ foot s t l (as.set j (p.1, c))) : y ∈ foot s t l as ∨ y = c := by
  rcases mem_foot h with rfl | rfl | rfl | ⟨q, hq, e⟩
  · exact .inl foot_s
  · exact .inl foot_t
  · exact .inl foot_l
  · rcases List.mem_or_eq_of_mem_set hq with hq | rfl
    · rcases e with rfl | rfl
      · exact .inl (foot_a hq)
      · exact .inl (foot_c hq)
    · rcases e with rfl | rfl
      · exact .inl (foot_a (p := p) (List.mem_of_getElem? hp))
      · exact .inr rfl
theorem isInterval_is {b : Bakery} {x y : Int} (h : Sr98.isInterval b x y = true) : 0 ≤ x ∧ x < y ∧ y ≤ (Sr98.hours b : Nat) := by
  unfold Sr98.isInterval at h
  rw [Bool.and_eq_true, Bool.and_eq_true] at h
  exact ⟨of_decide_eq_true h.1.1, of_decide_eq_true h.1.2, of_decide_eq_true h.2⟩
/-! ### refusal_of_cooling -/
/-- the error of a cooling; nothing if there is none -/
def refV (b : Bakery) (x y z : Int) : List V := if Sr98.isDough b x = false then [.int (-2)] else if Sr98.isInterval b y z = false then [.int (-22)] else []
def spRefusal (CS CD : Addr) : Sp := fun vs H Q _ => ∃ (s t l : Addr) (as : List (Addr × Addr)) (b : Bakery) (x y z : Int), vs = [.ref s, .int x, .int y, .int z] ∧ SchedAt CS CD H s t l as b ∧ ∀ p, H p = none → Q (.ref p) (upd H p (.lst (refV b x y z)))
theorem scRefusal : FnScope ["self", "i", "start", "to"] ["self", "i", "start", "to"] (defScope sRefusal) := ⟨rfl, rfl, rfl, by decide +kernel, rfl, by decide +kernel, by decide +kernel⟩
theorem ok_refusal (T : TS' K mg CS) (F : MFun K CS "refusal_of_cooling" "Schedule.refusal_of_cooling" sRefusal) (HD : MOk P w K mg base 1 CS "has_dough" ["self", "i"] (spHasD K CS)) :
    MOk P w K mg base 2 CS "refusal_of_cooling" ["self", "i", "start", "to"] (spRefusal CS CD) := by
  obtain ⟨f, fd, F, M⟩ := F.ex
  refine ⟨f, fd, F.ok scRefusal (fun vs H Q E h => ?_) (fun cdv A outer s H vs Q E hr h => ?_), F.binds fun _ _ _ _ _ _ us hl => match us, hl with | [_, _, _, _], _ => rfl, M⟩
  · obtain ⟨s, t, l, as, b, x, y, z, rfl, _⟩ := h
    rfl
  · obtain ⟨s, t, l, as, b, x, y, z, rfl, S, D⟩ := h
    obtain ⟨dx, hI⟩ := S.ins
    refine ⟨_, pss_cons (ps_if (pt_not (pt_val (pe_m (pv 0) T.cl HD hr (pa_cons (pv 1) pa_nil)))) (pss_one (ps_ret (pe_lst (pa_cons (pe_const T.miss) pa_nil)))) pss_nil)
      (pss_cons (ps_if (pt_not (pt_chain3 op_le op_lt op_le pe_int (pv 2) (pv 3) (pe_fld (pv 0) rfl))) (pss_one (ps_ret (pe_lst (pa_cons (pe_const T.oor) pa_nil)))) pss_nil)
      (pss_one (ps_ret (pe_lst pa_nil)))), ?_⟩
    refine ⟨_, rfl, s, dx, _, rfl, hI, sF_no b t l (by decide +kernel) (by decide +kernel) (by decide +kernel) (by decide +kernel), _, rfl, s, dx, t, l, _, b, x, rfl, hI, S.lst, by rw [List.length_map, S.len], _, rfl, ?_⟩
    unfold refV at D
    cases hx : Sr98.isDough b x with
    | false =>
      rw [if_pos hx] at D
      exact iteT ⟨(by show 1 ≤ sizeLine; decide), D⟩
    | true =>
      have hxn : ¬ Sr98.isDough b x = false := by rw [hx]; simp
      rw [if_neg hxn] at D
      have quit : ¬ (0 ≤ y ∧ y < z ∧ z ≤ (Sr98.hours b : Nat)) → 1 ≤ sizeLine ∧ ∀ p, H p = none → Q (.ref p) (upd H p (.lst [.int (-22)])) := fun h => by
        rw [if_pos (Bool.eq_false_iff.mpr fun q => h (isInterval_is q))] at D
        exact ⟨by decide, D⟩
      refine iteF ⟨_, rfl, _, _, rfl, rfl, _, rfl, ?_⟩
      by_cases h1 : (0 : Int) ≤ y
      · rw [decide_eq_true h1]
        refine iteT ⟨_, rfl, _, _, rfl, rfl, _, rfl, ?_⟩
        by_cases h2 : y < z
        · rw [decide_eq_true h2]
          refine iteT ⟨_, rfl, s, CS, dx, _, _, rfl, hI, T.cl, T.nH, sF_hours b t l, _, _, rfl, rfl, _, rfl, ?_⟩
          by_cases h3 : z ≤ (Sr98.hours b : Nat)
          · rw [decide_eq_true h3]
            have hin : ¬ Sr98.isInterval b y z = false := by
              unfold Sr98.isInterval
              rw [decide_eq_true h1, decide_eq_true h2, decide_eq_true h3]
              simp
            rw [if_neg hin] at D
            exact iteF ⟨Nat.zero_le _, D⟩
          · rw [decide_eq_false h3]
            exact iteT (quit (by omega))
        · rw [decide_eq_false h2]
          exact iteF ⟨_, rfl, iteT (quit (by omega))⟩
      · rw [decide_eq_false h1]
        exact iteF ⟨_, rfl, iteT (quit (by omega))⟩
/-- a refusal is the specification's answer -/
theorem refV_quit {b : Bakery} {x y z : Int} (h : refV b x y z ≠ []) : ∃ n : Int, refV b x y z = [.int n] ∧ (∀ k, (k = Sr98.Call.cool x y z ∨ k = Sr98.Call.planIfCooled x y z) → Sr98.perform b k = (none, SrCommon.Result.ofCode n)) := by
  unfold refV at h ⊢
  by_cases hx : Sr98.isDough b x = false
  · refine ⟨-2, if_pos hx, ?_⟩
    rintro k (rfl | rfl)
    · exact if_pos hx
    · exact congrArg (Prod.mk none) (if_pos hx)
  · rw [if_neg hx] at h ⊢
    by_cases hi : Sr98.isInterval b y z = false
    · refine ⟨-22, if_pos hi, ?_⟩
      rintro k (rfl | rfl)
      · exact (if_neg hx).trans (if_pos hi)
      · exact congrArg (Prod.mk none) ((if_neg hx).trans (if_pos hi))
    · exact absurd (if_neg hi) h
theorem refV_none {b : Bakery} {x y z : Int} (h : refV b x y z = []) : ¬ Sr98.isDough b x = false ∧ ¬ Sr98.isInterval b y z = false := by
  unfold refV at h
  by_cases hx : Sr98.isDough b x = false
  · rw [if_pos hx] at h
    cases h
  · rw [if_neg hx] at h
    by_cases hi : Sr98.isInterval b y z = false
    · rw [if_pos hi] at h
      cases h
    · exact ⟨hx, hi⟩
/-! ### cool -/
def spCool (CS CD : Addr) : Sp := fun vs H Q _ => ∃ (s t l : Addr) (as : List (Addr × Addr)) (b : Bakery) (x y z : Int), vs = [.ref s, .int x, .int y, .int z] ∧ SchedAt CS CD H s t l as b ∧ Done CS CD H s t l as b (.cool x y z) Q
theorem scCool : FnScope ["self", "i", "start", "to", "refusal", "dough", "times"] ["self", "i", "start", "to"] (defScope sCool) := ⟨rfl, rfl, rfl, by decide +kernel, rfl, by decide +kernel, by decide +kernel⟩
theorem ok_cool (T : TS' K mg CS) (TDo : TD K mg CD) (hlen : mg "len" = none) (F : MFun K CS "cool" "Schedule.cool" sCool) (RC : MOk P w K mg base 2 CS "refusal_of_cooling" ["self", "i", "start", "to"] (spRefusal CS CD))
    (CH : MOk P w K mg base 1 CD "cool_hours" ["self", "start", "to"] (spCoolH CD)) (TW : MOk P w K mg base 3 CD "times_of_window" ["self", "temperatures"] (spTimes CD)) :
    MOk P w K mg base 4 CS "cool" ["self", "i", "start", "to"] (spCool CS CD) := by
  obtain ⟨f, fd, F, M⟩ := F.ex
  refine ⟨f, fd, F.ok scCool (fun vs H Q E h => ?_) (fun cdv A outer s H vs Q E hr h => ?_), F.binds fun _ _ _ _ _ _ us hl => match us, hl with | [_, _, _, _], _ => rfl, M⟩
  · obtain ⟨s, t, l, as, b, x, y, z, rfl, _⟩ := h
    rfl
  · obtain ⟨s, t, l, as, b, x, y, z, rfl, S, D⟩ := h
    have hr1 : Room 1 _ := hr.mono (by decide)
    have hr2 : Room 2 _ := hr.mono (by decide)
    refine ⟨_, pss_cons (ps_set (i := 4) scCool.nd rfl (Or.inl rfl) (pe_m (pv 0) T.cl RC hr2 (pa_cons (pv 1) (pa_cons (pv 2) (pa_cons (pv 3) pa_nil)))))
      (pss_cons (ps_if (pt_cmpR op_gt (pe_callB call_len_seq (by rfl) hlen PySem.boot_len (pa_cons (pv 4) pa_nil)) pe_int (nomark _)) (pss_one (ps_ret (pv 4))) pss_nil)
      (pss_cons (ps_set (i := 5) scCool.nd rfl (Or.inl rfl) (pe_ix ix_list (pe_fld (pv 0) rfl) (pv 1) (fun _ _ => rfl)))
      (pss_cons (ps_expr (pe_m (pv 5) TDo.cl CH hr1 (pa_cons (pv 2) (pa_cons (pv 3) pa_nil))))
      (pss_cons (ps_set (i := 6) scCool.nd rfl (Or.inl rfl) (pe_m (pv 5) TDo.cl TW hr (pa_cons (pe_fld (pv 0) rfl) pa_nil)))
      (pss_cons (ps_if (pt_cmpR op_eq (pe_callB call_len_seq (by rfl) hlen PySem.boot_len (pa_cons (pv 6) pa_nil)) pe_int (nomark _)) (pss_one (ps_ret (pe_lst (pa_cons pe_int pa_nil)))) pss_nil)
      (pss_one (ps_ret (pe_op op_cat (pe_lst (pa_cons pe_int pa_nil)) (pv 6))))))))), ?_⟩
    obtain ⟨dx, hI⟩ := S.ins
    refine ⟨_, rfl, s, dx, _, rfl, hI, sF_no b t l (by decide +kernel) (by decide +kernel) (by decide +kernel) (by decide +kernel), _, rfl, _, rfl, _, rfl, s, t, l, as, b, x, y, z, rfl, S, fun p0 hp0 => ?_⟩
    refine ⟨_, rfl, p0, _, rfl, .inl (SqL.of upd_same), _, _, rfl, rfl, _, rfl, ?_⟩
    by_cases hq : refV b x y z = []
    · obtain ⟨hxn, hin⟩ := refV_none hq
      rw [hq]
      replace S := S.same (same_new hp0 (o := .lst []))
      replace D := D.shift (same_new hp0 (o := .lst []))
      replace hI := same_new hp0 (o := .lst []) _ _ hI
      generalize upd H p0 (.lst []) = H at S D hI
      clear hp0
      have hx : Sr98.isDough b x = true := by
        cases e : Sr98.isDough b x with
        | false => exact absurd e hxn
        | true => rfl
      obtain ⟨j, rfl, hj⟩ := isIndex_nat hx
      have hint : Sr98.isInterval b y z = true := by
        cases e : Sr98.isInterval b y z with
        | false => exact absurd e hin
        | true => rfl
      obtain ⟨h1, h2, h3⟩ := isInterval_is hint
      obtain ⟨i0, rfl⟩ : ∃ n : Nat, y = (n : Int) := ⟨y.toNat, by omega⟩
      obtain ⟨i1, rfl⟩ : ∃ n : Nat, z = (n : Int) := ⟨z.toNat, by omega⟩
      obtain ⟨p, d, hp, hd, hpm, ed, DD⟩ := S.dough hj
      obtain ⟨dx0, hI0⟩ := DD.ins
      have ep : Sr98.perform b (.cool (j : Int) i0 i1) = (some { b with doughs := b.doughs.set j (Sr98.withCooling d i0 i1) }, match Sr98.window b (Sr98.withCooling d i0 i1) with
          | none => SrCommon.Result.ofCode 0
          | some w => ⟨1, SrCommon.natsToInts [w.1, w.2]⟩) := by
        have e := (if_neg hxn).trans (if_neg hin) (a := Sr98.perform b (.cool (j : Int) i0 i1))
        rw [e]
        simp only [Int.toNat_natCast, ed]
        rfl
      refine iteF ⟨_, rfl, s, CS, dx, _, _, rfl, hI, T.cl, T.nD, sF_doughs b t l, _, rfl, l, _, _, _, rfl, rfl, SqL.of S.lst, at_of (j := j) (v := V.ref p.1) rfl (by rw [List.getElem?_map, hp]; rfl), ?_⟩
      refine ⟨_, rfl, p.1, dx0, _, rfl, hI0, dF_no d p.2 (by decide +kernel) (by decide +kernel) (by decide +kernel) (by decide +kernel), _, rfl, _, rfl,
        p.1, p.2, d, Sr98.hours b, i0, i1, rfl, DD, by omega, by omega, S.wf.h36, fun H1 D1 k1 => ?_⟩
      have S1 := S.swap hp k1 (fun x hx => .inr (by simpa using hx)) D1 (.inl rfl)
      obtain ⟨dx1, hI1⟩ := D1.ins
      have hs1 : H1 s = some (.ins CS dx (sF b t l)) := k1 _ _ hI (by simp [S.sne DD.lst])
      have ht1 : H1 t = some (.lst (vNat b.temperatures)) := S1.tmp
      refine ⟨_, rfl, p.1, dx1, _, rfl, hI1, dF_no _ p.2 (by decide +kernel) (by decide +kernel) (by decide +kernel) (by decide +kernel), _, rfl, s, CS, dx, _, _, rfl, hs1, T.cl, T.nT, sF_temp b t l,
        p.1, p.2, t, b, _, rfl, D1, ht1, S.wf.h36, fun H2 q s2 hq hl => ?_⟩
      have kk : Keeps (foot s t l as) H H2 := (k1.mono (by simp [foot_c hpm])).trans (keeps_of_same s2 _)
      have h0 : ∀ x, H1 x = none → H x = none := fun x hx => by
        cases e : H x with
        | none => rfl
        | some o =>
          by_cases hxp : x = p.2
          · rw [hxp, D1.lst] at hx
            cases hx
          · rw [k1 _ _ e (by simp [hxp])] at hx
            cases hx
      have fin : ∀ (r : List Int) (H3 : Hp) (p3 : Addr), Same H2 H3 → H3 p3 = none → ans b (.cool (j : Int) i0 i1) = r → Q (.ref p3) (upd H3 p3 (.lst (vInt r))) := fun r H3 p3 s3 hp3 er =>
        D.go (as' := as.set j (p.1, p.2)) (by
          unfold after
          rw [ep]
          exact (S1.same s2).same s3) (kk.trans (keeps_of_same s3 _)) (fun y hy => (foot_swap hp hy).elim .inl fun e => .inl (by rw [e]; exact foot_c hpm)) (fun y hy => h0 y (Same.free s2 (Same.free s3 hy))) hp3 er
      cases hw : Sr98.window b (Sr98.withCooling d i0 i1) with
      | none =>
        have hl' : H2 q = some (.lst []) := by
          rw [hl]
          unfold winV
          rw [hw]
        refine ⟨_, rfl, q, _, rfl, .inl (SqL.of hl'), rfl, _, rfl, iteT ⟨(by show 1 ≤ sizeLine; decide), fun p3 hp3 => fin [0] _ p3 (Same.refl _) hp3 ?_⟩⟩
        unfold ans
        rw [ep, hw]
        rfl
      | some ww =>
        have hl' : H2 q = some (.lst [.int (ww.1 : Nat), .int (ww.2 : Nat)]) := by
          rw [hl]
          unfold winV
          rw [hw]
        refine ⟨_, rfl, q, _, rfl, .inl (SqL.of hl'), rfl, _, rfl, iteF ⟨(by show 1 ≤ sizeLine; decide), fun q2 hq2 => ?_⟩⟩
        have nq : q ≠ q2 := ne_of_none hl' hq2
        refine ⟨_, rfl, q2, q, _, _, rfl, rfl, upd_same, by rw [upd_ne nq]; exact hl', (by show 1 + 2 ≤ sizeLine; decide), fun p3 hp3 => fin [1, (ww.1 : Nat), (ww.2 : Nat)] _ p3 (same_new hq2) hp3 ?_⟩
        unfold ans
        rw [ep, hw]
        rfl
    · obtain ⟨n, en, hq2⟩ := refV_quit hq
      rw [en]
      exact iteT ⟨_, rfl, D.quit (ns := [n]) S (Same.refl H) hp0 (hq2 _ (.inl rfl)) rfl⟩
end
end Bk
namespace Bk
open PySem PySem.Spec PyProof.Rows L2
open PySem.W (Codec)
open Sr98 (Bakery)
section
variable {P : Program} {w : World} {K : PySem.W.Frag} {mg : Str → Option Value} {base : Heap} {CS CD : Addr}
/-! ### stop_cooling -/
def spStop (CS CD : Addr) : Sp := fun vs H Q _ => ∃ (s t l : Addr) (as : List (Addr × Addr)) (b : Bakery) (x : Int), vs = [.ref s, .int x] ∧ SchedAt CS CD H s t l as b ∧ Done CS CD H s t l as b (.stopCooling x) Q
theorem scStop : FnScope ["self", "i", "dough"] ["self", "i"] (defScope sStop) := ⟨rfl, rfl, rfl, by decide +kernel, rfl, by decide +kernel, by decide +kernel⟩
theorem ok_stop (T : TS' K mg CS) (TDo : TD K mg CD) (F : MFun K CS "stop_cooling" "Schedule.stop_cooling" sStop) (HD : MOk P w K mg base 1 CS "has_dough" ["self", "i"] (spHasD K CS))
    (EV : MOk P w K mg base 1 CD "is_ever_cooled" ["self"] (spEver CD)) (NV : MOk P w K mg base 1 CD "cool_never" ["self"] (spNever CD)) :
    MOk P w K mg base 2 CS "stop_cooling" ["self", "i"] (spStop CS CD) := by
  obtain ⟨f, fd, F, M⟩ := F.ex
  refine ⟨f, fd, F.ok scStop (fun vs H Q E h => ?_) (fun cdv A outer s H vs Q E hr h => ?_), F.binds fun _ _ _ _ _ _ us hl => match us, hl with | [_, _], _ => rfl, M⟩
  · obtain ⟨s, t, l, as, b, x, rfl, _⟩ := h
    rfl
  · obtain ⟨s, t, l, as, b, x, rfl, S, D⟩ := h
    obtain ⟨dx, hI⟩ := S.ins
    refine ⟨_, pss_cons (ps_if (pt_not (pt_val (pe_m (pv 0) T.cl HD hr (pa_cons (pv 1) pa_nil)))) (pss_one (ps_ret (pe_lst (pa_cons (pe_const T.miss) pa_nil)))) pss_nil)
      (pss_cons (ps_set (i := 2) scStop.nd rfl (Or.inl rfl) (pe_ix ix_list (pe_fld (pv 0) rfl) (pv 1) (fun _ _ => rfl)))
      (pss_cons (ps_if (pt_not (pt_val (pe_m0 (pv 2) TDo.cl EV hr))) (pss_one (ps_ret (pe_lst (pa_cons (pe_const T.noco) pa_nil)))) pss_nil)
      (pss_cons (ps_expr (pe_m0 (pv 2) TDo.cl NV hr))
      (pss_one (ps_ret (pe_lst (pa_cons pe_int pa_nil))))))), ?_⟩
    refine ⟨_, rfl, s, dx, _, rfl, hI, sF_no b t l (by decide +kernel) (by decide +kernel) (by decide +kernel) (by decide +kernel), _, rfl, s, dx, t, l, _, b, x, rfl, hI, S.lst, by rw [List.length_map, S.len], _, rfl, ?_⟩
    cases hx : Sr98.isDough b x with
    | false => exact iteT ⟨(by show 1 ≤ sizeLine; decide), fun p hp => D.quit (ns := [-2]) S (Same.refl H) hp (if_pos hx) rfl⟩
    | true =>
      have hxn : ¬ Sr98.isDough b x = false := by rw [hx]; simp
      obtain ⟨j, rfl, hj⟩ := isIndex_nat hx
      obtain ⟨p, d, hp, hd, hpm, ed, DD⟩ := S.dough hj
      obtain ⟨dx0, hI0⟩ := DD.ins
      refine iteF ⟨_, rfl, s, CS, dx, _, _, rfl, hI, T.cl, T.nD, sF_doughs b t l, _, rfl, l, _, _, _, rfl, rfl, SqL.of S.lst, at_of (j := j) (v := V.ref p.1) rfl (by rw [List.getElem?_map, hp]; rfl), ?_⟩
      refine ⟨_, rfl, p.1, dx0, _, rfl, hI0, dF_no d p.2 (by decide +kernel) (by decide +kernel) (by decide +kernel) (by decide +kernel), p.1, p.2, d, Sr98.hours b, rfl, DD, _, rfl, ?_⟩
      by_cases hz : d.cooled = 0
      · rw [decide_eq_true hz]
        have ep : Sr98.perform b (.stopCooling (j : Int)) = (none, SrCommon.Result.ofCode SrCommon.emptyList) := (if_neg hxn).trans (if_pos (by rw [Int.toNat_natCast, ed]; exact hz))
        exact iteT ⟨(by show 1 ≤ sizeLine; decide), fun p hp => D.quit (ns := [-6]) S (Same.refl H) hp ep rfl⟩
      · rw [decide_eq_false hz]
        have ep : Sr98.perform b (.stopCooling (j : Int)) = (some { b with doughs := b.doughs.set j { d with cooled := 0 } }, SrCommon.Result.ofCode 0) := by
          have e := (if_neg hxn).trans (if_neg (by rw [Int.toNat_natCast, ed]; exact hz)) (a := Sr98.perform b (.stopCooling (j : Int)))
          rw [e]
          simp only [Int.toNat_natCast, ed]
          rfl
        refine iteF ⟨_, rfl, p.1, dx0, _, rfl, hI0, dF_no d p.2 (by decide +kernel) (by decide +kernel) (by decide +kernel) (by decide +kernel), p.1, p.2, d, Sr98.hours b, rfl, DD, S.wf.h36, fun H1 c D1 hc k1 => ?_⟩
        have S1 := S.swap hp k1 (fun x hx => .inl (by simpa using hx)) D1 (.inr hc)
        refine ⟨(by show 1 ≤ sizeLine; decide), fun q hq => ?_⟩
        refine D.go (ns := [0]) (as' := as.set j (p.1, c)) (by unfold after; rw [ep]; exact S1) (k1.mono (by simp [foot_a hpm])) (fun y hy => (foot_swap hp hy).imp_right fun e => by rw [e]; exact hc) (fun y hy => ?_) hq (by unfold ans; rw [ep]; rfl)
        cases e : H y with
        | none => rfl
        | some o =>
          by_cases hyp : y = p.1
          · obtain ⟨dx1, e1⟩ := D1.ins
            rw [hyp, e1] at hy
            cases hy
          · rw [k1 _ _ e (by simp [hyp])] at hy
            cases hy
/-! ### set_baking_time -/
def spSetB (CS CD : Addr) : Sp := fun vs H Q _ => ∃ (s t l : Addr) (as : List (Addr × Addr)) (b : Bakery) (x : Int), vs = [.ref s, .int x] ∧ SchedAt CS CD H s t l as b ∧ Done CS CD H s t l as b (.setBakingTime x) Q
theorem scSetB : FnScope ["self", "p", "old_baking_time"] ["self", "p"] (defScope sSetB) := ⟨rfl, rfl, rfl, by decide +kernel, rfl, by decide +kernel, by decide +kernel⟩
theorem SchedAt.sna {H : Hp} {s t l : Addr} {as : List (Addr × Addr)} {b : Bakery} (S : SchedAt CS CD H s t l as b) {p : Addr × Addr} (hp : p ∈ as) : s ≠ p.1 := fun q => by
  obtain ⟨dx, e⟩ := S.ins
  obtain ⟨d0, D0⟩ := S.mem hp
  obtain ⟨dx0, e0⟩ := D0.ins
  rw [q, e0] at e
  have e1 := HO.ins.inj (Option.some.inj e)
  have e3 := congrArg (List.map Prod.fst) e1.2.2
  exact absurd e3 (by
    show ¬ (([("mixed_at" : Str), ("minimum" : Str), ("maximum" : Str), ("cooled" : Str)] : List Str) = [("hours" : Str), ("baking_time" : Str), ("temperatures" : Str), ("doughs" : Str)])
    decide +kernel)
theorem SchedAt.bake {H H' : Hp} {s t l dx : Addr} {as : List (Addr × Addr)} {b : Bakery} {p : Nat} (S : SchedAt CS CD H s t l as b) (k : Keeps [s] H H') (hs : H' s = some (.ins CS dx (sF { b with bakingTime := p } t l))) (h1 : 1 ≤ p) (h9 : p ≤ 9) :
    SchedAt CS CD H' s t l as { b with bakingTime := p } :=
  ⟨⟨dx, hs⟩, k _ _ S.tmp (by simp [(S.sne S.tmp).symm]), k _ _ S.lst (by simp [(S.sne S.lst).symm]), S.len, fun j q d hp hd => (S.each j q d hp hd).keep k (by simp [(S.sna (List.mem_of_getElem? hp)).symm]) (by simp [(S.sne (S.each j q d hp hd).lst).symm]), S.nda, S.ndc, S.tl, S.ct, ⟨S.wf.h1, S.wf.h36, h1, h9, S.wf.six⟩⟩
theorem ok_setB (T : TS' K mg CS) (F : MFun K CS "set_baking_time" "Schedule.set_baking_time" sSetB) (IB : GOk P w K mg base 1 "is_baking_time" ["p"] (spIn 1 9)) : MOk P w K mg base 2 CS "set_baking_time" ["self", "p"] (spSetB CS CD) := by
  obtain ⟨f, fd, F, M⟩ := F.ex
  refine ⟨f, fd, F.ok scSetB (fun vs H Q E h => ?_) (fun cdv A outer s H vs Q E hr h => ?_), F.binds fun _ _ _ _ _ _ us hl => match us, hl with | [_, _], _ => rfl, M⟩
  · obtain ⟨s, t, l, as, b, x, rfl, _⟩ := h
    rfl
  · obtain ⟨s, t, l, as, b, x, rfl, S, D⟩ := h
    obtain ⟨dx, hI⟩ := S.ins
    refine ⟨_, pss_cons (ps_if (pt_not (pt_val (pe_g IB hr rfl (pa_cons (pv 1) pa_nil)))) (pss_one (ps_ret (pe_lst (pa_cons (pe_const T.oor) pa_nil)))) pss_nil)
      (pss_cons (ps_set (i := 2) scSetB.nd rfl (Or.inl rfl) (pe_fld (pv 0) rfl))
      (pss_cons (ps_fld (pv 0) (pv 1) rfl)
      (pss_one (ps_ret (pe_lst (pa_cons (pv 2) pa_nil)))))), ?_⟩
    refine ⟨_, rfl, x, rfl, _, rfl, ?_⟩
    cases hx : SrCommon.inRange x 1 9 with
    | false => exact iteT ⟨(by show 1 ≤ sizeLine; decide), fun p hp => D.quit (ns := [-22]) S (Same.refl H) hp (if_pos hx) rfl⟩
    | true =>
      have hx2 := inRange_nat hx
      obtain ⟨n, rfl⟩ : ∃ n : Nat, x = (n : Int) := ⟨x.toNat, by omega⟩
      have ep : Sr98.perform b (.setBakingTime (n : Int)) = (some { b with bakingTime := n }, SrCommon.Result.ofCode ((b.bakingTime : Nat) : Int)) := if_neg (by rw [hx]; simp)
      refine iteF ⟨_, rfl, s, CS, dx, _, _, rfl, hI, T.cl, T.nB, sF_bake b t l, ?_⟩
      refine ⟨_, rfl, _, rfl, s, CS, dx, _, rfl, hI, T.cl, T.nB, (by show 4 < 1000; decide), ?_⟩
      refine ⟨_, rfl, (by show 1 ≤ sizeLine; decide), fun q hq => ?_⟩
      refine D.go (ns := [((b.bakingTime : Nat) : Int)]) (as' := as) ?_ ((keeps_upd (F := [s]) (by simp)).mono (by simp [foot_s])) (fun y hy => .inl hy) (fun y hy => ?_) hq (by unfold ans; rw [ep]; rfl)
      · unfold after
        rw [ep]
        refine S.bake (dx := dx) (keeps_upd (by simp)) ?_ (by omega) (by omega)
        rw [upd_same, sF_put]
      · by_cases e : y = s
        · subst e
          rw [upd_same] at hy
          cases hy
        · rw [upd_ne e] at hy
          exact hy
end
end Bk
namespace Bk
open PySem PySem.Spec PyProof.Rows L2
open PySem.W (Codec)
open Sr98 (Bakery)
section
variable {P : Program} {w : World} {K : PySem.W.Frag} {mg : Str → Option Value} {base : Heap} {CD : Addr}
abbrev sCount : Stmt := inClass (top iDough) 4
abbrev sAnother : Stmt := inClass (top iDough) 5
/-! ### number_of_cooled_hours -/
def spCount (CD : Addr) : Sp := fun vs H Q _ => ∃ (a c : Addr) (d : Dg) (h : Nat), vs = [.ref a] ∧ DoughAt CD H h a c d ∧ Q (.int (((List.range h).filter (Sr98.isCooled d)).length : Nat)) H
theorem scCount : FnScope ["self"] ["self"] (defScope sCount) := ⟨rfl, rfl, rfl, by decide +kernel, rfl, by decide +kernel, by decide +kernel⟩
theorem ok_count (T : TD K mg CD) (F : MFun K CD "number_of_cooled_hours" "Dough.number_of_cooled_hours" sCount) : MOk P w K mg base 1 CD "number_of_cooled_hours" ["self"] (spCount CD) := by
  obtain ⟨f, fd, F, M⟩ := F.ex
  refine ⟨f, fd, F.ok scCount (fun vs H Q E h => ?_) (fun cdv A outer s H vs Q E hr h => ?_), F.binds fun _ _ _ _ _ _ us hl => match us, hl with | [_], _ => rfl, M⟩
  · obtain ⟨a, c, d, h, rfl, _⟩ := h
    rfl
  · obtain ⟨a, c, d, h, rfl, D, k⟩ := h
    obtain ⟨dx, hI⟩ := D.ins
    refine ⟨_, pss_one (ps_ret (pe_bm PySem.F.plainAttrs_list PySem.F.slot_list_count PySem.F.type_list_count mt_lcountB (pe_fld (pv 0) rfl) (pa_cons pe_bl pa_nil))), ?_⟩
    refine ⟨_, rfl, a, CD, dx, _, _, rfl, hI, T.cl, T.nCo, dF_cooled d c, .inl ⟨rfl, _, SqL.of D.lst⟩, c, cool h d, rfl, rfl, SqL.of D.lst, ?_⟩
    rw [count_cool]
    exact k
/-! ### another_one -/
def spAnother (CD : Addr) : Sp := fun vs H Q _ => ∃ (a c : Addr) (d : Dg) (h : Nat), vs = [.ref a] ∧ DoughAt CD H h a c d ∧ h ≤ 36 ∧
  ∀ (H' : Hp) (a' c' : Addr), Same H H' → H a' = none → H c' = none → DoughAt CD H' h a' c' d → Q (.ref a') H'
theorem scAnother : FnScope ["self", "other"] ["self"] (defScope sAnother) := ⟨rfl, rfl, rfl, by decide +kernel, rfl, by decide +kernel, by decide +kernel⟩
theorem ok_another (T : TD K mg CD) (hlist : mg "list" = none) (F : MFun K CD "another_one" "Dough.another_one" sAnother) (DK : KOk P w K mg base 1 CD "Dough" ["self", "mixed_at", "minimum", "maximum", "hours"] (spDInit CD)) :
    MOk P w K mg base 3 CD "another_one" ["self"] (spAnother CD) := by
  obtain ⟨f, fd, F, M⟩ := F.ex
  refine ⟨f, fd, F.ok scAnother (fun vs H Q E h => ?_) (fun cdv A outer s H vs Q E hr h => ?_), F.binds fun _ _ _ _ _ _ us hl => match us, hl with | [_], _ => rfl, M⟩
  · obtain ⟨a, c, d, h, rfl, _⟩ := h
    rfl
  · obtain ⟨a, c, d, h, rfl, D, hh, k⟩ := h
    obtain ⟨dx, hI⟩ := D.ins
    refine ⟨_, pss_cons (ps_set (i := 1) scAnother.nd rfl (Or.inl rfl) (pe_k DK hr rfl (pa_cons (pe_fld (pv 0) rfl) (pa_cons (pe_fld (pv 0) rfl) (pa_cons (pe_fld (pv 0) rfl) (pa_cons (pe_callB call_len_seq (by rfl) T.len PySem.boot_len (pa_cons (pe_fld (pv 0) rfl) pa_nil)) pa_nil))))))
      (pss_cons (ps_fld (pv 1) (pe_callTy call_list_of (by rfl) hlist boot_list (pa_cons (pe_fld (pv 0) rfl) pa_nil)) rfl)
      (pss_one (ps_ret (pv 1)))), ?_⟩
    refine ⟨_, rfl, a, CD, dx, _, _, rfl, hI, T.cl, T.nMix, dF_mixed d c, _, rfl, a, CD, dx, _, _, rfl, hI, T.cl, T.nMin, dF_min d c, _, rfl, a, CD, dx, _, _, rfl, hI, T.cl, T.nMax, dF_max d c, _, rfl, a, CD, dx, _, _, rfl, hI, T.cl, T.nCo, dF_cooled d c, c, _, rfl, .inl (SqL.of D.lst), ?_⟩
    rw [vBl_len, cool_len]
    intro x dx' nx nd ne
    refine ⟨x, dx', d.mixedAt, d.minimum, d.maximum, h, rfl, upd_same, hh, D.mix, fun H1 c1 D1 hc1 k1 => ⟨rfl, ?_⟩⟩
    have s1 : Same H H1 := Same.made nx nd fun q o e hq => k1 q o e (by simp [hq])
    obtain ⟨dx1, hI1⟩ := D1.ins
    refine ⟨_, rfl, a, CD, dx, _, _, rfl, s1 _ _ hI, T.cl, T.nCo, dF_cooled d c, c, _, rfl, .inl (SqL.of (s1 _ _ D.lst)), fun l hl => ?_⟩
    have hxl : x ≠ l := ne_of_none hI1 hl
    refine ⟨_, rfl, x, CD, dx1, _, rfl, by rw [upd_ne hxl]; exact hI1, T.cl, T.nCo, (by show 4 < 1000; decide), ?_⟩
    refine ⟨_, rfl, k _ x l (fun q o e => ?_) nx (Same.free s1 hl) ⟨⟨dx1, ?_⟩, ?_, D.bits, D.mix⟩⟩
    · rw [upd_ne (ne_of_none e nx), upd_ne (ne_of_none (s1 _ _ e) hl)]
      exact s1 _ _ e
    · rw [upd_same, dF_put]
      rfl
    · rw [upd_ne hxl.symm, upd_same]
end
end Bk
namespace Bk
open PySem PySem.Spec PyProof.Rows L2
open PySem.W (Codec)
open Sr98 (Bakery)
/-! ### a Baking in the heap -/
def bF (b : Bakery) (wl : Addr) : List (Str × V) := [("windows", .ref wl), ("hours", .int (Sr98.hours b : Nat)), ("baking_time", .int (b.bakingTime : Nat))]
theorem bF_win (b : Bakery) (wl : Addr) : (bF b wl).lookup ("windows" : Str) = some (.ref wl) := lk_here
theorem bF_hours (b : Bakery) (wl : Addr) : (bF b wl).lookup ("hours" : Str) = some (.int (Sr98.hours b : Nat)) := (lk_past (by decide +kernel)).trans lk_here
theorem bF_bake (b : Bakery) (wl : Addr) : (bF b wl).lookup ("baking_time" : Str) = some (.int (b.bakingTime : Nat)) := (lk_past (by decide +kernel)).trans ((lk_past (by decide +kernel)).trans lk_here)
theorem bF_no (b : Bakery) (wl : Addr) {m : Str} (h1 : (m == ("windows" : Str)) = false) (h2 : (m == ("hours" : Str)) = false) (h3 : (m == ("baking_time" : Str)) = false) : (bF b wl).lookup m = none :=
  (lk_past h1).trans ((lk_past h2).trans ((lk_past h3).trans rfl))
abbrev winI (b : Bakery) (i : Nat) : List V := winV b (Sr98.doughAt b i)
structure BakeAt (CB : Addr) (H : Hp) (k wl : Addr) (was : List Addr) (b : Bakery) : Prop where
  ins : ∃ dx, H k = some (.ins CB dx (bF b wl))
  lst : H wl = some (.lst (was.map V.ref))
  len : was.length = b.doughs.length
  each : ∀ (j : Nat) (x : Addr), was[j]? = some x → H x = some (.lst (winI b j))
  wf : Wf b
theorem BakeAt.same {CB : Addr} {H H' : Hp} {k wl : Addr} {was : List Addr} {b : Bakery} (B : BakeAt CB H k wl was b) (s : Same H H') : BakeAt CB H' k wl was b := by
  obtain ⟨dx, e⟩ := B.ins
  exact ⟨⟨dx, s _ _ e⟩, s _ _ B.lst, B.len, fun j x hx => s _ _ (B.each j x hx), B.wf⟩
theorem BakeAt.at_ {CB : Addr} {H : Hp} {k wl : Addr} {was : List Addr} {b : Bakery} (B : BakeAt CB H k wl was b) {i : Nat} (h : i < b.doughs.length) : ∃ x, (was.map V.ref)[i]? = some (.ref x) ∧ H x = some (.lst (winI b i)) := by
  have h2 : i < was.length := by rw [B.len]; exact h
  refine ⟨was[i], ?_, B.each i _ (List.getElem?_eq_getElem h2)⟩
  rw [List.getElem?_map, List.getElem?_eq_getElem h2]
  rfl
theorem winI_no {b : Bakery} {i : Nat} (h : hasWin b i = false) : winI b i = [] := by
  unfold winI winV
  rw [(win_no h).1]
theorem winI_of {b : Bakery} {i : Nat} (h : hasWin b i = true) : winI b i = [.int (wBeg b i : Nat), .int (wEnd b i : Nat)] := by
  unfold winI winV
  rw [win_of h]
/-- the class Baking behind the top -/
structure TB (K : PySem.W.Frag) (mg : Str → Option Value) (CB : Addr) : Prop where
  cl : Cls K CB
  nW : NoAttr K CB "windows"
  nH : NoAttr K CB "hours"
  nB : NoAttr K CB "baking_time"
  range : mg "range" = none
  max : mg "max" = none
  len : mg "len" = none
  list : mg "list" = none
  min : mg "min" = none
section
variable {P : Program} {w : World} {K : PySem.W.Frag} {mg : Str → Option Value} {base : Heap} {CB : Addr}
abbrev iBake : Nat := 36
abbrev sBInit : Stmt := inClass (top iBake) 0
abbrev sAll : Stmt := inClass (top iBake) 1
abbrev sWith : Stmt := inClass (top iBake) 2
abbrev sWithout : Stmt := inClass (top iBake) 3
abbrev sBeg : Stmt := inClass (top iBake) 4
abbrev sEndW : Stmt := inClass (top iBake) 5
abbrev sEarl : Stmt := inClass (top iBake) 6
/-! ### __init__ -/
def spBInit (CB : Addr) : Sp := fun vs H Q _ => ∃ (p dx wl : Addr) (h t : Nat), vs = [.ref p, .ref wl, .int (h : Nat), .int (t : Nat)] ∧ H p = some (.ins CB dx []) ∧
  ∀ (H' : Hp), H' p = some (.ins CB dx [("windows", .ref wl), ("hours", .int (h : Nat)), ("baking_time", .int (t : Nat))]) → Keeps [p] H H' → Q .non H'
theorem scBInit : FnScope ["self", "windows", "hours", "baking_time"] ["self", "windows", "hours", "baking_time"] (defScope sBInit) := ⟨rfl, rfl, rfl, by decide +kernel, rfl, by decide +kernel, by decide +kernel⟩
theorem ok_binit (T : TB K mg CB) (F : ∃ f fd, Fun K "__init__" "Baking.__init__" sBInit f fd ∧ Mk K CB f) (n : mg "Baking" = some (.ref CB)) : KOk P w K mg base 1 CB "Baking" ["self", "windows", "hours", "baking_time"] (spBInit CB) := by
  obtain ⟨f, fd, F, M⟩ := F
  refine ⟨⟨f, fd, F.ok scBInit (fun vs H Q E h => ?_) (fun cdv A outer s H vs Q E hr h => ?_), F.binds fun _ _ _ _ _ _ us hl => match us, hl with | [_, _, _, _], _ => rfl, M⟩, n⟩
  · obtain ⟨p, dx, wl, h, t, rfl, _⟩ := h
    rfl
  · obtain ⟨p, dx, wl, h, t, rfl, hp, k⟩ := h
    refine ⟨_, pss_cons (ps_fld (pv 0) (pv 1) rfl) (pss_cons (ps_fld (pv 0) (pv 2) rfl) (pss_one (ps_fld (pv 0) (pv 3) rfl))), ?_⟩
    refine ⟨_, rfl, _, rfl, p, CB, dx, _, rfl, hp, T.cl, T.nW, (by show 0 < 1000; decide), ?_⟩
    refine ⟨_, rfl, _, rfl, p, CB, dx, _, rfl, upd_same, T.cl, T.nH, (by show 1 < 1000; decide), ?_⟩
    refine ⟨_, rfl, _, rfl, p, CB, dx, _, rfl, upd_same, T.cl, T.nB, (by show 2 < 1000; decide), ?_⟩
    rw [upd_upd, upd_upd]
    exact k _ upd_same (keeps_upd (by simp))
/-! ### all_doughs -/
def spAll (CB : Addr) : Sp := fun vs H Q _ => ∃ (k wl : Addr) (was : List Addr) (b : Bakery), vs = [.ref k] ∧ BakeAt CB H k wl was b ∧ ∀ l, H l = none → Q (.ref l) (upd H l (.lst (vNat (Sr98.allDoughs b))))
theorem scAll : FnScope ["self"] ["self"] (defScope sAll) := ⟨rfl, rfl, rfl, by decide +kernel, rfl, by decide +kernel, by decide +kernel⟩
theorem rgV_nat (n : Nat) : rgV 0 (n : Int) = vNat (List.range n) := by
  unfold rgV vNat
  rw [show ((n : Int) - 0).toNat = n by omega]
  refine List.map_congr_left fun i _ => ?_
  rw [Int.zero_add]
theorem ok_all (T : TB K mg CB) (F : MFun K CB "all_doughs" "Baking.all_doughs" sAll) : MOk P w K mg base 1 CB "all_doughs" ["self"] (spAll CB) := by
  obtain ⟨f, fd, F, M⟩ := F.ex
  refine ⟨f, fd, F.ok scAll (fun vs H Q E h => ?_) (fun cdv A outer s H vs Q E hr h => ?_), F.binds fun _ _ _ _ _ _ us hl => match us, hl with | [_], _ => rfl, M⟩
  · obtain ⟨k, wl, was, b, rfl, _⟩ := h
    rfl
  · obtain ⟨k, wl, was, b, rfl, B, q⟩ := h
    obtain ⟨dx, hI⟩ := B.ins
    refine ⟨_, pss_one (ps_ret (pe_listRg rfl (by rfl) T.list (prg_1 (by rfl) T.range (pe_callB call_len_seq (by rfl) T.len PySem.boot_len (pa_cons (pe_fld (pv 0) rfl) pa_nil))))), ?_⟩
    have h6 := B.wf.six
    refine ⟨_, rfl, k, CB, dx, _, _, rfl, hI, T.cl, T.nW, bF_win b wl, wl, _, rfl, .inl (SqL.of B.lst), _, rfl, ?_⟩
    rw [List.length_map, B.len]
    refine ⟨RgOk.of_le (by omega) (by omega) (by omega) (by omega), fun l hl => ?_⟩
    rw [rgV_nat]
    exact q l hl
/-! ### begin_of_window, end_of_window -/
def spBeg (CB : Addr) : Sp := fun vs H Q _ => ∃ (k wl : Addr) (was : List Addr) (b : Bakery) (i : Nat), vs = [.ref k, .int (i : Nat)] ∧ BakeAt CB H k wl was b ∧ i < b.doughs.length ∧ hasWin b i = true ∧ Q (.int (wBeg b i : Nat)) H
def spEndW (CB : Addr) : Sp := fun vs H Q _ => ∃ (k wl : Addr) (was : List Addr) (b : Bakery) (i : Nat), vs = [.ref k, .int (i : Nat)] ∧ BakeAt CB H k wl was b ∧ i < b.doughs.length ∧ hasWin b i = true ∧ Q (.int (wEnd b i : Nat)) H
theorem scBeg : FnScope ["self", "i"] ["self", "i"] (defScope sBeg) := ⟨rfl, rfl, rfl, by decide +kernel, rfl, by decide +kernel, by decide +kernel⟩
theorem scEndW : FnScope ["self", "i"] ["self", "i"] (defScope sEndW) := ⟨rfl, rfl, rfl, by decide +kernel, rfl, by decide +kernel, by decide +kernel⟩
theorem ok_beg (T : TB K mg CB) (F : MFun K CB "begin_of_window" "Baking.begin_of_window" sBeg) : MOk P w K mg base 1 CB "begin_of_window" ["self", "i"] (spBeg CB) := by
  obtain ⟨f, fd, F, M⟩ := F.ex
  refine ⟨f, fd, F.ok scBeg (fun vs H Q E h => ?_) (fun cdv A outer s H vs Q E hr h => ?_), F.binds fun _ _ _ _ _ _ us hl => match us, hl with | [_, _], _ => rfl, M⟩
  · obtain ⟨k, wl, was, b, i, rfl, _⟩ := h
    rfl
  · obtain ⟨k, wl, was, b, i, rfl, B, hi, hw, q⟩ := h
    obtain ⟨dx, hI⟩ := B.ins
    obtain ⟨x, hx, hxl⟩ := B.at_ hi
    rw [winI_of hw] at hxl
    refine ⟨_, pss_one (ps_ret (pe_ix ix_list (pe_ix ix_list (pe_fld (pv 0) rfl) (pv 1) (fun _ _ => rfl)) pe_int (fun _ _ => rfl))), ?_⟩
    exact ⟨_, rfl, k, CB, dx, _, _, rfl, hI, T.cl, T.nW, bF_win b wl, _, rfl, wl, _, _, _, rfl, rfl, SqL.of B.lst, at_of (j := i) rfl hx, x, _, _, _, rfl, rfl, SqL.of hxl, at_of (j := 0) rfl rfl, q⟩
theorem ok_endW (T : TB K mg CB) (F : MFun K CB "end_of_window" "Baking.end_of_window" sEndW) : MOk P w K mg base 1 CB "end_of_window" ["self", "i"] (spEndW CB) := by
  obtain ⟨f, fd, F, M⟩ := F.ex
  refine ⟨f, fd, F.ok scEndW (fun vs H Q E h => ?_) (fun cdv A outer s H vs Q E hr h => ?_), F.binds fun _ _ _ _ _ _ us hl => match us, hl with | [_, _], _ => rfl, M⟩
  · obtain ⟨k, wl, was, b, i, rfl, _⟩ := h
    rfl
  · obtain ⟨k, wl, was, b, i, rfl, B, hi, hw, q⟩ := h
    obtain ⟨dx, hI⟩ := B.ins
    obtain ⟨x, hx, hxl⟩ := B.at_ hi
    rw [winI_of hw] at hxl
    refine ⟨_, pss_one (ps_ret (pe_ix ix_list (pe_ix ix_list (pe_fld (pv 0) rfl) (pv 1) (fun _ _ => rfl)) pe_int (fun _ _ => rfl))), ?_⟩
    exact ⟨_, rfl, k, CB, dx, _, _, rfl, hI, T.cl, T.nW, bF_win b wl, _, rfl, wl, _, _, _, rfl, rfl, SqL.of B.lst, at_of (j := i) rfl hx, x, _, _, _, rfl, rfl, SqL.of hxl, at_of (j := 1) rfl rfl, q⟩
/-! ### doughs_with_a_window, doughs_without_a_window -/
def spWith (CB : Addr) : Sp := fun vs H Q _ => ∃ (k wl : Addr) (was : List Addr) (b : Bakery), vs = [.ref k] ∧ BakeAt CB H k wl was b ∧ ∀ (H' : Hp) l, Same H H' → H l = none → H' l = some (.lst (vNat (wins b (Sr98.allDoughs b)))) → Q (.ref l) H'
def spWithout (CB : Addr) : Sp := fun vs H Q _ => ∃ (k wl : Addr) (was : List Addr) (b : Bakery), vs = [.ref k] ∧ BakeAt CB H k wl was b ∧ ∀ (H' : Hp) l, Same H H' → H l = none → H' l = some (.lst (vNat (nowins b (Sr98.allDoughs b)))) → Q (.ref l) H'
theorem scWith : FnScope ["self", "i"] ["self"] (defScope sWith) := ⟨rfl, rfl, rfl, by decide +kernel, rfl, by decide +kernel, by decide +kernel⟩
theorem scWithout : FnScope ["self", "i"] ["self"] (defScope sWithout) := ⟨rfl, rfl, rfl, by decide +kernel, rfl, by decide +kernel, by decide +kernel⟩
theorem all_lt {b : Bakery} {i : Nat} (h : i ∈ Sr98.allDoughs b) : i < b.doughs.length := List.mem_range.mp h
theorem all_len (b : Bakery) : (Sr98.allDoughs b).length = b.doughs.length := by simp [Sr98.allDoughs]
theorem ok_with (T : TB K mg CB) (F : MFun K CB "doughs_with_a_window" "Baking.doughs_with_a_window" sWith) (AL : MOk P w K mg base 1 CB "all_doughs" ["self"] (spAll CB)) : MOk P w K mg base 2 CB "doughs_with_a_window" ["self"] (spWith CB) := by
  obtain ⟨f, fd, F, M⟩ := F.ex
  refine ⟨f, fd, F.ok scWith (fun vs H Q E h => ?_) (fun cdv A outer s H vs Q E hr h => ?_), F.binds fun _ _ _ _ _ _ us hl => match us, hl with | [_], _ => rfl, M⟩
  · obtain ⟨k, wl, was, b, rfl, _⟩ := h
    rfl
  · obtain ⟨k, wl, was, b, rfl, B, q⟩ := h
    obtain ⟨dx, hI⟩ := B.ins
    refine ⟨_, pss_one (ps_ret (pe_lc (own := [("i", 1)]) (g := gName 1) rfl scWith.nd (pi_list (pe_m0 (pv 0) T.cl AL hr)) (blkOk_by (N := ["self", "i"]) (sc := defScope sWith) (by decide +kernel))
        (fun _ _ _ _ _ => pg_name (i := 1) scWith.nd rfl (Or.inl rfl))
        (fun _ _ _ _ _ => pts_one (pt_cmpR op_gt (pe_callB (lenK K) (by rfl) T.len PySem.boot_len (pa_cons (pe_ix (ixK K) (fldK K (pv 0) rfl) (pv 1) (fun _ _ => rfl)) pa_nil)) pe_int (nomark _)))
        (fun _ _ _ _ _ => pv 1))), ?_⟩
    have h6 := B.wf.six
    refine ⟨_, rfl, k, dx, _, rfl, hI, bF_no b wl (by decide +kernel) (by decide +kernel) (by decide +kernel), k, wl, was, b, rfl, B, fun l hl => ⟨l, rfl, ⟨_, SqL.of upd_same⟩, fun L hL => ?_⟩⟩
    have s0 : Same H (upd H l (.lst (vNat (Sr98.allDoughs b)))) := same_new hl
    refine lc_filt (inj := fun (n : Nat) => V.int (n : Int)) (Sr98.allDoughs b) (hasWin b) (fun (n : Nat) => V.int (n : Int)) (SqL.of upd_same) hL (by rw [all_len]; exact small1000 (by omega)) ?_ (fun H' s1 e => q H' L (s0.trans s1) (Same.free s0 hL) e)
    intro i H' Z Z' hi s1 z z'
    obtain ⟨x, hx, hxl⟩ := B.at_ (all_lt hi)
    have s2 := s0.trans s1
    refine ⟨rfl, _, rfl, k, CB, dx, _, _, rfl, s2 _ _ hI, T.cl, T.nW, bF_win b wl, _, rfl, wl, _, _, _, rfl, rfl, SqL.of (s2 _ _ B.lst), at_of (j := i) rfl hx, x, _, rfl, .inl (SqL.of (s2 _ _ hxl)), _, _, rfl, rfl, ?_⟩
    cases e : hasWin b i with
    | true =>
      rw [winI_of e]
      exact ⟨_, rfl, iteT ⟨_, rfl, z e⟩⟩
    | false =>
      rw [winI_no e]
      exact ⟨_, rfl, iteF (z' e)⟩
theorem ok_without (T : TB K mg CB) (F : MFun K CB "doughs_without_a_window" "Baking.doughs_without_a_window" sWithout) (AL : MOk P w K mg base 1 CB "all_doughs" ["self"] (spAll CB)) : MOk P w K mg base 2 CB "doughs_without_a_window" ["self"] (spWithout CB) := by
  obtain ⟨f, fd, F, M⟩ := F.ex
  refine ⟨f, fd, F.ok scWithout (fun vs H Q E h => ?_) (fun cdv A outer s H vs Q E hr h => ?_), F.binds fun _ _ _ _ _ _ us hl => match us, hl with | [_], _ => rfl, M⟩
  · obtain ⟨k, wl, was, b, rfl, _⟩ := h
    rfl
  · obtain ⟨k, wl, was, b, rfl, B, q⟩ := h
    obtain ⟨dx, hI⟩ := B.ins
    refine ⟨_, pss_one (ps_ret (pe_lc (own := [("i", 1)]) (g := gName 1) rfl scWithout.nd (pi_list (pe_m0 (pv 0) T.cl AL hr)) (blkOk_by (N := ["self", "i"]) (sc := defScope sWithout) (by decide +kernel))
        (fun _ _ _ _ _ => pg_name (i := 1) scWithout.nd rfl (Or.inl rfl))
        (fun _ _ _ _ _ => pts_one (pt_cmpR op_eq (pe_callB (lenK K) (by rfl) T.len PySem.boot_len (pa_cons (pe_ix (ixK K) (fldK K (pv 0) rfl) (pv 1) (fun _ _ => rfl)) pa_nil)) pe_int (nomark _)))
        (fun _ _ _ _ _ => pv 1))), ?_⟩
    have h6 := B.wf.six
    refine ⟨_, rfl, k, dx, _, rfl, hI, bF_no b wl (by decide +kernel) (by decide +kernel) (by decide +kernel), k, wl, was, b, rfl, B, fun l hl => ⟨l, rfl, ⟨_, SqL.of upd_same⟩, fun L hL => ?_⟩⟩
    have s0 : Same H (upd H l (.lst (vNat (Sr98.allDoughs b)))) := same_new hl
    refine lc_filt (inj := fun (n : Nat) => V.int (n : Int)) (Sr98.allDoughs b) (fun i => !hasWin b i) (fun (n : Nat) => V.int (n : Int)) (SqL.of upd_same) hL (by rw [all_len]; exact small1000 (by omega)) ?_ (fun H' s1 e => q H' L (s0.trans s1) (Same.free s0 hL) e)
    intro i H' Z Z' hi s1 z z'
    obtain ⟨x, hx, hxl⟩ := B.at_ (all_lt hi)
    have s2 := s0.trans s1
    refine ⟨rfl, _, rfl, k, CB, dx, _, _, rfl, s2 _ _ hI, T.cl, T.nW, bF_win b wl, _, rfl, wl, _, _, _, rfl, rfl, SqL.of (s2 _ _ B.lst), at_of (j := i) rfl hx, x, _, rfl, .inl (SqL.of (s2 _ _ hxl)), rfl, ?_⟩
    cases e : hasWin b i with
    | true =>
      rw [winI_of e]
      exact ⟨_, rfl, iteF (z' (by rw [e]; rfl))⟩
    | false =>
      rw [winI_no e]
      exact ⟨_, rfl, iteT ⟨_, rfl, z (by rw [e]; rfl)⟩⟩
/-! ### earliest_start -/
def optV : Option Nat → V
  | none => .non
  | some s => .int (s : Nat)
def spEarl (CB : Addr) : Sp := fun vs H Q _ => ∃ (k wl : Addr) (was : List Addr) (b : Bakery) (i t : Nat), vs = [.ref k, .int (i : Nat), .int (t : Nat)] ∧ BakeAt CB H k wl was b ∧ i < b.doughs.length ∧ Q (optV (estart b i t)) H
theorem scEarl : FnScope ["self", "i", "free_from", "start"] ["self", "i", "free_from"] (defScope sEarl) := ⟨rfl, rfl, rfl, by decide +kernel, rfl, by decide +kernel, by decide +kernel⟩
theorem ok_earl (T : TB K mg CB) (F : MFun K CB "earliest_start" "Baking.earliest_start" sEarl) (BW : MOk P w K mg base 1 CB "begin_of_window" ["self", "i"] (spBeg CB)) (EW : MOk P w K mg base 1 CB "end_of_window" ["self", "i"] (spEndW CB)) :
    MOk P w K mg base 2 CB "earliest_start" ["self", "i", "free_from"] (spEarl CB) := by
  obtain ⟨f, fd, F, M⟩ := F.ex
  refine ⟨f, fd, F.ok scEarl (fun vs H Q E h => ?_) (fun cdv A outer s H vs Q E hr h => ?_), F.binds fun _ _ _ _ _ _ us hl => match us, hl with | [_, _, _], _ => rfl, M⟩
  · obtain ⟨k, wl, was, b, i, t, rfl, _⟩ := h
    rfl
  · obtain ⟨k, wl, was, b, i, t, rfl, B, hi, q⟩ := h
    obtain ⟨dx, hI⟩ := B.ins
    obtain ⟨x, hx, hxl⟩ := B.at_ hi
    refine ⟨_, pss_cons (ps_if (pt_cmpR op_eq (pe_callB call_len_seq (by rfl) T.len PySem.boot_len (pa_cons (pe_ix ix_list (pe_fld (pv 0) rfl) (pv 1) (fun _ _ => rfl)) pa_nil)) pe_int (nomark _)) (pss_one (ps_ret pe_non)) pss_nil)
      (pss_cons (ps_set (i := 3) scEarl.nd rfl (Or.inl rfl) (pe_callB (call_max2 rfl) (by rfl) T.max (by decide +kernel) (pa_cons (pe_m (pv 0) T.cl BW hr (pa_cons (pv 1) pa_nil)) (pa_cons (pv 2) pa_nil))))
      (pss_cons (ps_if (pt_cmpR op_gt (pv 3) (pe_m (pv 0) T.cl EW hr (pa_cons (pv 1) pa_nil)) (nomark _)) (pss_one (ps_ret pe_non)) pss_nil)
      (pss_cons (ps_if (pt_cmpR op_gt (pe_op op_add (pv 3) (pe_fld (pv 0) rfl)) (pe_fld (pv 0) rfl) (nomark _)) (pss_one (ps_ret pe_non)) pss_nil)
      (pss_one (ps_ret (pv 3)))))), ?_⟩
    refine ⟨_, rfl, k, CB, dx, _, _, rfl, hI, T.cl, T.nW, bF_win b wl, _, rfl, wl, _, _, _, rfl, rfl, SqL.of B.lst, at_of (j := i) rfl hx, x, _, rfl, .inl (SqL.of hxl), rfl, ?_⟩
    cases e : hasWin b i with
    | false =>
      have ee : estart b i t = none := by
        unfold estart
        rw [(win_no e).1]
      rw [ee] at q
      rw [winI_no e]
      exact ⟨_, rfl, iteT q⟩
    | true =>
      rw [winI_of e]
      have ee : estart b i t = if wEnd b i < max t (wBeg b i) ∨ Sr98.hours b < max t (wBeg b i) + b.bakingTime then none else some (max t (wBeg b i)) := by
        unfold estart
        rw [win_of e]
      have em : (if ((t : Nat) : Int) > (wBeg b i : Nat) then ((t : Nat) : Int) else (wBeg b i : Nat)) = ((max t (wBeg b i) : Nat) : Int) := by
        split <;> omega
      refine ⟨_, rfl, iteF ⟨_, rfl, k, dx, _, rfl, hI, bF_no b wl (by decide +kernel) (by decide +kernel) (by decide +kernel), _, rfl, k, wl, was, b, i, rfl, B, hi, e, _, rfl, _, _, rfl, ?_⟩⟩
      rw [em]
      refine ⟨_, rfl, _, rfl, k, dx, _, rfl, hI, bF_no b wl (by decide +kernel) (by decide +kernel) (by decide +kernel), _, rfl, k, wl, was, b, i, rfl, B, hi, e, _, _, rfl, rfl, _, rfl, ?_⟩
      by_cases h1 : wEnd b i < max t (wBeg b i)
      · rw [if_pos (.inl h1)] at ee
        rw [ee] at q
        rw [decide_eq_true (show ((wEnd b i : Nat) : Int) < (max t (wBeg b i) : Nat) by omega)]
        exact iteT q
      · rw [decide_eq_false (show ¬ ((wEnd b i : Nat) : Int) < (max t (wBeg b i) : Nat) by omega)]
        refine iteF ⟨_, rfl, _, rfl, k, CB, dx, _, _, rfl, hI, T.cl, T.nB, bF_bake b wl, _, _, rfl, rfl, _, rfl, k, CB, dx, _, _, rfl, hI, T.cl, T.nH, bF_hours b wl, _, _, rfl, rfl, _, rfl, ?_⟩
        by_cases h2 : Sr98.hours b < max t (wBeg b i) + b.bakingTime
        · rw [if_pos (.inr h2)] at ee
          rw [ee] at q
          rw [decide_eq_true (show ((Sr98.hours b : Nat) : Int) < ((max t (wBeg b i) : Nat) : Int) + (b.bakingTime : Nat) by omega)]
          exact iteT q
        · rw [if_neg (by omega)] at ee
          rw [ee] at q
          rw [decide_eq_false (show ¬ ((Sr98.hours b : Nat) : Int) < ((max t (wBeg b i) : Nat) : Int) + (b.bakingTime : Nat) by omega)]
          exact iteF ⟨_, rfl, q⟩
end
end Bk
namespace Bk
open PySem PySem.Spec PyProof.Rows L2
open PySem.W (Codec)
open Sr98 (Bakery)
/-- None, or a list of these numbers -/
def OptAt (H : Hp) (v : V) : Option (List Nat) → Prop
  | none => v = .non
  | some o => ∃ l, v = .ref l ∧ H l = some (.lst (vNat o))
theorem OptAt.same {H H' : Hp} {v : V} {o : Option (List Nat)} (h : OptAt H v o) (s : Same H H') : OptAt H' v o := by
  cases o with
  | none => exact h
  | some o =>
    obtain ⟨l, e, hl⟩ := h
    exact ⟨l, e, s _ _ hl⟩
theorem OptAt.keep {H H' : Hp} {v : V} {o : Option (List Nat)} {F : List Addr} (h : OptAt H v o) (s : Keeps F H H') (n : ∀ l, (∃ xs, H l = some (.lst xs)) → l ∉ F) : OptAt H' v o := by
  cases o with
  | none => exact h
  | some o =>
    obtain ⟨l, e, hl⟩ := h
    exact ⟨l, e, s _ _ hl (n l ⟨_, hl⟩)⟩
section
variable {P : Program} {w : World} {K : PySem.W.Frag} {mg : Str → Option Value} {base : Heap} {CB : Addr}
abbrev sTimesO : Stmt := inClass (top iBake) 7
abbrev sFinT : Stmt := inClass (top iBake) 8
abbrev sNum : Stmt := top 38
abbrev sSetOf : Stmt := top 39
/-! ### times_of_order -/
def spTimesO (CB : Addr) : Sp := fun vs H Q _ => ∃ (k wl ol : Addr) (was : List Addr) (b : Bakery) (o : List Nat), vs = [.ref k, .ref ol] ∧ BakeAt CB H k wl was b ∧ H ol = some (.lst (vNat o)) ∧ (∀ i ∈ o, i < b.doughs.length) ∧ o.length ≤ 70 ∧
  ∀ (H' : Hp) (v : V), Same H H' → OptAt H' v (Sr98.startTimesFrom b o 0) → (∀ l, v = .ref l → H l = none) → Q v H'
theorem scTimesO : FnScope ["self", "order", "times", "free_from", "i", "start"] ["self", "order"] (defScope sTimesO) := ⟨rfl, rfl, rfl, by decide +kernel, rfl, by decide +kernel, by decide +kernel⟩
theorem ok_timesO (T : TB K mg CB) (F : MFun K CB "times_of_order" "Baking.times_of_order" sTimesO) (ES : MOk P w K mg base 2 CB "earliest_start" ["self", "i", "free_from"] (spEarl CB)) : MOk P w K mg base 3 CB "times_of_order" ["self", "order"] (spTimesO CB) := by
  obtain ⟨f, fd, F, M⟩ := F.ex
  refine ⟨f, fd, F.ok scTimesO (fun vs H Q E h => ?_) (fun cdv A outer s H vs Q E hr h => ?_), F.binds fun _ _ _ _ _ _ us hl => match us, hl with | [_, _], _ => rfl, M⟩
  · obtain ⟨k, wl, ol, was, b, o, rfl, _⟩ := h
    rfl
  · obtain ⟨k, wl, ol, was, b, o, rfl, B, ho, hlt, h70, q⟩ := h
    obtain ⟨dx, hI⟩ := B.ins
    refine ⟨_, pss_cons (ps_set (i := 2) scTimesO.nd rfl (Or.inl rfl) (pe_lst pa_nil))
      (pss_cons (ps_set (i := 3) scTimesO.nd rfl (Or.inl rfl) pe_int)
      (pss_cons (ps_for PassesOwn.never rfl (pi_list (pv 1)) (pg_name (i := 4) scTimesO.nd rfl (Or.inl rfl))
        (pss_cons (ps_set (i := 5) scTimesO.nd rfl (Or.inl rfl) (pe_m (pv 0) T.cl ES hr (pa_cons (pv 4) (pa_cons (pv 3) pa_nil))))
        (pss_cons (ps_if (pt_cmpR op_isN (pv 5) pe_non (nomark _)) (pss_one (ps_ret pe_non)) pss_nil)
        (pss_cons (ps_expr (pe_bm PySem.F.plainAttrs_list PySem.F.slot_list_append PySem.F.type_list_append mt_append (pv 2) (pa_cons (pv 5) pa_nil)))
        (pss_one (ps_set (i := 3) scTimesO.nd rfl (Or.inl rfl) (pe_op op_add (pv 5) (pe_fld (pv 0) rfl))))))))
      (pss_one (ps_ret (pv 2))))), ?_⟩
    refine ⟨Nat.zero_le _, fun L hL => ?_⟩
    have s0 : Same H (upd H L (.lst [])) := same_new hL
    refine ⟨_, rfl, ol, rfl, ⟨_, SqL.of (s0 _ _ ho)⟩, for_list (K := K) (a := ol) (xs := vNat o) (fun i σ H' => ∃ (TT : List Nat) (Fr : Nat) (v4 v5 : Option V), σ = [some (.ref k), some (.ref ol), some (.ref L), some (.int (Fr : Nat)), v4, v5] ∧ Same H H' ∧
      H' L = some (.lst (vNat TT)) ∧ TT.length = i ∧ Sr98.startTimesFrom b o 0 = (Sr98.startTimesFrom b (o.drop i) Fr).map (TT ++ ·)) ?_ (fun i σ H' _ ⟨_, _, _, _, _, s1, _⟩ => SqL.of (s1 _ _ ho)) ?_ ?_⟩
    · refine ⟨[], 0, none, none, rfl, s0, upd_same, rfl, ?_⟩
      rw [List.drop_zero]
      show _ = Option.map (fun x => x) _
      rw [Option.map_id']
    · rintro i x σ H' hi ⟨TT, Fr, v4, v5, rfl, s1, hl, hlen, heq⟩
      obtain ⟨j, hj, rfl⟩ : ∃ j, o[i]? = some j ∧ x = V.int (j : Nat) := by
        unfold vNat at hi
        rw [List.getElem?_map] at hi
        cases e : o[i]? with
        | none =>
          rw [e] at hi
          cases hi
        | some j =>
          rw [e] at hi
          exact ⟨j, rfl, (Option.some.inj hi).symm⟩
      have hil := (List.getElem?_eq_some_iff.mp hj).1
      have hjm := List.mem_of_getElem? hj
      have ed : o.drop i = j :: o.drop (i + 1) := by
        rw [List.drop_eq_getElem_cons hil]
        congr 1
        exact (List.getElem?_eq_some_iff.mp hj).2
      rw [ed, from_cons] at heq
      have B' := B.same s1
      refine ⟨_, rfl, k, dx, _, rfl, s1 _ _ hI, bF_no b wl (by decide +kernel) (by decide +kernel) (by decide +kernel), _, rfl, _, rfl, k, wl, was, b, j, Fr, rfl, B', hlt j hjm, ?_⟩
      cases hs : estart b j Fr with
      | none =>
        rw [hs] at heq
        refine ⟨_, rfl, rfl, _, rfl, iteT (q H' .non s1 ?_ (fun l e => by cases e))⟩
        rw [heq]
        exact rfl
      | some st =>
        rw [hs] at heq
        refine ⟨_, rfl, rfl, _, rfl, iteF ⟨_, rfl, .inl ⟨rfl, _, SqL.of hl⟩, _, rfl, L, _, _, rfl, rfl, hl, by rw [vNat_len, hlen]; exact small1000 (by omega), ?_⟩⟩
        have nLk : k ≠ L := ne_of_none hI hL
        refine ⟨_, rfl, _, rfl, k, CB, dx, _, _, rfl, by rw [upd_ne nLk]; exact s1 _ _ hI, T.cl, T.nB, bF_bake b wl, _, _, rfl, rfl, ?_⟩
        refine ⟨TT ++ [st], st + b.bakingTime, _, _, rfl, fun y u e => ?_, ?_, ?_, ?_⟩
        · rw [upd_ne (ne_of_none e hL)]
          exact s1 _ _ e
        · rw [upd_same, vNat_app]
          rfl
        · rw [List.length_append, hlen]
          rfl
        · rw [heq, Option.map_map]
          congr 1
          funext l
          simp
    · rintro σ H' ⟨TT, Fr, v4, v5, rfl, s1, hl, hlen, heq⟩
      rw [vNat_len, List.drop_length] at heq
      have e : Sr98.startTimesFrom b o 0 = some TT := by
        rw [heq]
        show some (TT ++ []) = _
        rw [List.append_nil]
      refine ⟨_, rfl, q H' (.ref L) s1 ?_ (fun l e => by cases e; exact hL)⟩
      rw [e]
      exact ⟨L, rfl, hl⟩
/-! ### finish_of_times -/
def spFinT (CB : Addr) : Sp := fun vs H Q _ => ∃ (k wl tl : Addr) (was : List Addr) (b : Bakery) (TT : List Nat), vs = [.ref k, .ref tl] ∧ BakeAt CB H k wl was b ∧ H tl = some (.lst (vNat TT)) ∧ Q (.int (((TT.getLast?.map fun t => t + b.bakingTime).getD 0 : Nat) : Int)) H
theorem scFinT : FnScope ["self", "times"] ["self", "times"] (defScope sFinT) := ⟨rfl, rfl, rfl, by decide +kernel, rfl, by decide +kernel, by decide +kernel⟩
theorem ok_finT (T : TB K mg CB) (F : MFun K CB "finish_of_times" "Baking.finish_of_times" sFinT) : MOk P w K mg base 1 CB "finish_of_times" ["self", "times"] (spFinT CB) := by
  obtain ⟨f, fd, F, M⟩ := F.ex
  refine ⟨f, fd, F.ok scFinT (fun vs H Q E h => ?_) (fun cdv A outer s H vs Q E hr h => ?_), F.binds fun _ _ _ _ _ _ us hl => match us, hl with | [_, _], _ => rfl, M⟩
  · obtain ⟨k, wl, tl, was, b, TT, rfl, _⟩ := h
    rfl
  · obtain ⟨k, wl, tl, was, b, TT, rfl, B, ht, q⟩ := h
    obtain ⟨dx, hI⟩ := B.ins
    refine ⟨_, pss_cons (ps_if (pt_cmpR op_eq (pe_callB call_len_seq (by rfl) T.len PySem.boot_len (pa_cons (pv 1) pa_nil)) pe_int (nomark _)) (pss_one (ps_ret pe_int)) pss_nil)
      (pss_one (ps_ret (pe_op op_add (pe_ix ix_list (pv 1) (pe_un un_neg pe_int) (fun _ _ => rfl)) (pe_fld (pv 0) rfl)))), ?_⟩
    refine ⟨_, rfl, tl, _, rfl, .inl (SqL.of ht), rfl, _, rfl, ?_⟩
    rw [vNat_len]
    rcases List.eq_nil_or_concat TT with rfl | ⟨r, t, rfl⟩
    · exact iteT q
    · have ez : (decide (V.int (((r.concat t).length : Nat) : Int) = V.int 0)) = false := by
        refine decide_eq_false fun e => ?_
        have e2 : (((r.concat t).length : Nat) : Int) = 0 := V.int.inj e
        rw [List.length_concat] at e2
        omega
      refine (show (if decide (V.int (((r.concat t).length : Nat) : Int) = V.int 0) = true then _ else _) from ?_)
      rw [ez]
      have el : atI (vNat (r.concat t)) (-1) = some (.int (t : Nat)) := by
        rw [List.concat_eq_append, vNat_app]
        exact atI_last _ _
      have eg : ((r.concat t).getLast?.map fun t => t + b.bakingTime).getD 0 = t + b.bakingTime := by
        rw [List.concat_eq_append, List.getLast?_concat]
        rfl
      rw [eg] at q
      exact iteF ⟨_, rfl, _, rfl, tl, _, _, _, rfl, rfl, SqL.of ht, el, _, rfl, k, CB, dx, _, _, rfl, hI, T.cl, T.nB, bF_bake b wl, _, _, rfl, rfl, q⟩
/-! ### number_of_sets, doughs_of_set -/
def spNum : Sp := fun vs H Q _ => ∃ n : Nat, vs = [.int (n : Nat)] ∧ n ≤ 6 ∧ Q (.int ((2 ^ n : Nat) : Int)) H
theorem scNum : FnScope ["count"] ["count"] (defScope sNum) := ⟨rfl, rfl, rfl, by decide +kernel, rfl, by decide +kernel, by decide +kernel⟩
theorem ok_num (F : GFun K mg "number_of_sets" sNum) : GOk P w K mg base 1 "number_of_sets" ["count"] spNum := by
  obtain ⟨f, fd, F, n⟩ := F.ex
  refine ⟨f, fd, F.ok scNum (fun vs H Q E h => ?_) (fun cdv A outer s H vs Q E hr h => ?_), F.binds fun _ _ _ _ _ _ us hl => match us, hl with | [_], _ => rfl, n, F.kp⟩
  · obtain ⟨n, rfl, _⟩ := h
    rfl
  · obtain ⟨n, rfl, hn, q⟩ := h
    refine ⟨_, pss_one (ps_ret (pe_op op_oneShl pe_int (pv 0))), ?_⟩
    refine ⟨_, rfl, n, rfl, rfl, by omega, ?_⟩
    rw [Int.natCast_pow] at q
    exact q
def spSetOf : Sp := fun vs H Q _ => ∃ n s : Nat, vs = [.int (s : Nat)] ∧ n ≤ 6 ∧ s < 2 ^ n ∧ ∀ (H' : Hp) l, Same H H' → H l = none → H' l = some (.lst (vNat (SrCommon.maskMembers n s))) → Q (.ref l) H'
theorem scSetOf : FnScope ["set_number", "doughs", "i"] ["set_number"] (defScope sSetOf) := ⟨rfl, rfl, rfl, by decide +kernel, rfl, by decide +kernel, by decide +kernel⟩
theorem shr_nat (s i : Nat) : ((s : Nat) : Int) / 2 ^ i = ((s / 2 ^ i : Nat) : Int) := by
  rw [Int.natCast_ediv, Int.natCast_pow]
  rfl
theorem ok_setOf (F : GFun K mg "doughs_of_set" sSetOf) : GOk P w K mg base 1 "doughs_of_set" ["set_number"] spSetOf := by
  obtain ⟨f, fd, F, n⟩ := F.ex
  refine ⟨f, fd, F.ok scSetOf (fun vs H Q E h => ?_) (fun cdv A outer s H vs Q E hr h => ?_), F.binds fun _ _ _ _ _ _ us hl => match us, hl with | [_], _ => rfl, n, F.kp⟩
  · obtain ⟨n, s, rfl, _⟩ := h
    rfl
  · obtain ⟨n, s, rfl, hn, hs, q⟩ := h
    refine ⟨_, pss_cons (ps_set (i := 1) scSetOf.nd rfl (Or.inl rfl) (pe_lst pa_nil))
      (pss_cons (ps_set (i := 2) scSetOf.nd rfl (Or.inl rfl) pe_int)
      (pss_cons (ps_while PassesOwn.never (pt_cmpR op_gt (pe_op op_shrN (pv 0) (pv 2)) pe_int (nomark _))
        (pss_cons (ps_if (pt_cmpR op_eq (pe_op op_odd (pe_op op_shrN (pv 0) (pv 2)) pe_int) pe_int (nomark _))
          (pss_one (ps_expr (pe_bm PySem.F.plainAttrs_list PySem.F.slot_list_append PySem.F.type_list_append mt_append (pv 1) (pa_cons (pv 2) pa_nil)))) pss_nil)
        (pss_one (ps_aug (i := 2) scSetOf.nd rfl (.inl rfl) pe_int ip_add))))
      (pss_one (ps_ret (pv 1))))), ?_⟩
    refine ⟨Nat.zero_le _, fun L hL => ?_⟩
    refine ⟨fun m σ H' => ∃ i : Nat, m = n - i ∧ i ≤ n ∧ σ = [some (.int (s : Nat)), some (.ref L), some (.int (i : Nat))] ∧ Same H H' ∧ H' L = some (.lst (vNat (SrCommon.maskMembers i s))), ⟨n, 0, by simp, Nat.zero_le _, rfl, same_new hL, upd_same⟩, ?_⟩
    rintro m σ H' ⟨i, rfl, hi, rfl, s1, hl⟩
    refine ⟨_, rfl, _, rfl, (s : Nat), i, rfl, rfl, _, _, rfl, rfl, _, rfl, ?_⟩
    rw [shr_nat]
    by_cases h0 : s / 2 ^ i = 0
    · rw [h0]
      refine iteF ⟨_, rfl, q H' L s1 hL ?_⟩
      rw [mask_upto h0 hi]
      exact hl
    · have hin : i < n := by
        refine Decidable.byContradiction fun z => h0 ?_
        exact Nat.div_eq_of_lt (Nat.lt_of_lt_of_le hs (Nat.pow_le_pow_right (by decide) (by omega)))
      rw [decide_eq_true (show (0 : Int) < ((s / 2 ^ i : Nat) : Int) by generalize s / 2 ^ i = x at h0 ⊢; omega)]
      have hml : (SrCommon.maskMembers i s).length ≤ i := by
        unfold SrCommon.maskMembers
        exact Nat.le_trans (List.length_filter_le _ _) (by rw [List.length_range]; exact Nat.le_refl _)
      refine iteT ⟨fun σ' H2 => σ' = [some (.int (s : Nat)), some (.ref L), some (.int ((i + 1 : Nat) : Int))] ∧ Same H H2 ∧ H2 L = some (.lst (vNat (SrCommon.maskMembers (i + 1) s))),
        fun σ' H2 ⟨h1, h2, h3⟩ => ⟨n - (i + 1), by omega, i + 1, rfl, by omega, h1, h2, h3⟩, ?_⟩
      refine ⟨_, rfl, _, rfl, (s : Nat), i, rfl, rfl, ?_⟩
      rw [shr_nat]
      refine ⟨s / 2 ^ i, rfl, rfl, rfl, _, rfl, ?_⟩
      by_cases hb : s / 2 ^ i % 2 = 1
      · rw [hb]
        refine iteT ⟨_, rfl, .inl ⟨rfl, _, SqL.of hl⟩, _, rfl, L, _, _, rfl, rfl, hl, by rw [vNat_len]; exact small1000 (by omega), ?_⟩
        refine ⟨_, rfl, _, _, rfl, rfl, rfl, fun y u e => ?_, ?_⟩
        · rw [upd_ne (ne_of_none e hL)]
          exact s1 _ _ e
        · rw [upd_same, mask_succ, if_pos hb, vNat_app]
          rfl
      · have hb0 : s / 2 ^ i % 2 = 0 := by omega
        rw [hb0]
        refine iteF ⟨_, rfl, _, _, rfl, rfl, rfl, s1, ?_⟩
        rw [mask_succ, if_neg (by omega), List.append_nil]
        exact hl
end
end Bk
namespace Bk
open PySem PySem.Spec PyProof.Rows L2
open PySem.W (Codec)
open Sr98 (Bakery)
/-! ### a PlanSearch in the heap -/
def gF (k : Addr) (v : V) (n : Nat) : List (Str × V) := [("baking", .ref k), ("best_order", v), ("bound", .int (n : Nat))]
theorem gF_bake (k : Addr) (v : V) (n : Nat) : (gF k v n).lookup ("baking" : Str) = some (.ref k) := lk_here
theorem gF_best (k : Addr) (v : V) (n : Nat) : (gF k v n).lookup ("best_order" : Str) = some v := (lk_past (by decide +kernel)).trans lk_here
theorem gF_bound (k : Addr) (v : V) (n : Nat) : (gF k v n).lookup ("bound" : Str) = some (.int (n : Nat)) := (lk_past (by decide +kernel)).trans ((lk_past (by decide +kernel)).trans lk_here)
theorem gF_no (k : Addr) (v : V) (n : Nat) {m : Str} (h1 : (m == ("baking" : Str)) = false) (h2 : (m == ("best_order" : Str)) = false) (h3 : (m == ("bound" : Str)) = false) : (gF k v n).lookup m = none :=
  (lk_past h1).trans ((lk_past h2).trans ((lk_past h3).trans rfl))
theorem gF_put1 (k : Addr) (v u : V) (n : Nat) : putF "best_order" u (gF k v n) = gF k u n := (put_past (by decide +kernel)).trans (congrArg _ put_here)
theorem gF_put2 (k : Addr) (v : V) (n m : Nat) : putF "bound" (.int (m : Nat)) (gF k v n) = gF k v m := (put_past (by decide +kernel)).trans (congrArg _ ((put_past (by decide +kernel)).trans (congrArg _ put_here)))
/-- the search at q stands so -/
def SearchAt (CP : Addr) (H : Hp) (q k : Addr) (st : BSt) : Prop := ∃ dx v, H q = some (.ins CP dx (gF k v st.2)) ∧ OptAt H v st.1
theorem SearchAt.same {CP : Addr} {H H' : Hp} {q k : Addr} {st : BSt} (S : SearchAt CP H q k st) (s : Same H H') : SearchAt CP H' q k st := by
  obtain ⟨dx, v, e, o⟩ := S
  exact ⟨dx, v, s _ _ e, o.same s⟩
structure TP (K : PySem.W.Frag) (mg : Str → Option Value) (CP : Addr) : Prop where
  cl : Cls K CP
  nK : NoAttr K CP "baking"
  nO : NoAttr K CP "best_order"
  nB : NoAttr K CP "bound"
theorem small6 {n : Nat} (h : n ≤ 8) : n ≤ sizeLine := Nat.le_trans h (by decide)
section
variable {P : Program} {w : World} {K : PySem.W.Frag} {mg : Str → Option Value} {base : Heap} {CB CP : Addr}
abbrev iSearch : Nat := 37
abbrev sPInit : Stmt := inClass (top iSearch) 0
abbrev sTry : Stmt := inClass (top iSearch) 1
abbrev sPlanO : Stmt := inClass (top iBake) 9
abbrev sLarge : Stmt := inClass (top iBake) 10
def spPInit (CB CP : Addr) : Sp := fun vs H Q _ => ∃ (p dx k wl : Addr) (was : List Addr) (b : Bakery), vs = [.ref p, .ref k] ∧ H p = some (.ins CP dx []) ∧ BakeAt CB H k wl was b ∧
  ∀ (H' : Hp), H' p = some (.ins CP dx (gF k .non (Sr98.hours b + 1))) → Keeps [p] H H' → Q .non H'
theorem scPInit : FnScope ["self", "baking"] ["self", "baking"] (defScope sPInit) := ⟨rfl, rfl, rfl, by decide +kernel, rfl, by decide +kernel, by decide +kernel⟩
theorem ok_pinit (T : TP K mg CP) (TBo : TB K mg CB) (F : ∃ f fd, Fun K "__init__" "PlanSearch.__init__" sPInit f fd ∧ Mk K CP f) (n : mg "PlanSearch" = some (.ref CP)) : KOk P w K mg base 1 CP "PlanSearch" ["self", "baking"] (spPInit CB CP) := by
  obtain ⟨f, fd, F, M⟩ := F
  refine ⟨⟨f, fd, F.ok scPInit (fun vs H Q E h => ?_) (fun cdv A outer s H vs Q E hr h => ?_), F.binds fun _ _ _ _ _ _ us hl => match us, hl with | [_, _], _ => rfl, M⟩, n⟩
  · obtain ⟨p, dx, k, wl, was, b, rfl, _⟩ := h
    rfl
  · obtain ⟨p, dx, k, wl, was, b, rfl, hp, B, q⟩ := h
    obtain ⟨dxb, hI⟩ := B.ins
    refine ⟨_, pss_cons (ps_fld (pv 0) (pv 1) rfl) (pss_cons (ps_fld (pv 0) pe_non rfl) (pss_one (ps_fld (pv 0) (pe_op op_add (pe_fld (pv 1) rfl) pe_int) rfl))), ?_⟩
    have npk : k ≠ p := fun z => by
      rw [z, hp] at hI
      have e1 := HO.ins.inj (Option.some.inj hI)
      exact absurd e1.2.2 (by
        show ¬ ([] : List (Str × V)) = _ :: _
        simp)
    refine ⟨_, rfl, _, rfl, p, CP, dx, _, rfl, hp, T.cl, T.nK, (by show 0 < 1000; decide), ?_⟩
    refine ⟨_, rfl, p, CP, dx, _, rfl, upd_same, T.cl, T.nO, (by show 1 < 1000; decide), ?_⟩
    rw [upd_upd]
    refine ⟨_, rfl, k, CB, dxb, _, _, rfl, by rw [upd_ne npk]; exact hI, TBo.cl, TBo.nH, bF_hours b wl, _, _, rfl, rfl, ?_⟩
    refine ⟨_, rfl, p, CP, dx, _, rfl, upd_same, T.cl, T.nB, (by show 2 < 1000; decide), ?_⟩
    rw [upd_upd]
    exact q _ upd_same (keeps_upd (by simp))
/-! ### try_orders -/
def spTry (CB CP : Addr) (n : Nat) : Sp := fun vs H Q _ => ∃ (q k wl ol rl : Addr) (was : List Addr) (b : Bakery) (st : BSt) (order rem : List Nat) (free : Nat), vs = [.ref q, .ref ol, .int (free : Nat), .ref rl] ∧ BakeAt CB H k wl was b ∧ SearchAt CP H q k st ∧
  H ol = some (.lst (vNat order)) ∧ H rl = some (.lst (vNat rem)) ∧ rem.Nodup ∧ (∀ i ∈ rem, i < b.doughs.length) ∧ rem.length < n ∧ order.length + rem.length ≤ 6 ∧
  ∀ H' : Hp, Keeps [q] H H' → SearchAt CP H' q k (tryO b n order free rem st) → Q .non H'
theorem scTry : FnScope ["self", "order", "free_from", "remaining", "baking_time", "i", "start", "others", "j"] ["self", "order", "free_from", "remaining"] (defScope sTry) := ⟨rfl, rfl, rfl, by decide +kernel, rfl, by decide +kernel, by decide +kernel⟩
/-- instances are no lists -/
theorem ins_ne_lst {H : Hp} {q a C dx : Addr} {fs : List (Str × V)} {xs : List V} (h : H q = some (.ins C dx fs)) (h2 : H a = some (.lst xs)) : a ≠ q := (ne_of h h2 (by intro z; cases z)).symm
theorem bake_ne {H : Hp} {q k dx dx' C C' : Addr} {b : Bakery} {wl k' : Addr} {v : V} {n : Nat} (h : H q = some (.ins C dx (gF k' v n))) (h2 : H k = some (.ins C' dx' (bF b wl))) : k ≠ q := fun z => by
  rw [z, h] at h2
  have e1 := HO.ins.inj (Option.some.inj h2)
  have e3 := congrArg (List.map Prod.fst) e1.2.2
  exact absurd e3 (by
    show ¬ (([("baking" : Str), ("best_order" : Str), ("bound" : Str)] : List Str) = [("windows" : Str), ("hours" : Str), ("baking_time" : Str)])
    decide +kernel)
theorem BakeAt.keepQ {H H' : Hp} {q k wl dx : Addr} {was : List Addr} {b : Bakery} {v : V} {n : Nat} {k' : Addr} (B : BakeAt CB H k wl was b) (hq : H q = some (.ins CP dx (gF k' v n))) (s : Keeps [q] H H') : BakeAt CB H' k wl was b := by
  obtain ⟨dxb, e⟩ := B.ins
  exact ⟨⟨dxb, s _ _ e (by simp [bake_ne hq e])⟩, s _ _ B.lst (by simp [ins_ne_lst hq B.lst]), B.len, fun j x hx => s _ _ (B.each j x hx) (by simp [ins_ne_lst hq (B.each j x hx)]), B.wf⟩
/-- one turn of the search -/
def turnO (b : Bakery) (n : Nat) (order : List Nat) (free : Nat) (rem : List Nat) (st : BSt) (i : Nat) : BSt := match estart b i free with
  | none => st
  | some s => tryO b n (order ++ [i]) (s + b.bakingTime) (rem.filter fun j => j != i) st
theorem tryO_stop {b : Bakery} {n : Nat} {order rem : List Nat} {free : Nat} {st : BSt} (h : st.2 ≤ free + rem.length * b.bakingTime) : tryO b (n + 1) order free rem st = st := by
  rw [tryO, if_pos h]
theorem tryO_found {b : Bakery} {n : Nat} {order : List Nat} {free : Nat} {st : BSt} (h : ¬ st.2 ≤ free + 0 * b.bakingTime) : tryO b (n + 1) order free [] st = (some order, free) := by
  rw [tryO]
  exact (if_neg h).trans (if_pos rfl)
theorem tryO_on {b : Bakery} {n : Nat} {order rem : List Nat} {free : Nat} {st : BSt} (h : ¬ st.2 ≤ free + rem.length * b.bakingTime) (hr : rem ≠ []) : tryO b (n + 1) order free rem st = rem.foldl (turnO b n order free rem) st := by
  rw [tryO]
  exact (if_neg h).trans (if_neg hr)
theorem ok_try (T : TP K mg CP) (TBo : TB K mg CB) (F : MFun K CP "try_orders" "PlanSearch.try_orders" sTry) (ES : MOk P w K mg base 2 CB "earliest_start" ["self", "i", "free_from"] (spEarl CB)) :
    ∀ n, MOk P w K mg base (3 + n) CP "try_orders" ["self", "order", "free_from", "remaining"] (spTry CB CP n)
  | 0 => by
    obtain ⟨f, fd, F, M⟩ := F.ex
    refine ⟨f, fd, F.ok scTry (fun vs H Q E h => ?_) (fun cdv A outer s H vs Q E hr h => ?_), F.binds fun _ _ _ _ _ _ us hl => match us, hl with | [_, _, _, _], _ => rfl, M⟩
    · obtain ⟨q, k, wl, ol, rl, was, b, st, order, rem, free, rfl, _⟩ := h
      rfl
    · obtain ⟨q, k, wl, ol, rl, was, b, st, order, rem, free, rfl, _, _, _, _, _, _, hl, _⟩ := h
      exact absurd hl (Nat.not_lt_zero _)
  | n + 1 => by
    have RE := ok_try T TBo F ES n
    obtain ⟨f, fd, F, M⟩ := F.ex
    refine ⟨f, fd, F.ok scTry (fun vs H Q E h => ?_) (fun cdv A outer s H vs Q E hr h => ?_), F.binds fun _ _ _ _ _ _ us hl => match us, hl with | [_, _, _, _], _ => rfl, M⟩
    · obtain ⟨q, k, wl, ol, rl, was, b, st, order, rem, free, rfl, _⟩ := h
      rfl
    · obtain ⟨q, k, wl, ol, rl, was, b, st, order, rem, free, rfl, B, S, ho, hrl, hnd, hlt, hln, h6, kk⟩ := h
      have hr2 : Room 2 _ := hr.mono (by show 2 ≤ 3 + n; omega)
      refine ⟨_, pss_cons (ps_set (i := 4) scTry.nd rfl (Or.inl rfl) (pe_fld (pe_fld (pv 0) rfl) rfl))
        (pss_cons (ps_if (pt_cmpR op_ge (pe_op op_add (pv 2) (pe_op op_mul (pe_callB call_len_seq (by rfl) TBo.len PySem.boot_len (pa_cons (pv 3) pa_nil)) (pv 4))) (pe_fld (pv 0) rfl) (nomark _)) (pss_one ps_retN) pss_nil)
        (pss_cons (ps_if (pt_cmpR op_eq (pe_callB call_len_seq (by rfl) TBo.len PySem.boot_len (pa_cons (pv 3) pa_nil)) pe_int (nomark _)) (pss_cons (ps_fld (pv 0) (pv 1) rfl) (pss_cons (ps_fld (pv 0) (pv 2) rfl) (pss_one ps_retN))) pss_nil)
        (pss_one (ps_for PassesOwn.never rfl (pi_list (pv 3)) (pg_name (i := 5) scTry.nd rfl (Or.inr rfl))
          (pss_cons (ps_set (i := 6) scTry.nd rfl (Or.inl rfl) (pe_m (pe_fld (pv 0) rfl) TBo.cl ES hr2 (pa_cons (pv 5) (pa_cons (pv 2) pa_nil))))
          (pss_one (ps_if (pt_cmpR op_notN (pv 6) pe_non (nomark _))
            (pss_cons (ps_setLc (i := 7) (own := [("j", 8)]) (g := gName 8) rfl scTry.nd rfl rfl (sw_true rfl rfl rfl (by decide +kernel)) (pi_list (pv 3))
              (blkOk_by (N := ["self", "order", "free_from", "remaining", "baking_time", "i", "start", "others", "j"]) (sc := defScope sTry) (by decide +kernel))
              (fun _ _ _ _ _ => pg_name (i := 8) scTry.nd rfl (Or.inl rfl)) (fun _ _ _ _ _ => pts_one (pt_cmpR op_ne (pv 8) (pv 5) (nomark _))) (fun _ _ _ _ _ => pv 8))
            (pss_one (ps_expr (pe_m (pv 0) T.cl RE hr (pa_cons (pe_op op_cat (pv 1) (pe_lst (pa_cons (pv 5) pa_nil))) (pa_cons (pe_op op_add (pv 6) (pv 4)) (pa_cons (pv 7) pa_nil))))))) pss_nil))))))), ?_⟩
      obtain ⟨dx, v, hq, hv⟩ := S
      obtain ⟨dxb, hI⟩ := B.ins
      refine ⟨_, rfl, q, CP, dx, _, _, rfl, hq, T.cl, T.nK, gF_bake k v st.2, k, CB, dxb, _, _, rfl, hI, TBo.cl, TBo.nB, bF_bake b wl, ?_⟩
      have hp9 := B.wf.p9
      refine ⟨_, rfl, _, rfl, rl, _, rfl, .inl (SqL.of hrl), _, rfl, _, _, rfl, rfl, .inr ⟨by omega, by omega⟩, _, _, rfl, rfl, _, rfl, q, CP, dx, _, _, rfl, hq, T.cl, T.nB, gF_bound k v st.2, _, _, rfl, rfl, _, rfl, ?_⟩
      rw [vNat_len]
      have em : ((free : Nat) : Int) + ((rem.length : Nat) : Int) * (b.bakingTime : Nat) = ((free + rem.length * b.bakingTime : Nat) : Int) := by
        rw [← Int.natCast_mul, ← Int.natCast_add]
      rw [em]
      by_cases hstop : st.2 ≤ free + rem.length * b.bakingTime
      · rw [decide_eq_true (Int.ofNat_le.mpr hstop)]
        refine iteT (kk H (Keeps.refl _ _) ?_)
        rw [tryO_stop hstop]
        exact ⟨dx, v, hq, hv⟩
      · rw [decide_eq_false (fun z => hstop (Int.ofNat_le.mp z))]
        refine iteF ⟨_, rfl, rl, _, rfl, .inl (SqL.of hrl), rfl, _, rfl, ?_⟩
        rw [vNat_len]
        by_cases hr0 : rem = []
        · subst hr0
          have nol : ol ≠ q := ins_ne_lst hq ho
          refine iteT ⟨_, rfl, _, rfl, q, CP, dx, _, rfl, hq, T.cl, T.nO, (by show 3 < 1000; decide), ?_⟩
          rw [gF_put1]
          refine ⟨_, rfl, _, rfl, q, CP, dx, _, rfl, upd_same, T.cl, T.nB, (by show 3 < 1000; decide), ?_⟩
          rw [gF_put2, upd_upd]
          refine kk _ (keeps_upd (by simp)) ?_
          rw [tryO_found (by simpa using hstop)]
          exact ⟨dx, .ref ol, upd_same, ol, rfl, by rw [upd_ne nol]; exact ho⟩
        · have hlen0 : 0 < rem.length := List.length_pos_iff.mpr hr0
          rw [decide_eq_false (fun z => by have z2 : ((rem.length : Nat) : Int) = 0 := V.int.inj z; omega)]
          rw [tryO_on hstop hr0] at kk
          refine iteF ⟨_, rfl, rl, rfl, ⟨_, SqL.of hrl⟩, for_list (K := K) (a := rl) (xs := vNat rem) (fun i σ H' => ∃ (v5 v6 v7 v8 : Option V), σ = [some (.ref q), some (.ref ol), some (.int (free : Nat)), some (.ref rl), some (.int (b.bakingTime : Nat)), v5, v6, v7, v8] ∧
            Keeps [q] H H' ∧ SearchAt CP H' q k ((rem.take i).foldl (turnO b n order free rem) st)) ⟨none, none, none, none, rfl, Keeps.refl _ _, ⟨dx, v, hq, hv⟩⟩ (fun i σ H' _ ⟨_, _, _, _, _, kp, _⟩ => SqL.of (kp _ _ hrl (by simp [ins_ne_lst hq hrl]))) ?_ ?_⟩
          · rintro i x σ H' hi ⟨v5, v6, v7, v8, rfl, kp, S'⟩
            obtain ⟨j, hj, rfl⟩ : ∃ j, rem[i]? = some j ∧ x = V.int (j : Nat) := by
              unfold vNat at hi
              rw [List.getElem?_map] at hi
              cases e : rem[i]? with
              | none =>
                rw [e] at hi
                cases hi
              | some j =>
                rw [e] at hi
                exact ⟨j, rfl, (Option.some.inj hi).symm⟩
            have hjm := List.mem_of_getElem? hj
            have B' := B.keepQ hq kp
            have hrl' := kp _ _ hrl (by simp [ins_ne_lst hq hrl])
            have ho' := kp _ _ ho (by simp [ins_ne_lst hq ho])
            have est : (rem.take (i + 1)).foldl (turnO b n order free rem) st = turnO b n order free rem ((rem.take i).foldl (turnO b n order free rem) st) j := by
              rw [take_snoc hj, List.foldl_append]
              rfl
            generalize (rem.take i).foldl (turnO b n order free rem) st = st' at S' est
            obtain ⟨dx', v', hq', hv'⟩ := id S'
            obtain ⟨dxb', hI'⟩ := B'.ins
            refine ⟨_, rfl, q, CP, dx', _, _, rfl, hq', T.cl, T.nK, gF_bake k v' st'.2, k, dxb', _, rfl, hI', bF_no b wl (by decide +kernel) (by decide +kernel) (by decide +kernel), _, rfl, _, rfl, k, wl, was, b, j, free, rfl, B', hlt j hjm, ?_⟩
            cases hs : estart b j free with
            | none =>
              refine ⟨_, rfl, rfl, _, rfl, iteF ⟨_, _, _, _, rfl, kp, ?_⟩⟩
              rw [est]
              unfold turnO
              rw [hs]
              exact S'
            | some s0 =>
              refine ⟨_, rfl, rfl, _, rfl, iteT ⟨_, rfl, rl, rfl, ⟨_, SqL.of hrl'⟩, fun L hL => ?_⟩⟩
              refine lc_filt (inj := fun (n : Nat) => V.int (n : Int)) rem (fun j' => j' != j) (fun (n : Nat) => V.int (n : Int)) (SqL.of hrl') hL (small1000 (by omega)) ?_ ?_
              · intro j' H3 Z Z' hm s3 z z'
                refine ⟨rfl, _, rfl, _, rfl, rfl, _, rfl, ?_⟩
                by_cases hjj : j' = j
                · subst hjj
                  rw [decide_eq_true rfl]
                  exact iteF (z' (by simp))
                · rw [decide_eq_false (fun e => hjj (by have e2 : ((j' : Nat) : Int) = (j : Nat) := V.int.inj e; omega))]
                  exact iteT ⟨_, rfl, z (by simp [hjj])⟩
              · intro H3 s3 hl3
                have S3 := S'.same s3
                have B3 := B'.same s3
                have ho3 := s3 _ _ ho'
                have hfl := filter_len (n := rem.length - 1) hnd hjm (by omega)
                refine ⟨_, rfl, q, dx', _, rfl, s3 _ _ hq', gF_no k v' st'.2 (by decide +kernel) (by decide +kernel) (by decide +kernel), _, rfl, _, rfl, (by show 1 ≤ sizeLine; decide), fun q2 hq2 => ?_⟩
                have n2 : ol ≠ q2 := ne_of_none ho3 hq2
                refine ⟨ol, q2, _, _, rfl, rfl, by rw [upd_ne n2]; exact ho3, upd_same, by rw [vNat_len]; exact small6 (by show order.length + 1 ≤ 8; omega), fun p3 hp3 => ?_⟩
                have s4 : Same H3 (upd (upd H3 q2 (.lst [.int (j : Nat)])) p3 (.lst (vNat order ++ [.int (j : Nat)]))) := (same_new hq2).trans (same_new hp3)
                have nL : L ≠ p3 := ne_of_none (same_new hq2 _ _ hl3) hp3
                refine ⟨_, rfl, _, rfl, _, _, rfl, rfl, _, rfl, q, k, wl, p3, L, was, b, st', order ++ [j], rem.filter (fun j' => j' != j), s0 + b.bakingTime, rfl, B3.same s4, S3.same s4, by rw [upd_same, vNat_app]; rfl, s4 _ _ hl3, hnd.filter _, fun i hi => hlt i (List.mem_filter.mp hi).1, by omega, by rw [List.length_append]; show order.length + 1 + _ ≤ 6; omega, fun H5 k5 S5 => ?_⟩
                refine ⟨_, _, _, _, rfl, fun y u e m => ?_, ?_⟩
                · exact k5 _ _ (s4 _ _ (s3 _ _ (kp _ _ e m))) m
                · rw [est]
                  unfold turnO
                  rw [hs]
                  exact S5
          · rintro σ H' ⟨v5, v6, v7, v8, rfl, kp, S'⟩
            rw [vNat_len, List.take_length] at S'
            exact kk H' kp S'
end
end Bk
namespace Bk
open PySem PySem.Spec PyProof.Rows L2
open PySem.W (Codec)
open Sr98 (Bakery)
section
variable {P : Program} {w : World} {K : PySem.W.Frag} {mg : Str → Option Value} {base : Heap} {CB CP : Addr}
/-- how much is left counts for nothing -/
theorem tryO_fuel (b : Bakery) : ∀ (n m : Nat) (order : List Nat) (free : Nat) (rem : List Nat) (st : BSt), rem.Nodup → rem.length < n → rem.length < m → tryO b n order free rem st = tryO b m order free rem st
  | 0, _, _, _, _, _, _, h, _ => absurd h (Nat.not_lt_zero _)
  | _, 0, _, _, _, _, _, _, h => absurd h (Nat.not_lt_zero _)
  | n + 1, m + 1, order, free, rem, st, hn, h1, h2 => by
    rw [tryO, tryO]
    by_cases hs : st.2 ≤ free + rem.length * b.bakingTime
    · rw [if_pos hs, if_pos hs]
    · rw [if_neg hs, if_neg hs]
      by_cases hr : rem = []
      · rw [if_pos hr, if_pos hr]
      · rw [if_neg hr, if_neg hr]
        have h0 : 0 < rem.length := List.length_pos_iff.mpr hr
        refine foldl_cong _ _ fun st i hi => ?_
        have hf := filter_len (n := rem.length - 1) hn hi (by omega)
        cases estart b i free with
        | none => rfl
        | some s => exact tryO_fuel b n m _ _ _ _ (hn.filter _) (by omega) (by omega)
/-! ### order_of_plan -/
def spPlanO (CB : Addr) : Sp := fun vs H Q _ => ∃ (k wl dl : Addr) (was : List Addr) (b : Bakery) (l : List Nat), vs = [.ref k, .ref dl] ∧ BakeAt CB H k wl was b ∧ H dl = some (.lst (vNat l)) ∧ l.Nodup ∧ (∀ i ∈ l, i < b.doughs.length) ∧ l.length ≤ 6 ∧
  ∀ (H' : Hp) (v : V), Same H H' → OptAt H' v (Sr98.plan b l) → Q v H'
theorem scPlanO : FnScope ["self", "doughs", "search"] ["self", "doughs"] (defScope sPlanO) := ⟨rfl, rfl, rfl, by decide +kernel, rfl, by decide +kernel, by decide +kernel⟩
theorem ok_planO (TPo : TP K mg CP) (TBo : TB K mg CB) (F : MFun K CB "order_of_plan" "Baking.order_of_plan" sPlanO) (PK : KOk P w K mg base 1 CP "PlanSearch" ["self", "baking"] (spPInit CB CP))
    (TR : MOk P w K mg base 10 CP "try_orders" ["self", "order", "free_from", "remaining"] (spTry CB CP 7)) : MOk P w K mg base 11 CB "order_of_plan" ["self", "doughs"] (spPlanO CB) := by
  obtain ⟨f, fd, F, M⟩ := F.ex
  refine ⟨f, fd, F.ok scPlanO (fun vs H Q E h => ?_) (fun cdv A outer s H vs Q E hr h => ?_), F.binds fun _ _ _ _ _ _ us hl => match us, hl with | [_, _], _ => rfl, M⟩
  · obtain ⟨k, wl, dl, was, b, l, rfl, _⟩ := h
    rfl
  · obtain ⟨k, wl, dl, was, b, l, rfl, B, hdl, hnd, hlt, h6, kk⟩ := h
    have hr2 : Room 2 _ := hr.mono (by decide)
    refine ⟨_, pss_cons (ps_set (i := 2) scPlanO.nd rfl (Or.inl rfl) (pe_k PK hr2 rfl (pa_cons (pv 0) pa_nil)))
      (pss_cons (ps_expr (pe_m (pv 2) TPo.cl TR hr (pa_cons (pe_lst pa_nil) (pa_cons pe_int (pa_cons (pv 1) pa_nil)))))
      (pss_one (ps_ret (pe_fld (pv 2) rfl)))), ?_⟩
    refine ⟨_, rfl, fun x dx nx nd ne => ?_⟩
    have s0 : Same H (upd (upd H dx (.own x)) x (.ins CP dx [])) := (same_new nd).trans (same_new (by rw [upd_ne (fun z => ne z.symm)]; exact nx))
    refine ⟨x, dx, k, wl, was, b, rfl, upd_same, B.same s0, fun H1 hx1 k1 => ⟨rfl, ?_⟩⟩
    have s1 : Same H H1 := Same.made nx nd fun q o e h => k1 q o e (by simp [h])
    refine ⟨_, rfl, x, dx, _, rfl, hx1, gF_no _ _ _ (by decide +kernel) (by decide +kernel) (by decide +kernel), Nat.zero_le _, fun ol hol => ?_⟩
    have s2 : Same H1 (upd H1 ol (.lst [])) := same_new hol
    refine ⟨_, rfl, x, k, wl, ol, dl, was, b, (none, Sr98.hours b + 1), [], l, 0, rfl, (B.same s1).same s2, ⟨dx, .non, s2 _ _ hx1, rfl⟩, upd_same, s2 _ _ (s1 _ _ hdl), hnd, hlt, by omega, by simpa using h6, fun H3 k3 S3 => ?_⟩
    obtain ⟨dx3, v3, hx3, hv3⟩ := S3
    refine ⟨_, rfl, x, CP, dx3, _, _, rfl, hx3, TPo.cl, TPo.nO, gF_best _ _ _, ?_⟩
    refine kk H3 v3 (fun y u e => ?_) ?_
    · have nyx : y ≠ x := fun z => by
        rw [z, nx] at e
        cases e
      exact k3 _ _ (s2 _ _ (s1 _ _ e)) (by simp [nyx])
    · rw [plan_is b l hnd]
      have e : tryO b 7 [] 0 l (none, Sr98.hours b + 1) = tryO b (l.length + 1) [] 0 l (none, Sr98.hours b + 1) := tryO_fuel b 7 _ [] 0 l _ hnd (by omega) (by omega)
      rw [← e]
      exact hv3
/-! ### largest_set_with_a_plan -/
def spLarge (CB : Addr) : Sp := fun vs H Q _ => ∃ (k wl : Addr) (was : List Addr) (b : Bakery), vs = [.ref k] ∧ BakeAt CB H k wl was b ∧ ∀ (H' : Hp) (l : Addr), Same H H' → H' l = some (.lst (vNat (Sr98.largestSet b))) → Q (.ref l) H'
theorem scLarge : FnScope ["self", "found", "set_number", "doughs"] ["self"] (defScope sLarge) := ⟨rfl, rfl, rfl, by decide +kernel, rfl, by decide +kernel, by decide +kernel⟩
theorem mask_len {n s : Nat} : (SrCommon.maskMembers n s).length ≤ n := by
  unfold SrCommon.maskMembers
  exact Nat.le_trans (List.length_filter_le _ _) (by rw [List.length_range]; exact Nat.le_refl _)
theorem ok_large (T : TB K mg CB) (F : MFun K CB "largest_set_with_a_plan" "Baking.largest_set_with_a_plan" sLarge) (NS : GOk P w K mg base 1 "number_of_sets" ["count"] spNum) (DS : GOk P w K mg base 1 "doughs_of_set" ["set_number"] spSetOf)
    (PO : MOk P w K mg base 11 CB "order_of_plan" ["self", "doughs"] (spPlanO CB)) : MOk P w K mg base 12 CB "largest_set_with_a_plan" ["self"] (spLarge CB) := by
  obtain ⟨f, fd, F, M⟩ := F.ex
  refine ⟨f, fd, F.ok scLarge (fun vs H Q E h => ?_) (fun cdv A outer s H vs Q E hr h => ?_), F.binds fun _ _ _ _ _ _ us hl => match us, hl with | [_], _ => rfl, M⟩
  · obtain ⟨k, wl, was, b, rfl, _⟩ := h
    rfl
  · obtain ⟨k, wl, was, b, rfl, B, kk⟩ := h
    have hr1 : Room 1 _ := hr.mono (by decide)
    obtain ⟨dx, hI⟩ := B.ins
    have h6 := B.wf.six
    refine ⟨_, pss_cons (ps_set (i := 1) scLarge.nd rfl (Or.inl rfl) (pe_lst pa_nil))
      (pss_cons (ps_for PassesOwn.never rfl (pi_range1 (by rfl) T.range (pa_cons (pe_g NS hr1 rfl (pa_cons (pe_callB call_len_seq (by rfl) T.len PySem.boot_len (pa_cons (pe_fld (pv 0) rfl) pa_nil)) pa_nil)) pa_nil)) (pg_name (i := 2) scLarge.nd rfl (Or.inl rfl))
        (pss_cons (ps_set (i := 3) scLarge.nd rfl (Or.inl rfl) (pe_g DS hr1 rfl (pa_cons (pv 2) pa_nil)))
        (pss_one (ps_if (PW.pt (pw_and (pt_cmpR op_gt (pe_callB call_len_seq (by rfl) T.len PySem.boot_len (pa_cons (pv 3) pa_nil)) (pe_callB call_len_seq (by rfl) T.len PySem.boot_len (pa_cons (pv 1) pa_nil)) (nomark _))
          (pw_and1 (pt_cmpR op_notN (pe_m (pv 0) T.cl PO hr (pa_cons (pv 3) pa_nil)) pe_non (nomark _))))) (pss_one (ps_set (i := 1) scLarge.nd rfl (Or.inl rfl) (pv 3))) pss_nil))))
      (pss_one (ps_ret (pv 1)))), ?_⟩
    refine ⟨Nat.zero_le _, fun L hL => ?_⟩
    have s0 : Same H (upd H L (.lst [])) := same_new hL
    refine ⟨_, rfl, k, CB, dx, _, _, rfl, s0 _ _ hI, T.cl, T.nW, bF_win b wl, wl, _, rfl, .inl (SqL.of (s0 _ _ B.lst)), ?_⟩
    rw [List.length_map, B.len]
    have hpow : 2 ^ b.doughs.length ≤ 64 := Nat.le_trans (Nat.pow_le_pow_right (by decide) h6) (by decide)
    refine ⟨b.doughs.length, rfl, h6, ((2 ^ b.doughs.length : Nat) : Int), rfl, Int.le_trans (by decide) (Int.natCast_nonneg _), Int.lt_of_le_of_lt (Int.ofNat_le.mpr hpow) (by decide), ?_⟩
    rw [Int.toNat_natCast]
    refine for_range (lo := 0) (n := 2 ^ b.doughs.length) (fun i σ H' => ∃ (fl : Addr) (v2 v3 : Option V), σ = [some (.ref k), some (.ref fl), v2, v3] ∧ Same H H' ∧ H' fl = some (.lst (vNat (bestSet b i)))) ⟨L, none, none, rfl, s0, upd_same⟩ ?_ ?_
    · rintro i σ H' hi ⟨fl, v2, v3, rfl, s1, hfl⟩
      rw [Int.zero_add]
      have B1 := B.same s1
      refine ⟨_, rfl, b.doughs.length, i, rfl, h6, hi, fun H2 dl s2 hdn hdl => ?_⟩
      have hfl2 := s2 _ _ hfl
      have B2 := B1.same s2
      have ebs := bestSet_succ b i
      refine ⟨_, rfl, dl, _, rfl, .inl (SqL.of hdl), _, rfl, fl, _, rfl, .inl (SqL.of hfl2), _, _, rfl, rfl, _, rfl, ?_⟩
      rw [vNat_len, vNat_len]
      by_cases hgt : (bestSet b i).length < (SrCommon.maskMembers b.doughs.length i).length
      · rw [decide_eq_true (Int.ofNat_lt.mpr hgt)]
        obtain ⟨dx2, hI2⟩ := B2.ins
        refine iteT ⟨_, rfl, k, dx2, _, rfl, hI2, bF_no b wl (by decide +kernel) (by decide +kernel) (by decide +kernel), _, rfl, k, wl, dl, was, b, _, rfl, B2, hdl, mask_nodup _ _, fun x hx => mask_lt hx, Nat.le_trans mask_len h6, fun H3 v s3 ho => ?_⟩
        refine ⟨rfl, _, rfl, ?_⟩
        cases hp : Sr98.plan b (SrCommon.maskMembers b.doughs.length i) with
        | none =>
          rw [hp] at ho
          cases ho
          refine iteF ⟨fl, _, _, rfl, (s1.trans s2).trans s3, ?_⟩
          rw [ebs, if_neg (by rw [hp]; simp)]
          exact s3 _ _ hfl2
        | some o =>
          rw [hp] at ho
          obtain ⟨ol, rfl, _⟩ := ho
          refine iteT ⟨_, rfl, dl, _, _, rfl, (s1.trans s2).trans s3, ?_⟩
          rw [ebs, if_pos ⟨hgt, by rw [hp]; rfl⟩]
          exact s3 _ _ hdl
      · rw [decide_eq_false (fun z => hgt (Int.ofNat_lt.mp z))]
        refine iteF ⟨fl, _, _, rfl, s1.trans s2, ?_⟩
        rw [ebs, if_neg (fun z => hgt z.1)]
        exact hfl2
    · rintro σ H' ⟨fl, v2, v3, rfl, s1, hfl⟩
      exact ⟨_, rfl, kk H' fl s1 hfl⟩
end
end Bk
namespace Bk
open PySem PySem.Spec PyProof.Rows L2
open PySem.W (Codec)
open Sr98 (Bakery)
/-- behind a call that only asks: the answer as a new list, all else as it was -/
def DoneS (H : Hp) (b : Bakery) (c : Sr98.Call) (Q : VK) : Prop := ∀ (H' : Hp) (p : Addr), Same H H' → H' p = some (.lst (vInt (ans b c))) → H p = none → Q (.ref p) H'
theorem DoneS.put {H H1 : Hp} {b : Bakery} {c : Sr98.Call} {Q : VK} {p : Addr} {ns : List Int} (D : DoneS H b c Q) (k : Same H H1) (hp : H1 p = none) (e : ans b c = ns) : Q (.ref p) (upd H1 p (.lst (vInt ns))) := by
  subst e
  exact D _ p (k.trans (same_new hp)) upd_same (Same.free k hp)
theorem DoneS.quit {H H1 : Hp} {b : Bakery} {c : Sr98.Call} {Q : VK} {p : Addr} {ns : List Int} {r : SrCommon.Result} (D : DoneS H b c Q) (k : Same H H1) (hp : H1 p = none) (e : Sr98.perform b c = (none, r)) (er : r.code :: r.values = ns) : Q (.ref p) (upd H1 p (.lst (vInt ns))) :=
  D.put k hp (by
    unfold ans
    rw [e]
    exact er)
theorem vInt_app (l r : List Int) : vInt (l ++ r) = vInt l ++ vInt r := by simp [vInt]
section
variable {P : Program} {w : World} {K : PySem.W.Frag} {mg : Str → Option Value} {base : Heap} {CS CD CB : Addr}
/-! ### window -/
def spWin (CS CD : Addr) : Sp := fun vs H Q _ => ∃ (s t l : Addr) (as : List (Addr × Addr)) (b : Bakery) (x : Int), vs = [.ref s, .int x] ∧ SchedAt CS CD H s t l as b ∧ DoneS H b (.window x) Q
theorem scWin : FnScope ["self", "i", "times"] ["self", "i"] (defScope sWin) := ⟨rfl, rfl, rfl, by decide +kernel, rfl, by decide +kernel, by decide +kernel⟩
theorem ok_win (T : TS' K mg CS) (TDo : TD K mg CD) (hlen : mg "len" = none) (F : MFun K CS "window" "Schedule.window" sWin) (HD : MOk P w K mg base 1 CS "has_dough" ["self", "i"] (spHasD K CS))
    (TW : MOk P w K mg base 3 CD "times_of_window" ["self", "temperatures"] (spTimes CD)) : MOk P w K mg base 4 CS "window" ["self", "i"] (spWin CS CD) := by
  obtain ⟨f, fd, F, M⟩ := F.ex
  refine ⟨f, fd, F.ok scWin (fun vs H Q E h => ?_) (fun cdv A outer s H vs Q E hr h => ?_), F.binds fun _ _ _ _ _ _ us hl => match us, hl with | [_, _], _ => rfl, M⟩
  · obtain ⟨s, t, l, as, b, x, rfl, _⟩ := h
    rfl
  · obtain ⟨s, t, l, as, b, x, rfl, S, D⟩ := h
    obtain ⟨dx, hI⟩ := S.ins
    have hr1 : Room 1 _ := hr.mono (by decide)
    refine ⟨_, pss_cons (ps_if (pt_not (pt_val (pe_m (pv 0) T.cl HD hr1 (pa_cons (pv 1) pa_nil)))) (pss_one (ps_ret (pe_lst (pa_cons (pe_const T.miss) pa_nil)))) pss_nil)
      (pss_cons (ps_set (i := 2) scWin.nd rfl (Or.inl rfl) (pe_m (pe_ix ix_list (pe_fld (pv 0) rfl) (pv 1) (fun _ _ => rfl)) TDo.cl TW hr (pa_cons (pe_fld (pv 0) rfl) pa_nil)))
      (pss_cons (ps_if (pt_cmpR op_eq (pe_callB call_len_seq (by rfl) hlen PySem.boot_len (pa_cons (pv 2) pa_nil)) pe_int (nomark _)) (pss_one (ps_ret (pe_lst (pa_cons (pe_const T.nowin) pa_nil)))) pss_nil)
      (pss_one (ps_ret (pv 2))))), ?_⟩
    refine ⟨_, rfl, s, dx, _, rfl, hI, sF_no b t l (by decide +kernel) (by decide +kernel) (by decide +kernel) (by decide +kernel), _, rfl, s, dx, t, l, _, b, x, rfl, hI, S.lst, by rw [List.length_map, S.len], _, rfl, ?_⟩
    cases hx : Sr98.isDough b x with
    | false =>
      have ep : Sr98.perform b (.window x) = (none, SrCommon.Result.ofCode SrCommon.notFound) := congrArg (Prod.mk none) (if_pos hx)
      exact iteT ⟨(by show 1 ≤ sizeLine; decide), fun p hp => D.quit (ns := [-2]) (Same.refl H) hp ep rfl⟩
    | true =>
      have hxn : ¬ Sr98.isDough b x = false := by rw [hx]; simp
      obtain ⟨j, rfl, hj⟩ := isIndex_nat hx
      obtain ⟨p, d, hp, hd, hpm, ed, DD⟩ := S.dough hj
      obtain ⟨dx0, hI0⟩ := DD.ins
      have ep : Sr98.perform b (.window (j : Int)) = (none, match Sr98.window b d with
          | none => SrCommon.Result.ofCode SrCommon.noSolution
          | some w => ⟨(w.1 : Int), [(w.2 : Int)]⟩) := by
        refine congrArg (Prod.mk none) ((if_neg hxn).trans ?_)
        simp only [Int.toNat_natCast, ed]
        rfl
      refine iteF ⟨_, rfl, s, CS, dx, _, _, rfl, hI, T.cl, T.nD, sF_doughs b t l, _, rfl, l, _, _, _, rfl, rfl, SqL.of S.lst, at_of (j := j) (v := V.ref p.1) rfl (by rw [List.getElem?_map, hp]; rfl), ?_⟩
      refine ⟨p.1, dx0, _, rfl, hI0, dF_no d p.2 (by decide +kernel) (by decide +kernel) (by decide +kernel) (by decide +kernel), _, rfl, s, CS, dx, _, _, rfl, hI, T.cl, T.nT, sF_temp b t l,
        p.1, p.2, t, b, d, rfl, DD, S.tmp, S.wf.h36, fun H1 q s1 hq hl => ?_⟩
      cases hw : Sr98.window b d with
      | none =>
        have hl' : H1 q = some (.lst []) := by
          rw [hl]
          unfold winV
          rw [hw]
        rw [hw] at ep
        refine ⟨_, rfl, q, _, rfl, .inl (SqL.of hl'), rfl, _, rfl, iteT ⟨(by show 1 ≤ sizeLine; decide), fun p3 hp3 => D.quit (ns := [-33]) s1 hp3 ep rfl⟩⟩
      | some ww =>
        have hl' : H1 q = some (.lst [.int (ww.1 : Nat), .int (ww.2 : Nat)]) := by
          rw [hl]
          unfold winV
          rw [hw]
        rw [hw] at ep
        refine ⟨_, rfl, q, _, rfl, .inl (SqL.of hl'), rfl, _, rfl, iteF ⟨_, rfl, ?_⟩⟩
        refine D H1 q s1 ?_ hq
        rw [hl']
        unfold ans
        rw [ep]
        rfl
/-! ### risen -/
abbrev sRisenS : Stmt := inClass (top iSched) 12
def spRisenS (CS CD : Addr) : Sp := fun vs H Q _ => ∃ (s t l : Addr) (as : List (Addr × Addr)) (b : Bakery) (x y : Int), vs = [.ref s, .int x, .int y] ∧ SchedAt CS CD H s t l as b ∧ DoneS H b (.risen x y) Q
theorem scRisenS : FnScope ["self", "i", "t"] ["self", "i", "t"] (defScope sRisenS) := ⟨rfl, rfl, rfl, by decide +kernel, rfl, by decide +kernel, by decide +kernel⟩
theorem ok_risenS (T : TS' K mg CS) (TDo : TD K mg CD) (F : MFun K CS "risen" "Schedule.risen" sRisenS) (HD : MOk P w K mg base 1 CS "has_dough" ["self", "i"] (spHasD K CS))
    (RB : MOk P w K mg base 1 CD "risen_by" ["self", "t", "temperatures"] (spRisen CD)) : MOk P w K mg base 2 CS "risen" ["self", "i", "t"] (spRisenS CS CD) := by
  obtain ⟨f, fd, F, M⟩ := F.ex
  refine ⟨f, fd, F.ok scRisenS (fun vs H Q E h => ?_) (fun cdv A outer s H vs Q E hr h => ?_), F.binds fun _ _ _ _ _ _ us hl => match us, hl with | [_, _, _], _ => rfl, M⟩
  · obtain ⟨s, t, l, as, b, x, y, rfl, _⟩ := h
    rfl
  · obtain ⟨s, t, l, as, b, x, y, rfl, S, D⟩ := h
    obtain ⟨dx, hI⟩ := S.ins
    refine ⟨_, pss_cons (ps_if (pt_not (pt_val (pe_m (pv 0) T.cl HD hr (pa_cons (pv 1) pa_nil)))) (pss_one (ps_ret (pe_lst (pa_cons (pe_const T.miss) pa_nil)))) pss_nil)
      (pss_cons (ps_if (pt_not (pt_chain op_le op_le pe_int (pv 2) (pe_fld (pv 0) rfl))) (pss_one (ps_ret (pe_lst (pa_cons (pe_const T.oor) pa_nil)))) pss_nil)
      (pss_one (ps_ret (pe_lst (pa_cons (pe_m (pe_ix ix_list (pe_fld (pv 0) rfl) (pv 1) (fun _ _ => rfl)) TDo.cl RB hr (pa_cons (pv 2) (pa_cons (pe_fld (pv 0) rfl) pa_nil))) pa_nil))))), ?_⟩
    refine ⟨_, rfl, s, dx, _, rfl, hI, sF_no b t l (by decide +kernel) (by decide +kernel) (by decide +kernel) (by decide +kernel), _, rfl, s, dx, t, l, _, b, x, rfl, hI, S.lst, by rw [List.length_map, S.len], _, rfl, ?_⟩
    cases hx : Sr98.isDough b x with
    | false =>
      have ep : Sr98.perform b (.risen x y) = (none, SrCommon.Result.ofCode SrCommon.notFound) := congrArg (Prod.mk none) (if_pos hx)
      exact iteT ⟨(by show 1 ≤ sizeLine; decide), fun p hp => D.quit (ns := [-2]) (Same.refl H) hp ep rfl⟩
    | true =>
      have hxn : ¬ Sr98.isDough b x = false := by rw [hx]; simp
      obtain ⟨j, rfl, hj⟩ := isIndex_nat hx
      obtain ⟨p, d, hp, hd, hpm, ed, DD⟩ := S.dough hj
      obtain ⟨dx0, hI0⟩ := DD.ins
      have quit : (y < 0 ∨ (Sr98.hours b : Int) < y) → 1 ≤ sizeLine ∧ ∀ p, H p = none → Q (.ref p) (upd H p (.lst [.int (-22)])) := fun h =>
        ⟨by decide, fun p hp => D.quit (ns := [-22]) (Same.refl H) hp (congrArg (Prod.mk none) ((if_neg hxn).trans (if_pos h))) rfl⟩
      refine iteF ⟨_, rfl, _, _, rfl, rfl, _, rfl, ?_⟩
      by_cases h1 : (0 : Int) ≤ y
      · rw [decide_eq_true h1]
        refine iteT ⟨_, rfl, s, CS, dx, _, _, rfl, hI, T.cl, T.nH, sF_hours b t l, _, _, rfl, rfl, _, rfl, ?_⟩
        by_cases h2 : y ≤ (Sr98.hours b : Nat)
        · rw [decide_eq_true h2]
          obtain ⟨n, rfl⟩ : ∃ n : Nat, y = (n : Int) := ⟨y.toNat, by omega⟩
          refine iteF ⟨_, rfl, s, CS, dx, _, _, rfl, hI, T.cl, T.nD, sF_doughs b t l, _, rfl, l, _, _, _, rfl, rfl, SqL.of S.lst, at_of (j := j) (v := V.ref p.1) rfl (by rw [List.getElem?_map, hp]; rfl), ?_⟩
          refine ⟨p.1, dx0, _, rfl, hI0, dF_no d p.2 (by decide +kernel) (by decide +kernel) (by decide +kernel) (by decide +kernel), _, rfl, _, rfl, s, CS, dx, _, _, rfl, hI, T.cl, T.nT, sF_temp b t l,
            p.1, p.2, t, b, d, n, rfl, DD, S.tmp, by omega, S.wf.h36, (by show 1 ≤ sizeLine; decide), fun q hq => ?_⟩
          refine D.quit (ns := [((Sr98.risen b d n : Nat) : Int)]) (Same.refl H) hq (congrArg (Prod.mk none) ((if_neg hxn).trans (if_neg (by omega)))) ?_
          simp only [Int.toNat_natCast, ed]
          rfl
        · rw [decide_eq_false h2]
          exact iteT (quit (by omega))
      · rw [decide_eq_false h1]
        exact iteF ⟨_, rfl, iteT (quit (by omega))⟩
end
end Bk
namespace Bk
open PySem PySem.Spec PyProof.Rows L2
open PySem.W (Codec)
open Sr98 (Bakery)
/-- a list of doughs in the heap, the doughs of b' -/
structure ListAt (CD : Addr) (H : Hp) (dl : Addr) (ds : List (Addr × Addr)) (b : Bakery) : Prop where
  lst : H dl = some (.lst (ds.map fun p => V.ref p.1))
  len : ds.length = b.doughs.length
  each : ∀ (j : Nat) (p : Addr × Addr) (d : Dg), ds[j]? = some p → b.doughs[j]? = some d → DoughAt CD H (Sr98.hours b) p.1 p.2 d
theorem ListAt.same {CD : Addr} {H H' : Hp} {dl : Addr} {ds : List (Addr × Addr)} {b : Bakery} (L : ListAt CD H dl ds b) (s : Same H H') : ListAt CD H' dl ds b :=
  ⟨s _ _ L.lst, L.len, fun j p d hp hd => (L.each j p d hp hd).keep (keeps_of_same s []) (by simp) (by simp)⟩
theorem SchedAt.listAt {CS CD : Addr} {H : Hp} {s t l : Addr} {as : List (Addr × Addr)} {b : Bakery} (S : SchedAt CS CD H s t l as b) : ListAt CD H l as b := ⟨S.lst, S.len, S.each⟩
section
variable {P : Program} {w : World} {K : PySem.W.Frag} {mg : Str → Option Value} {base : Heap} {CS CD CB : Addr}
/-! ### baking_of -/
abbrev sBakeOf : Stmt := inClass (top iSched) 13
def spBakeOf (CS CD CB : Addr) : Sp := fun vs H Q _ => ∃ (s t l dl dx : Addr) (ds : List (Addr × Addr)) (b b' : Bakery), vs = [.ref s, .ref dl] ∧ H s = some (.ins CS dx (sF b t l)) ∧ H t = some (.lst (vNat b.temperatures)) ∧ ListAt CD H dl ds b' ∧
  b'.temperatures = b.temperatures ∧ b'.bakingTime = b.bakingTime ∧ Wf b' ∧ ∀ (H' : Hp) (k wl : Addr) (was : List Addr), Same H H' → BakeAt CB H' k wl was b' → Q (.ref k) H'
theorem scBakeOf : FnScope ["self", "doughs", "windows", "dough"] ["self", "doughs"] (defScope sBakeOf) := ⟨rfl, rfl, rfl, by decide +kernel, rfl, by decide +kernel, by decide +kernel⟩
theorem ok_bakeOf (T : TS' K mg CS) (TDo : TD K mg CD) (F : MFun K CS "baking_of" "Schedule.baking_of" sBakeOf) (TW : MOk P w K mg base 3 CD "times_of_window" ["self", "temperatures"] (spTimes CD))
    (BK : KOk P w K mg base 1 CB "Baking" ["self", "windows", "hours", "baking_time"] (spBInit CB)) : MOk P w K mg base 4 CS "baking_of" ["self", "doughs"] (spBakeOf CS CD CB) := by
  obtain ⟨f, fd, F, M⟩ := F.ex
  refine ⟨f, fd, F.ok scBakeOf (fun vs H Q E h => ?_) (fun cdv A outer s H vs Q E hr h => ?_), F.binds fun _ _ _ _ _ _ us hl => match us, hl with | [_, _], _ => rfl, M⟩
  · obtain ⟨s, t, l, dl, dx, ds, b, b', rfl, _⟩ := h
    rfl
  · obtain ⟨s, t, l, dl, dx, ds, b, b', rfl, hI, hT, LL, et, ep, wf, q⟩ := h
    have hr2 : Room 2 _ := hr.mono (by decide)
    have eh : Sr98.hours b' = Sr98.hours b := by
      unfold Sr98.hours
      rw [et]
    refine ⟨_, pss_cons (ps_setLc (i := 2) (own := [("dough", 3)]) (g := gName 3) rfl scBakeOf.nd rfl rfl (sw_true rfl rfl rfl (by decide +kernel)) (pi_list (pv 1))
        (blkOk_by (N := ["self", "doughs", "windows", "dough"]) (sc := defScope sBakeOf) (by decide +kernel))
        (fun _ _ _ _ _ => pg_name (i := 3) scBakeOf.nd rfl (Or.inl rfl)) (fun _ _ _ _ _ => pts_nil) (fun _ _ _ _ _ => pe_m (pv 3) TDo.cl TW hr (pa_cons (fldK K (pv 0) rfl) pa_nil)))
      (pss_one (ps_ret (pe_k BK hr2 rfl (pa_cons (pv 2) (pa_cons (pe_fld (pv 0) rfl) (pa_cons (pe_fld (pv 0) rfl) pa_nil)))))), ?_⟩
    refine ⟨_, rfl, dl, rfl, ⟨_, SqL.of LL.lst⟩, fun L hL => ?_⟩
    refine lc_list (K := K) (a := dl) (xs := ds.map fun p => V.ref p.1) (fun i H' => ∃ was : List Addr, was.length = i ∧ H' L = some (.lst (was.map V.ref)) ∧ Same H H' ∧ ∀ (j : Nat) (x : Addr), was[j]? = some x → x ≠ L ∧ H' x = some (.lst (winI b' j)))
      ⟨[], rfl, upd_same, same_new hL, fun j x h => by simp at h⟩ (fun i H' _ ⟨_, _, _, s1, _⟩ => SqL.of (s1 _ _ LL.lst)) ?_ ?_
    · rintro i x H' hi ⟨was, hlen, hw, s1, hx⟩
      obtain ⟨p, hp, rfl⟩ : ∃ p, ds[i]? = some p ∧ x = V.ref p.1 := by
        rw [List.getElem?_map] at hi
        cases e : ds[i]? with
        | none =>
          rw [e] at hi
          cases hi
        | some p =>
          rw [e] at hi
          exact ⟨p, rfl, (Option.some.inj hi).symm⟩
      have hil := (List.getElem?_eq_some_iff.mp hp).1
      have hil2 : i < b'.doughs.length := by rw [← LL.len]; exact hil
      have h6 := wf.six
      have hd : b'.doughs[i]? = some b'.doughs[i] := List.getElem?_eq_getElem hil2
      have DD := (LL.each i p _ hp hd).keep (keeps_of_same s1 []) (by simp) (by simp)
      have edo : Sr98.doughAt b' i = b'.doughs[i] := by
        unfold Sr98.doughAt
        rw [List.getD_eq_getElem?_getD, hd]
        rfl
      obtain ⟨dx0, hI0⟩ := DD.ins
      refine ⟨rfl, ?_⟩
      unfold tYes
      refine iteT ⟨_, rfl, p.1, dx0, _, rfl, hI0, dF_no _ p.2 (by decide +kernel) (by decide +kernel) (by decide +kernel) (by decide +kernel), _, rfl, s, CS, dx, _, _, rfl, s1 _ _ hI, T.cl, T.nT, sF_temp b t l,
        p.1, p.2, t, b', b'.doughs[i], rfl, DD, by rw [et]; exact s1 _ _ hT, wf.h36, fun H2 r s2 hr0 hl => ?_⟩
      have hrL : r ≠ L := (ne_of_none hw hr0).symm
      refine ⟨_, s2 _ _ hw, by rw [List.length_map, hlen]; exact small1000 (by omega), was ++ [r], by rw [List.length_append, hlen]; rfl, ?_, fun y u e => ?_, fun j y hy => ?_⟩
      · rw [upd_same, List.map_append]
        rfl
      · rw [upd_ne (ne_of_none e hL)]
        exact s2 _ _ (s1 _ _ e)
      · by_cases hj : j < was.length
        · rw [List.getElem?_append_left hj] at hy
          obtain ⟨n1, e1⟩ := hx j y hy
          refine ⟨n1, ?_⟩
          rw [upd_ne n1]
          exact s2 _ _ e1
        · rw [List.getElem?_append_right (by omega)] at hy
          have ej : j - was.length = 0 := by
            have := (List.getElem?_eq_some_iff.mp hy).1
            simp at this
            omega
          rw [ej] at hy
          cases hy
          refine ⟨hrL, ?_⟩
          rw [upd_ne hrL, hl, show j = i by omega, winI, edo]
    · rintro H' ⟨was, hlen, hw, s1, hx⟩
      rw [List.length_map] at hlen
      refine ⟨_, rfl, _, rfl, s, CS, dx, _, _, rfl, s1 _ _ hI, T.cl, T.nH, sF_hours b t l, _, rfl, s, CS, dx, _, _, rfl, s1 _ _ hI, T.cl, T.nB, sF_bake b t l, fun k dk nk nd ne => ?_⟩
      refine ⟨k, dk, L, Sr98.hours b, b.bakingTime, rfl, upd_same, fun H1 hk1 k1 => ⟨rfl, ?_⟩⟩
      have s2 : Same H' H1 := Same.made nk nd fun q o e h => k1 q o e (by simp [h])
      refine q H1 k L was (s1.trans s2) ⟨⟨dk, ?_⟩, s2 _ _ hw, by rw [hlen, LL.len], fun j x h => s2 _ _ (hx j x h).2, wf⟩
      rw [hk1]
      unfold bF
      rw [eh, ep]
/-! ### is_order -/
abbrev sIsO : Stmt := inClass (top iSched) 14
theorem met_succ (f : Nat → Int) (n : Nat) : PyProof.Rows.firstMet f (n + 1) = if (PyProof.Rows.firstMet f n).any (· == f n) then PyProof.Rows.firstMet f n else PyProof.Rows.firstMet f n ++ [f n] := by
  rw [PyProof.Rows.firstMet_succ]
  rfl
theorem met_full (f : Nat → Int) : ∀ n, (PyProof.Rows.firstMet f n).length = n → PyProof.Rows.firstMet f n = (List.range n).map f ∧ (PyProof.Rows.firstMet f n).Nodup
  | 0, _ => ⟨rfl, List.nodup_nil⟩
  | n + 1, h => by
    rw [met_succ] at h ⊢
    have hle := met_le f n
    by_cases ha : (PyProof.Rows.firstMet f n).any (· == f n) = true
    · rw [if_pos ha] at h
      omega
    · rw [if_neg ha] at h ⊢
      rw [List.length_append] at h
      obtain ⟨h1, h2⟩ := met_full f n (by simpa using h)
      refine ⟨by rw [List.range_succ, List.map_append, h1]; rfl, List.nodup_append.mpr ⟨h2, by simp, fun a ha' c hc => ?_⟩⟩
      rw [List.mem_singleton.mp hc]
      intro e
      exact ha (List.any_eq_true.mpr ⟨a, ha', by rw [e]; exact beq_self_eq_true _⟩)
theorem range_getD : ∀ ns : List Int, (List.range ns.length).map (fun i => ns.getD i 0) = ns
  | [] => rfl
  | x :: ns => by
    rw [List.length_cons, List.range_succ_eq_map, List.map_cons, List.map_map]
    congr 1
    exact range_getD ns
theorem met_lt {ns : List Int} : (met ns).length < ns.length ↔ ¬ ns.Nodup := by
  constructor
  · intro h hn
    have e : met ns = ns := by
      have := RZ.firstMet_nodup hn ns.length (Nat.le_refl _)
      rw [List.take_length] at this
      exact this
    rw [e] at h
    omega
  · intro h
    have hle : (met ns).length ≤ ns.length := met_le _ _
    refine Nat.lt_of_le_of_ne hle fun e => h ?_
    obtain ⟨h1, h2⟩ := met_full (fun i => ns.getD i 0) ns.length e
    rw [h1, range_getD] at h2
    exact h2
def spIsO (CS : Addr) : Sp := fun vs H Q _ => ∃ (s dx t l ol : Addr) (xs : List V) (b : Bakery) (ns : List Int), vs = [.ref s, .ref ol] ∧ H s = some (.ins CS dx (sF b t l)) ∧ H l = some (.lst xs) ∧ xs.length = b.doughs.length ∧ H ol = some (.lst (vInt ns)) ∧ ns.length ≤ 70 ∧
  ∀ H' : Hp, Same H H' → Q (.bl (decide ns.Nodup && ns.all (Sr98.isDough b))) H'
theorem scIsO : FnScope ["self", "order", "i"] ["self", "order"] (defScope sIsO) := ⟨rfl, rfl, rfl, by decide +kernel, rfl, by decide +kernel, by decide +kernel⟩
theorem all_id (ns : List Int) (f : Int → Bool) : ((ns.filter fun _ => true).map f).all id = ns.all f := by
  rw [List.filter_eq_self.mpr (fun _ _ => rfl), List.all_map]
  rfl
theorem ok_isO (T : TS' K mg CS) (hlen : mg "len" = none) (hset : mg "set" = none) (hall : mg "all" = none) (F : MFun K CS "is_order" "Schedule.is_order" sIsO) (HD : MOk P w K mg base 1 CS "has_dough" ["self", "i"] (spHasD K CS)) : MOk P w K mg base 2 CS "is_order" ["self", "order"] (spIsO CS) := by
  obtain ⟨f, fd, F, M⟩ := F.ex
  refine ⟨f, fd, F.ok scIsO (fun vs H Q E h => ?_) (fun cdv A outer s H vs Q E hr h => ?_), F.binds fun _ _ _ _ _ _ us hl => match us, hl with | [_, _], _ => rfl, M⟩
  · obtain ⟨s, dx, t, l, ol, xs, b, ns, rfl, _⟩ := h
    rfl
  · obtain ⟨s, dx, t, l, ol, xs, b, ns, rfl, hI, hl, hxl, ho, h70, q⟩ := h
    refine ⟨_, pss_cons (ps_if (pt_cmpR op_lt (pe_lenSetG (by rfl) hlen (by rfl) hset (pv 1)) (pe_callB call_len_seq (by rfl) hlen PySem.boot_len (pa_cons (pv 1) pa_nil)) (nomark _)) (pss_one (ps_ret pe_bl)) pss_nil)
      (pss_one (ps_ret (pe_callB (cr_all rfl) (by rfl) hall (by decide +kernel) (pa_cons (pe_lc (own := [("i", 2)]) (g := gName 2) rfl scIsO.nd (pi_list (pv 1)) (blkOk_by (N := ["self", "order", "i"]) (sc := defScope sIsO) (by decide +kernel))
        (fun _ _ _ _ _ => pg_name (i := 2) scIsO.nd rfl (Or.inl rfl)) (fun _ _ _ _ _ => pts_nil) (fun _ _ _ _ _ => pe_m (pv 0) T.cl HD hr (pa_cons (pv 2) pa_nil))) pa_nil)))), ?_⟩
    refine ⟨_, rfl, ol, ns, rfl, SqL.of ho, by omega, _, rfl, ol, _, rfl, .inl (SqL.of ho), _, _, rfl, rfl, _, rfl, ?_⟩
    rw [vInt_len]
    by_cases hn : ns.Nodup
    · rw [decide_eq_false (fun z => met_lt.mp (Int.ofNat_lt.mp z) hn)]
      refine iteF ⟨_, rfl, ol, rfl, ⟨_, SqL.of ho⟩, fun L hL => ?_⟩
      refine lc_filt (inj := V.int) ns (fun _ => true) (fun i => V.bl (Sr98.isDough b i)) (SqL.of ho) hL (small1000 (by omega)) ?_ ?_
      · intro i H' Z Z' hi s1 z z'
        refine ⟨rfl, ?_⟩
        unfold tYes
        exact iteT ⟨_, rfl, s, dx, _, rfl, s1 _ _ hI, sF_no b t l (by decide +kernel) (by decide +kernel) (by decide +kernel) (by decide +kernel), _, rfl, s, dx, t, l, xs, b, i, rfl, s1 _ _ hI, s1 _ _ hl, hxl, z rfl⟩
      · intro H' s1 hL1
        refine ⟨L, (ns.filter fun _ => true).map (Sr98.isDough b), rfl, ?_, ?_⟩
        · rw [List.map_map]
          exact SqL.of hL1
        · rw [all_id]
          have := q H' s1
          rw [decide_eq_true hn, Bool.true_and] at this
          exact this
    · rw [decide_eq_true (Int.ofNat_lt.mpr (met_lt.mpr hn))]
      have := q H (Same.refl H)
      rw [decide_eq_false hn, Bool.false_and] at this
      exact iteT this
/-! ### start_times -/
abbrev sStartT : Stmt := inClass (top iSched) 15
def spStartT (CS CD : Addr) : Sp := fun vs H Q _ => ∃ (s t l ol : Addr) (as : List (Addr × Addr)) (b : Bakery) (ns : List Int), vs = [.ref s, .ref ol] ∧ SchedAt CS CD H s t l as b ∧ H ol = some (.lst (vInt ns)) ∧ ns.length ≤ 70 ∧ DoneS H b (.startTimes ns) Q
theorem scStartT : FnScope ["self", "order", "times"] ["self", "order"] (defScope sStartT) := ⟨rfl, rfl, rfl, by decide +kernel, rfl, by decide +kernel, by decide +kernel⟩
theorem ints_nats {b : Bakery} {ns : List Int} (h : ns.all (Sr98.isDough b) = true) : vInt ns = vNat (SrCommon.intsToNats ns) ∧ ∀ i ∈ SrCommon.intsToNats ns, i < b.doughs.length := by
  have h2 := List.all_eq_true.mp h
  constructor
  · unfold vInt vNat SrCommon.intsToNats
    rw [List.map_map]
    refine List.map_congr_left fun x hx => ?_
    obtain ⟨j, rfl, _⟩ := isIndex_nat (h2 x hx)
    rfl
  · intro i hi
    obtain ⟨x, hx, rfl⟩ := List.mem_map.mp hi
    obtain ⟨j, rfl, hj⟩ := isIndex_nat (h2 x hx)
    exact hj
theorem ok_startT (T : TS' K mg CS) (TBo : TB K mg CB) (hlen : mg "len" = none) (F : MFun K CS "start_times" "Schedule.start_times" sStartT) (IO : MOk P w K mg base 2 CS "is_order" ["self", "order"] (spIsO CS))
    (BO : MOk P w K mg base 4 CS "baking_of" ["self", "doughs"] (spBakeOf CS CD CB)) (TO : MOk P w K mg base 3 CB "times_of_order" ["self", "order"] (spTimesO CB)) : MOk P w K mg base 5 CS "start_times" ["self", "order"] (spStartT CS CD) := by
  obtain ⟨f, fd, F, M⟩ := F.ex
  refine ⟨f, fd, F.ok scStartT (fun vs H Q E h => ?_) (fun cdv A outer s H vs Q E hr h => ?_), F.binds fun _ _ _ _ _ _ us hl => match us, hl with | [_, _], _ => rfl, M⟩
  · obtain ⟨s, t, l, ol, as, b, ns, rfl, _⟩ := h
    rfl
  · obtain ⟨s, t, l, ol, as, b, ns, rfl, S, ho, h70, D⟩ := h
    obtain ⟨dx, hI⟩ := S.ins
    have hr2 : Room 2 _ := hr.mono (by decide)
    have hr3 : Room 3 _ := hr.mono (by decide)
    refine ⟨_, pss_cons (ps_if (pt_not (pt_val (pe_m (pv 0) T.cl IO hr2 (pa_cons (pv 1) pa_nil)))) (pss_one (ps_ret (pe_lst (pa_cons (pe_const T.oor) pa_nil)))) pss_nil)
      (pss_cons (ps_set (i := 2) scStartT.nd rfl (Or.inl rfl) (pe_m (pe_m (pv 0) T.cl BO hr (pa_cons (pe_fld (pv 0) rfl) pa_nil)) TBo.cl TO hr3 (pa_cons (pv 1) pa_nil)))
      (pss_cons (ps_if (pt_cmpR op_isN (pv 2) pe_non (nomark _)) (pss_one (ps_ret (pe_lst (pa_cons (pe_const T.nowin) pa_nil)))) pss_nil)
      (pss_one (ps_ret (pe_op op_cat (pe_lst (pa_cons (pe_callB call_len_seq (by rfl) hlen PySem.boot_len (pa_cons (pv 2) pa_nil)) pa_nil)) (pv 2)))))), ?_⟩
    refine ⟨_, rfl, s, dx, _, rfl, hI, sF_no b t l (by decide +kernel) (by decide +kernel) (by decide +kernel) (by decide +kernel), _, rfl, s, dx, t, l, ol, _, b, ns, rfl, hI, S.lst, by rw [List.length_map, S.len], ho, h70, fun H1 s1 => ⟨_, rfl, ?_⟩⟩
    cases hok : (decide ns.Nodup && ns.all (Sr98.isDough b)) with
    | false =>
      exact iteT ⟨(by show 1 ≤ sizeLine; decide), fun p hp => D.quit (ns := [-22]) s1 hp (congrArg (Prod.mk none) (if_pos hok)) rfl⟩
    | true =>
      have ep : Sr98.perform b (.startTimes ns) = (none, match Sr98.startTimes b (SrCommon.intsToNats ns) with
          | none => .ofCode SrCommon.noSolution
          | some l => ⟨(l.length : Int), SrCommon.natsToInts l⟩) := congrArg (Prod.mk none) (if_neg (by rw [hok]; simp))
      obtain ⟨ev, hlt⟩ := ints_nats (Bool.and_eq_true_iff.mp hok).2
      have ho1 := s1 _ _ ho
      rw [ev] at ho1
      have S1 := S.same s1
      refine iteF ⟨_, rfl, s, dx, _, rfl, s1 _ _ hI, sF_no b t l (by decide +kernel) (by decide +kernel) (by decide +kernel) (by decide +kernel), _, rfl, s, CS, dx, _, _, rfl, s1 _ _ hI, T.cl, T.nD, sF_doughs b t l,
        s, t, l, l, dx, as, b, b, rfl, s1 _ _ hI, S1.tmp, S1.listAt, rfl, rfl, S.wf, fun H2 k wl was s2 B => ?_⟩
      obtain ⟨dk, hk⟩ := B.ins
      refine ⟨k, dk, _, rfl, hk, bF_no b wl (by decide +kernel) (by decide +kernel) (by decide +kernel), _, rfl, k, wl, ol, was, b, _, rfl, B, s2 _ _ ho1, hlt, by unfold SrCommon.intsToNats; rw [List.length_map]; exact h70, fun H3 v s3 hv hv2 => ?_⟩
      have s13 := (s1.trans s2).trans s3
      cases hT : Sr98.startTimesFrom b (SrCommon.intsToNats ns) 0 with
      | none =>
        have hT' : Sr98.startTimes b (SrCommon.intsToNats ns) = none := hT
        rw [hT] at hv
        cases hv
        rw [hT'] at ep
        exact ⟨_, rfl, rfl, _, rfl, iteT ⟨(by show 1 ≤ sizeLine; decide), fun p hp => D.quit (ns := [-33]) s13 hp ep rfl⟩⟩
      | some TT =>
        have hT' : Sr98.startTimes b (SrCommon.intsToNats ns) = some TT := hT
        rw [hT] at hv
        obtain ⟨tl, rfl, htl⟩ := hv
        rw [hT'] at ep
        have hlT : TT.length ≤ 70 := by
          rw [from_len b hT]
          unfold SrCommon.intsToNats
          rw [List.length_map]
          exact h70
        refine ⟨_, rfl, rfl, _, rfl, iteF ⟨_, rfl, tl, _, rfl, .inl (SqL.of htl), (by show 1 ≤ sizeLine; decide), fun q2 hq2 => ?_⟩⟩
        have n2 : tl ≠ q2 := ne_of_none htl hq2
        refine ⟨_, rfl, q2, tl, _, _, rfl, rfl, upd_same, by rw [upd_ne n2]; exact htl, by rw [vNat_len]; exact Nat.le_trans (show 1 + TT.length ≤ 71 by omega) (by decide), fun p3 hp3 => ?_⟩
        rw [vNat_len] at hp3 ⊢
        have z := D.quit (ns := ((TT.length : Nat) : Int) :: SrCommon.natsToInts TT) (s13.trans (same_new hq2)) hp3 ep rfl
        rw [vNat_vInt]
        exact z
end
end Bk
namespace Bk
open PySem PySem.Spec PyProof.Rows L2
open PySem.W (Codec)
open Sr98 (Bakery)
def resL (r : SrCommon.Result) : List Int := r.code :: r.values
theorem natsToInts_app (l r : List Nat) : SrCommon.natsToInts (l ++ r) = SrCommon.natsToInts l ++ SrCommon.natsToInts r := by simp [SrCommon.natsToInts]
theorem small16 {n : Nat} (h : n ≤ 16) : n ≤ sizeLine := Nat.le_trans h (by decide)
section
variable {P : Program} {w : World} {K : PySem.W.Frag} {mg : Str → Option Value} {base : Heap} {CS CD CB CP : Addr}
/-! ### plan_for, plan -/
abbrev sPlan : Stmt := inClass (top iSched) 16
abbrev sPlanFor : Stmt := inClass (top iSched) 17
def spPlanFor (CS CD : Addr) : Sp := fun vs H Q _ => ∃ (s t l dl dx : Addr) (ds : List (Addr × Addr)) (b b' : Bakery), vs = [.ref s, .ref dl] ∧ H s = some (.ins CS dx (sF b t l)) ∧ H t = some (.lst (vNat b.temperatures)) ∧ ListAt CD H dl ds b' ∧
  b'.temperatures = b.temperatures ∧ b'.bakingTime = b.bakingTime ∧ Wf b' ∧ ∀ (H' : Hp) (p : Addr), Same H H' → H' p = none → Q (.ref p) (upd H' p (.lst (vInt (resL (Sr98.planResult b')))))
theorem scPlanFor : FnScope ["self", "doughs", "baking", "order", "times"] ["self", "doughs"] (defScope sPlanFor) := ⟨rfl, rfl, rfl, by decide +kernel, rfl, by decide +kernel, by decide +kernel⟩
theorem all_nodup (b : Bakery) : (Sr98.allDoughs b).Nodup := List.nodup_range
theorem ok_planFor (T : TS' K mg CS) (TBo : TB K mg CB) (F : MFun K CS "plan_for" "Schedule.plan_for" sPlanFor) (BO : MOk P w K mg base 4 CS "baking_of" ["self", "doughs"] (spBakeOf CS CD CB)) (AL : MOk P w K mg base 1 CB "all_doughs" ["self"] (spAll CB))
    (PO : MOk P w K mg base 11 CB "order_of_plan" ["self", "doughs"] (spPlanO CB)) (TO : MOk P w K mg base 3 CB "times_of_order" ["self", "order"] (spTimesO CB)) (FT : MOk P w K mg base 1 CB "finish_of_times" ["self", "times"] (spFinT CB)) :
    MOk P w K mg base 12 CS "plan_for" ["self", "doughs"] (spPlanFor CS CD) := by
  obtain ⟨f, fd, F, M⟩ := F.ex
  refine ⟨f, fd, F.ok scPlanFor (fun vs H Q E h => ?_) (fun cdv A outer s H vs Q E hr h => ?_), F.binds fun _ _ _ _ _ _ us hl => match us, hl with | [_, _], _ => rfl, M⟩
  · obtain ⟨s, t, l, dl, dx, ds, b, b', rfl, _⟩ := h
    rfl
  · obtain ⟨s, t, l, dl, dx, ds, b, b', rfl, hI, hT, LL, et, ep, wf, q⟩ := h
    have hr4 : Room 4 _ := hr.mono (by decide)
    have hr3 : Room 3 _ := hr.mono (by decide)
    have hr1 : Room 1 _ := hr.mono (by decide)
    refine ⟨_, pss_cons (ps_set (i := 2) scPlanFor.nd rfl (Or.inl rfl) (pe_m (pv 0) T.cl BO hr4 (pa_cons (pv 1) pa_nil)))
      (pss_cons (ps_set (i := 3) scPlanFor.nd rfl (Or.inl rfl) (pe_m (pv 2) TBo.cl PO hr (pa_cons (pe_m0 (pv 2) TBo.cl AL hr1) pa_nil)))
      (pss_cons (ps_if (pt_cmpR op_isN (pv 3) pe_non (nomark _)) (pss_one (ps_ret (pe_lst (pa_cons (pe_const T.nowin) pa_nil)))) pss_nil)
      (pss_cons (ps_set (i := 4) scPlanFor.nd rfl (Or.inl rfl) (pe_m (pv 2) TBo.cl TO hr3 (pa_cons (pv 3) pa_nil)))
      (pss_one (ps_ret (pe_op op_cat (pe_op op_cat (pe_lst (pa_cons (pe_m (pv 2) TBo.cl FT hr1 (pa_cons (pv 4) pa_nil)) pa_nil)) (pv 3)) (pv 4))))))), ?_⟩
    have h6 := wf.six
    refine ⟨_, rfl, s, dx, _, rfl, hI, sF_no b t l (by decide +kernel) (by decide +kernel) (by decide +kernel) (by decide +kernel), _, rfl, s, t, l, dl, dx, ds, b, b', rfl, hI, hT, LL, et, ep, wf, fun H1 k wl was s1 B => ?_⟩
    obtain ⟨dk, hk⟩ := B.ins
    have hkn {m : Str} (h1 : (m == ("windows" : Str)) = false) (h2 : (m == ("hours" : Str)) = false) (h3 : (m == ("baking_time" : Str)) = false) : (bF b' wl).lookup m = none := bF_no b' wl h1 h2 h3
    refine ⟨_, rfl, k, dk, _, rfl, hk, hkn (by decide +kernel) (by decide +kernel) (by decide +kernel), _, rfl, k, dk, _, rfl, hk, hkn (by decide +kernel) (by decide +kernel) (by decide +kernel), k, wl, was, b', rfl, B, fun al hal => ?_⟩
    have s2 : Same H1 (upd H1 al (.lst (vNat (Sr98.allDoughs b')))) := same_new hal
    refine ⟨k, wl, al, was, b', _, rfl, B.same s2, upd_same, all_nodup b', fun i hi => all_lt hi, by rw [all_len]; exact h6, fun H3 v s3 hv => ?_⟩
    have s13 := (s1.trans s2).trans s3
    have B3 := (B.same s2).same s3
    have eres : Sr98.planResult b' = match Sr98.plan b' (Sr98.allDoughs b') with
        | none => .ofCode SrCommon.noSolution
        | some order => ⟨((Sr98.finishedAt b' order).getD 0 : Nat), SrCommon.natsToInts (order ++ (Sr98.startTimes b' order).getD [])⟩ := rfl
    cases hpl : Sr98.plan b' (Sr98.allDoughs b') with
    | none =>
      rw [hpl] at hv eres
      cases hv
      refine ⟨_, rfl, rfl, _, rfl, iteT ⟨(by show 1 ≤ sizeLine; decide), fun p hp => ?_⟩⟩
      have z := q _ p s13 hp
      rw [eres] at z
      exact z
    | some o =>
      rw [hpl] at hv eres
      obtain ⟨ol, rfl, hol⟩ := hv
      obtain ⟨hmem, hlo, TT, hTT, hTT2, hfin⟩ := plan_some (all_nodup b') hpl
      rw [all_len] at hlo
      have hlT := from_len b' hTT
      have hk3 := s3 _ _ (s2 _ _ hk)
      refine ⟨_, rfl, rfl, _, rfl, iteF ⟨_, rfl, k, dk, _, rfl, hk3, hkn (by decide +kernel) (by decide +kernel) (by decide +kernel), _, rfl, k, wl, ol, was, b', o, rfl, B3, hol, fun i hi => all_lt (hmem i hi), by omega, fun H4 v4 s4 hv4 _ => ?_⟩⟩
      rw [hTT] at hv4
      obtain ⟨tl, rfl, htl⟩ := hv4
      refine ⟨_, rfl, k, dk, _, rfl, s4 _ _ hk3, hkn (by decide +kernel) (by decide +kernel) (by decide +kernel), _, rfl, k, wl, tl, was, b', TT, rfl, B3.same s4, htl, (by show 1 ≤ sizeLine; decide), fun q1 hq1 => ?_⟩
      have hol4 := s4 _ _ hol
      have n1 : ol ≠ q1 := ne_of_none hol4 hq1
      have n2 : tl ≠ q1 := ne_of_none htl hq1
      refine ⟨_, rfl, q1, ol, _, _, rfl, rfl, upd_same, by rw [upd_ne n1]; exact hol4, by rw [vNat_len]; exact small16 (by show 1 + o.length ≤ 16; omega), fun q2 hq2 => ?_⟩
      have htl2 : (upd H4 q1 (.lst [.int (((TT.getLast?.map fun t => t + b'.bakingTime).getD 0 : Nat) : Int)])) tl = some (.lst (vNat TT)) := by rw [upd_ne n2]; exact htl
      have n3 : tl ≠ q2 := ne_of_none htl2 hq2
      refine ⟨_, rfl, q2, tl, _, _, rfl, rfl, upd_same, by rw [upd_ne n3]; exact htl2, by rw [List.length_append, vNat_len, vNat_len]; exact small16 (by show 1 + o.length + TT.length ≤ 16; omega), fun q3 hq3 => ?_⟩
      have z := q _ q3 (((s13.trans s4).trans (same_new hq1)).trans (same_new hq2)) hq3
      rw [eres] at z
      have ev : vInt (resL ⟨((Sr98.finishedAt b' o).getD 0 : Nat), SrCommon.natsToInts (o ++ (Sr98.startTimes b' o).getD [])⟩) = [V.int (((TT.getLast?.map fun t => t + b'.bakingTime).getD 0 : Nat) : Int)] ++ vNat o ++ vNat TT := by
        have e1 : vInt (SrCommon.natsToInts (o ++ TT)) = vNat o ++ vNat TT := by rw [natsToInts_app, vInt_app, ← vNat_vInt, ← vNat_vInt]
        rw [hfin, hTT2]
        exact congrArg (V.int _ :: ·) e1
      have z2 : Q (.ref q3) (upd _ q3 (.lst (vInt (resL ⟨((Sr98.finishedAt b' o).getD 0 : Nat), SrCommon.natsToInts (o ++ (Sr98.startTimes b' o).getD [])⟩)))) := z
      rw [ev] at z2
      exact z2
def spPlan (CS CD : Addr) : Sp := fun vs H Q _ => ∃ (s t l : Addr) (as : List (Addr × Addr)) (b : Bakery), vs = [.ref s] ∧ SchedAt CS CD H s t l as b ∧ DoneS H b .plan Q
theorem scPlan : FnScope ["self"] ["self"] (defScope sPlan) := ⟨rfl, rfl, rfl, by decide +kernel, rfl, by decide +kernel, by decide +kernel⟩
theorem ok_plan (T : TS' K mg CS) (F : MFun K CS "plan" "Schedule.plan" sPlan) (PF : MOk P w K mg base 12 CS "plan_for" ["self", "doughs"] (spPlanFor CS CD)) : MOk P w K mg base 13 CS "plan" ["self"] (spPlan CS CD) := by
  obtain ⟨f, fd, F, M⟩ := F.ex
  refine ⟨f, fd, F.ok scPlan (fun vs H Q E h => ?_) (fun cdv A outer s H vs Q E hr h => ?_), F.binds fun _ _ _ _ _ _ us hl => match us, hl with | [_], _ => rfl, M⟩
  · obtain ⟨s, t, l, as, b, rfl, _⟩ := h
    rfl
  · obtain ⟨s, t, l, as, b, rfl, S, D⟩ := h
    obtain ⟨dx, hI⟩ := S.ins
    refine ⟨_, pss_one (ps_ret (pe_m (pv 0) T.cl PF hr (pa_cons (pe_fld (pv 0) rfl) pa_nil))), ?_⟩
    exact ⟨_, rfl, s, dx, _, rfl, hI, sF_no b t l (by decide +kernel) (by decide +kernel) (by decide +kernel) (by decide +kernel), _, rfl, s, CS, dx, _, _, rfl, hI, T.cl, T.nD, sF_doughs b t l,
      s, t, l, l, dx, as, b, b, rfl, hI, S.tmp, S.listAt, rfl, rfl, S.wf, fun H' p s1 hp => D.put s1 hp rfl⟩
/-! ### most_doughs -/
abbrev sMost : Stmt := inClass (top iSched) 18
def spMost (CS CD : Addr) : Sp := fun vs H Q _ => ∃ (s t l : Addr) (as : List (Addr × Addr)) (b : Bakery), vs = [.ref s] ∧ SchedAt CS CD H s t l as b ∧ DoneS H b .mostDoughs Q
theorem scMost : FnScope ["self", "baking", "doughs"] ["self"] (defScope sMost) := ⟨rfl, rfl, rfl, by decide +kernel, rfl, by decide +kernel, by decide +kernel⟩
theorem ok_most (T : TS' K mg CS) (TBo : TB K mg CB) (hlen : mg "len" = none) (F : MFun K CS "most_doughs" "Schedule.most_doughs" sMost) (BO : MOk P w K mg base 4 CS "baking_of" ["self", "doughs"] (spBakeOf CS CD CB)) (LS : MOk P w K mg base 12 CB "largest_set_with_a_plan" ["self"] (spLarge CB))
    (PO : MOk P w K mg base 11 CB "order_of_plan" ["self", "doughs"] (spPlanO CB)) : MOk P w K mg base 13 CS "most_doughs" ["self"] (spMost CS CD) := by
  obtain ⟨f, fd, F, M⟩ := F.ex
  refine ⟨f, fd, F.ok scMost (fun vs H Q E h => ?_) (fun cdv A outer s H vs Q E hr h => ?_), F.binds fun _ _ _ _ _ _ us hl => match us, hl with | [_], _ => rfl, M⟩
  · obtain ⟨s, t, l, as, b, rfl, _⟩ := h
    rfl
  · obtain ⟨s, t, l, as, b, rfl, S, D⟩ := h
    obtain ⟨dx, hI⟩ := S.ins
    have hr4 : Room 4 _ := hr.mono (by decide)
    have hr11 : Room 11 _ := hr.mono (by decide)
    have h6 := S.wf.six
    refine ⟨_, pss_cons (ps_set (i := 1) scMost.nd rfl (Or.inl rfl) (pe_m (pv 0) T.cl BO hr4 (pa_cons (pe_fld (pv 0) rfl) pa_nil)))
      (pss_cons (ps_set (i := 2) scMost.nd rfl (Or.inl rfl) (pe_m0 (pv 1) TBo.cl LS hr))
      (pss_one (ps_ret (pe_op op_cat (pe_op op_cat (pe_lst (pa_cons (pe_callB call_len_seq (by rfl) hlen PySem.boot_len (pa_cons (pv 2) pa_nil)) pa_nil)) (pv 2)) (pe_m (pv 1) TBo.cl PO hr11 (pa_cons (pv 2) pa_nil)))))), ?_⟩
    refine ⟨_, rfl, s, dx, _, rfl, hI, sF_no b t l (by decide +kernel) (by decide +kernel) (by decide +kernel) (by decide +kernel), _, rfl, s, CS, dx, _, _, rfl, hI, T.cl, T.nD, sF_doughs b t l,
      s, t, l, l, dx, as, b, b, rfl, hI, S.tmp, S.listAt, rfl, rfl, S.wf, fun H1 k wl was s1 B => ?_⟩
    obtain ⟨dk, hk⟩ := B.ins
    refine ⟨_, rfl, k, dk, _, rfl, hk, bF_no b wl (by decide +kernel) (by decide +kernel) (by decide +kernel), k, wl, was, b, rfl, B, fun H2 gl s2 hgl => ?_⟩
    obtain ⟨hnd, hlt, hll⟩ := largest_ok b
    obtain ⟨o, hpo⟩ := largest_plan b
    obtain ⟨hmem, hlo, _⟩ := plan_some hnd hpo
    refine ⟨_, rfl, gl, _, rfl, .inl (SqL.of hgl), (by show 1 ≤ sizeLine; decide), fun q1 hq1 => ?_⟩
    rw [vNat_len]
    have n1 : gl ≠ q1 := ne_of_none hgl hq1
    refine ⟨_, rfl, q1, gl, _, _, rfl, rfl, upd_same, by rw [upd_ne n1]; exact hgl, by rw [vNat_len]; exact small16 (by show 1 + (Sr98.largestSet b).length ≤ 16; omega), fun q2 hq2 => ?_⟩
    have s4 : Same H2 (upd (upd H2 q1 (.lst [.int (((Sr98.largestSet b).length : Nat) : Int)])) q2 (.lst ([.int (((Sr98.largestSet b).length : Nat) : Int)] ++ vNat (Sr98.largestSet b)))) := (same_new hq1).trans (same_new hq2)
    have s24 := s2.trans s4
    refine ⟨_, rfl, k, dk, _, rfl, s24 _ _ hk, bF_no b wl (by decide +kernel) (by decide +kernel) (by decide +kernel), _, rfl, k, wl, gl, was, b, _, rfl, B.same s24, s4 _ _ hgl, hnd, hlt, by omega, fun H5 v s5 hv => ?_⟩
    rw [hpo] at hv
    obtain ⟨ol, rfl, hol⟩ := hv
    refine ⟨q2, ol, _, _, rfl, rfl, s5 _ _ upd_same, hol, by rw [List.length_append, vNat_len, vNat_len]; exact small16 (by show 1 + (Sr98.largestSet b).length + o.length ≤ 16; omega), fun q3 hq3 => ?_⟩
    have epr : Sr98.perform b .mostDoughs = (none, ⟨((Sr98.largestSet b).length : Int), SrCommon.natsToInts (Sr98.largestSet b ++ (Sr98.plan b (Sr98.largestSet b)).getD [])⟩) := rfl
    rw [hpo] at epr
    have z := D.quit (ns := (((Sr98.largestSet b).length : Nat) : Int) :: SrCommon.natsToInts (Sr98.largestSet b ++ o)) ((s1.trans s24).trans s5) hq3 epr rfl
    have ev : vInt ((((Sr98.largestSet b).length : Nat) : Int) :: SrCommon.natsToInts (Sr98.largestSet b ++ o)) = [V.int (((Sr98.largestSet b).length : Nat) : Int)] ++ vNat (Sr98.largestSet b) ++ vNat o := by
      have e1 : vInt (SrCommon.natsToInts (Sr98.largestSet b ++ o)) = vNat (Sr98.largestSet b) ++ vNat o := by rw [natsToInts_app, vInt_app, ← vNat_vInt, ← vNat_vInt]
      exact congrArg (V.int _ :: ·) e1
    rw [ev] at z
    exact z
/-! ### can_bake -/
abbrev sCanB : Stmt := inClass (top iSched) 20
def spCanB (CS CD : Addr) : Sp := fun vs H Q _ => ∃ (s t l : Addr) (as : List (Addr × Addr)) (b : Bakery) (x : Int), vs = [.ref s, .int x] ∧ SchedAt CS CD H s t l as b ∧ DoneS H b (.canBake x) Q
theorem scCanB : FnScope ["self", "set_number", "order"] ["self", "set_number"] (defScope sCanB) := ⟨rfl, rfl, rfl, by decide +kernel, rfl, by decide +kernel, by decide +kernel⟩
theorem ok_canB (T : TS' K mg CS) (TBo : TB K mg CB) (hlen : mg "len" = none) (F : MFun K CS "can_bake" "Schedule.can_bake" sCanB) (NS : GOk P w K mg base 1 "number_of_sets" ["count"] spNum) (DS : GOk P w K mg base 1 "doughs_of_set" ["set_number"] spSetOf)
    (BO : MOk P w K mg base 4 CS "baking_of" ["self", "doughs"] (spBakeOf CS CD CB)) (PO : MOk P w K mg base 11 CB "order_of_plan" ["self", "doughs"] (spPlanO CB)) : MOk P w K mg base 12 CS "can_bake" ["self", "set_number"] (spCanB CS CD) := by
  obtain ⟨f, fd, F, M⟩ := F.ex
  refine ⟨f, fd, F.ok scCanB (fun vs H Q E h => ?_) (fun cdv A outer s H vs Q E hr h => ?_), F.binds fun _ _ _ _ _ _ us hl => match us, hl with | [_, _], _ => rfl, M⟩
  · obtain ⟨s, t, l, as, b, x, rfl, _⟩ := h
    rfl
  · obtain ⟨s, t, l, as, b, x, rfl, S, D⟩ := h
    obtain ⟨dx, hI⟩ := S.ins
    have hr1 : Room 1 _ := hr.mono (by decide)
    have hr4 : Room 4 _ := hr.mono (by decide)
    have h6 := S.wf.six
    refine ⟨_, pss_cons (ps_if (pt_not (pt_chain op_le op_lt pe_int (pv 1) (pe_g NS hr1 rfl (pa_cons (pe_callB call_len_seq (by rfl) hlen PySem.boot_len (pa_cons (pe_fld (pv 0) rfl) pa_nil)) pa_nil)))) (pss_one (ps_ret (pe_lst (pa_cons (pe_const T.oor) pa_nil)))) pss_nil)
      (pss_cons (ps_set (i := 2) scCanB.nd rfl (Or.inl rfl) (pe_m (pe_m (pv 0) T.cl BO hr4 (pa_cons (pe_fld (pv 0) rfl) pa_nil)) TBo.cl PO hr (pa_cons (pe_g DS hr1 rfl (pa_cons (pv 1) pa_nil)) pa_nil)))
      (pss_cons (ps_if (pt_cmpR op_isN (pv 2) pe_non (nomark _)) (pss_one (ps_ret (pe_lst (pa_cons pe_int pa_nil)))) pss_nil)
      (pss_one (ps_ret (pe_lst (pa_cons pe_int pa_nil)))))), ?_⟩
    have quit : SrCommon.isIndex x (2 ^ b.doughs.length) = false → 1 ≤ sizeLine ∧ ∀ p, H p = none → Q (.ref p) (upd H p (.lst [.int (-22)])) := fun h =>
      ⟨by decide, fun p hp => D.quit (ns := [-22]) (Same.refl H) hp (congrArg (Prod.mk none) (if_pos h)) rfl⟩
    refine ⟨_, rfl, _, _, rfl, rfl, _, rfl, ?_⟩
    by_cases h1 : (0 : Int) ≤ x
    · rw [decide_eq_true h1]
      refine iteT ⟨_, rfl, s, CS, dx, _, _, rfl, hI, T.cl, T.nD, sF_doughs b t l, l, _, rfl, .inl (SqL.of S.lst), ?_⟩
      rw [List.length_map, S.len]
      refine ⟨b.doughs.length, rfl, h6, _, _, rfl, rfl, _, rfl, ?_⟩
      by_cases h2 : x < ((2 ^ b.doughs.length : Nat) : Int)
      · rw [decide_eq_true h2]
        have hix : ¬ SrCommon.isIndex x (2 ^ b.doughs.length) = false := by
          unfold SrCommon.isIndex
          rw [decide_eq_true h1, decide_eq_true h2]
          simp
        obtain ⟨n, rfl⟩ : ∃ n : Nat, x = (n : Int) := ⟨x.toNat, (Int.toNat_of_nonneg h1).symm⟩
        have hn : n < 2 ^ b.doughs.length := Int.ofNat_lt.mp h2
        have ep : Sr98.perform b (.canBake (n : Int)) = (none, .ofCode (SrCommon.boolToInt (Sr98.plan b (SrCommon.maskMembers b.doughs.length n)).isSome)) := by
          refine congrArg (Prod.mk none) ((if_neg hix).trans ?_)
          rw [Int.toNat_natCast]
        refine iteF ⟨_, rfl, s, dx, _, rfl, hI, sF_no b t l (by decide +kernel) (by decide +kernel) (by decide +kernel) (by decide +kernel), _, rfl, s, CS, dx, _, _, rfl, hI, T.cl, T.nD, sF_doughs b t l,
          s, t, l, l, dx, as, b, b, rfl, hI, S.tmp, S.listAt, rfl, rfl, S.wf, fun H1 k wl was s1 B => ?_⟩
        obtain ⟨dk, hk⟩ := B.ins
        refine ⟨k, dk, _, rfl, hk, bF_no b wl (by decide +kernel) (by decide +kernel) (by decide +kernel), _, rfl, b.doughs.length, n, rfl, h6, hn, fun H2 gl s2 _ hgl => ?_⟩
        refine ⟨k, wl, gl, was, b, _, rfl, B.same s2, hgl, mask_nodup _ _, fun y hy => mask_lt hy, Nat.le_trans mask_len h6, fun H3 v s3 hv => ?_⟩
        have s13 := (s1.trans s2).trans s3
        cases hp : Sr98.plan b (SrCommon.maskMembers b.doughs.length n) with
        | none =>
          rw [hp] at hv ep
          cases hv
          exact ⟨_, rfl, rfl, _, rfl, iteT ⟨(by show 1 ≤ sizeLine; decide), fun p hp => D.quit (ns := [0]) s13 hp ep rfl⟩⟩
        | some o =>
          rw [hp] at hv ep
          obtain ⟨ol, rfl, _⟩ := hv
          exact ⟨_, rfl, rfl, _, rfl, iteF ⟨(by show 1 ≤ sizeLine; decide), fun p hp => D.quit (ns := [1]) s13 hp ep rfl⟩⟩
      · rw [decide_eq_false h2]
        refine iteT (quit ?_)
        unfold SrCommon.isIndex
        rw [decide_eq_false h2, Bool.and_false]
    · rw [decide_eq_false h1]
      refine iteF ⟨_, rfl, iteT (quit ?_)⟩
      unfold SrCommon.isIndex
      rw [decide_eq_false h1, Bool.false_and]
end
end Bk
namespace Bk
open PySem PySem.Spec PyProof.Rows L2
open PySem.W (Codec)
open Sr98 (Bakery)
theorem small100 {n : Nat} (h : n ≤ 100) : n ≤ sizeLine := Nat.le_trans h (by decide)
section
variable {P : Program} {w : World} {K : PySem.W.Frag} {mg : Str → Option Value} {base : Heap} {CS CD CB CP : Addr}
/-! ### plan_if_cooled -/
abbrev sPlanIf : Stmt := inClass (top iSched) 21
def spPlanIf (CS CD : Addr) : Sp := fun vs H Q _ => ∃ (s t l : Addr) (as : List (Addr × Addr)) (b : Bakery) (x y z : Int), vs = [.ref s, .int x, .int y, .int z] ∧ SchedAt CS CD H s t l as b ∧ DoneS H b (.planIfCooled x y z) Q
theorem scPlanIf : FnScope ["self", "i", "start", "to", "refusal", "doughs"] ["self", "i", "start", "to"] (defScope sPlanIf) := ⟨rfl, rfl, rfl, by decide +kernel, rfl, by decide +kernel, by decide +kernel⟩
theorem DoneS.shift {H H1 : Hp} {b : Bakery} {c : Sr98.Call} {Q : VK} (D : DoneS H b c Q) (k : Same H H1) : DoneS H1 b c Q := fun H' p s hp h0 => D H' p (k.trans s) hp (Same.free k h0)
theorem ok_planIf (T : TS' K mg CS) (TDo : TD K mg CD) (hlen : mg "len" = none) (hlist : mg "list" = none) (F : MFun K CS "plan_if_cooled" "Schedule.plan_if_cooled" sPlanIf) (RC : MOk P w K mg base 2 CS "refusal_of_cooling" ["self", "i", "start", "to"] (spRefusal CS CD))
    (AN : MOk P w K mg base 3 CD "another_one" ["self"] (spAnother CD)) (CH : MOk P w K mg base 1 CD "cool_hours" ["self", "start", "to"] (spCoolH CD)) (PF : MOk P w K mg base 12 CS "plan_for" ["self", "doughs"] (spPlanFor CS CD)) :
    MOk P w K mg base 13 CS "plan_if_cooled" ["self", "i", "start", "to"] (spPlanIf CS CD) := by
  obtain ⟨f, fd, F, M⟩ := F.ex
  refine ⟨f, fd, F.ok scPlanIf (fun vs H Q E h => ?_) (fun cdv A outer s H vs Q E hr h => ?_), F.binds fun _ _ _ _ _ _ us hl => match us, hl with | [_, _, _, _], _ => rfl, M⟩
  · obtain ⟨s, t, l, as, b, x, y, z, rfl, _⟩ := h
    rfl
  · obtain ⟨s, t, l, as, b, x, y, z, rfl, S, D⟩ := h
    have hr1 : Room 1 _ := hr.mono (by decide)
    have hr2 : Room 2 _ := hr.mono (by decide)
    have hr3 : Room 3 _ := hr.mono (by decide)
    refine ⟨_, pss_cons (ps_set (i := 4) scPlanIf.nd rfl (Or.inl rfl) (pe_m (pv 0) T.cl RC hr2 (pa_cons (pv 1) (pa_cons (pv 2) (pa_cons (pv 3) pa_nil)))))
      (pss_cons (ps_if (pt_cmpR op_gt (pe_callB call_len_seq (by rfl) hlen PySem.boot_len (pa_cons (pv 4) pa_nil)) pe_int (nomark _)) (pss_one (ps_ret (pv 4))) pss_nil)
      (pss_cons (ps_set (i := 5) scPlanIf.nd rfl (Or.inl rfl) (pe_callTy call_list_of (by rfl) hlist boot_list (pa_cons (pe_fld (pv 0) rfl) pa_nil)))
      (pss_cons (ps_asg (pe_m0 (pe_ix ix_list (pe_fld (pv 0) rfl) (pv 1) (fun _ _ => rfl)) TDo.cl AN hr3) (pg_sub (pv 5) (pv 1) set_list))
      (pss_cons (ps_expr (pe_m (pe_ix ix_list (pv 5) (pv 1) (fun _ _ => rfl)) TDo.cl CH hr1 (pa_cons (pv 2) (pa_cons (pv 3) pa_nil))))
      (pss_one (ps_ret (pe_m (pv 0) T.cl PF hr (pa_cons (pv 5) pa_nil)))))))), ?_⟩
    obtain ⟨dx, hI⟩ := S.ins
    refine ⟨_, rfl, s, dx, _, rfl, hI, sF_no b t l (by decide +kernel) (by decide +kernel) (by decide +kernel) (by decide +kernel), _, rfl, _, rfl, _, rfl, s, t, l, as, b, x, y, z, rfl, S, fun p0 hp0 => ?_⟩
    refine ⟨_, rfl, p0, _, rfl, .inl (SqL.of upd_same), _, _, rfl, rfl, _, rfl, ?_⟩
    by_cases hq : refV b x y z = []
    · obtain ⟨hxn, hin⟩ := refV_none hq
      rw [hq]
      replace S := S.same (same_new hp0 (o := .lst []))
      replace D := D.shift (same_new hp0 (o := .lst []))
      replace hI := same_new hp0 (o := .lst []) _ _ hI
      generalize upd H p0 (.lst []) = H at S D hI
      clear hp0
      have hx : Sr98.isDough b x = true := by
        cases e : Sr98.isDough b x with
        | false => exact absurd e hxn
        | true => rfl
      obtain ⟨j, rfl, hj⟩ := isIndex_nat hx
      have hint : Sr98.isInterval b y z = true := by
        cases e : Sr98.isInterval b y z with
        | false => exact absurd e hin
        | true => rfl
      obtain ⟨h1, h2, h3⟩ := isInterval_is hint
      obtain ⟨i0, rfl⟩ : ∃ n : Nat, y = (n : Int) := ⟨y.toNat, by omega⟩
      obtain ⟨i1, rfl⟩ : ∃ n : Nat, z = (n : Int) := ⟨z.toNat, by omega⟩
      obtain ⟨p, d, hp, hd, hpm, ed, DD⟩ := S.dough hj
      obtain ⟨dx0, hI0⟩ := DD.ins
      have ep : Sr98.perform b (.planIfCooled (j : Int) i0 i1) = (none, Sr98.planResult { b with doughs := b.doughs.set j (Sr98.withCooling d i0 i1) }) := by
        refine congrArg (Prod.mk none) ((if_neg hxn).trans ((if_neg hin).trans ?_))
        simp only [Int.toNat_natCast, ed]
        rfl
      refine iteF ⟨_, rfl, s, CS, dx, _, _, rfl, hI, T.cl, T.nD, sF_doughs b t l, l, _, rfl, .inl (SqL.of S.lst), fun dl hdl => ?_⟩
      have s1 : Same H (upd H dl (.lst (as.map fun p => V.ref p.1))) := same_new hdl
      have S1 := S.same s1
      have DD1 := DD.keep (keeps_of_same s1 []) (by simp) (by simp)
      refine ⟨_, rfl, s, CS, dx, _, _, rfl, s1 _ _ hI, T.cl, T.nD, sF_doughs b t l, _, rfl, l, _, _, _, rfl, rfl, SqL.of S1.lst, at_of (j := j) (v := V.ref p.1) rfl (by rw [List.getElem?_map, hp]; rfl), p.1, dx0, _, rfl, s1 _ _ hI0, dF_no d p.2 (by decide +kernel) (by decide +kernel) (by decide +kernel) (by decide +kernel),
        p.1, p.2, d, Sr98.hours b, rfl, DD1, S.wf.h36, fun H1 a' c' s2 ha' hc' DN => ?_⟩
      have hdl1 := s2 _ _ upd_same
      obtain ⟨dxn, hIn⟩ := DN.ins
      have nal : a' ≠ dl := (ne_of hdl1 hIn (by intro q; cases q)).symm
      have ncl : c' ≠ dl := fun e => by
        rw [e, upd_same] at hc'
        cases hc'
      have hjl := (List.getElem?_eq_some_iff.mp hp).1
      refine ⟨_, rfl, _, rfl, dl, _, _, j, rfl, rfl, hdl1, ixN_nat rfl (by rw [List.length_map]; exact hjl), ?_⟩
      have DN2 : DoughAt CD (upd H1 dl (.lst ((as.map fun p => V.ref p.1).set j (.ref a')))) (Sr98.hours b) a' c' d := DN.keep (keeps_upd (F := [dl]) (by simp)) (by simp [nal]) (by simp [ncl])
      obtain ⟨dxm, hIm⟩ := DN2.ins
      refine ⟨_, rfl, _, rfl, dl, _, _, _, rfl, rfl, SqL.of upd_same, at_of (j := j) (v := V.ref a') rfl (by rw [List.getElem?_set, if_pos rfl, if_pos (by rw [List.length_map]; exact hjl)]), a', dxm, _, rfl, hIm, dF_no d c' (by decide +kernel) (by decide +kernel) (by decide +kernel) (by decide +kernel), _, rfl, _, rfl,
        a', c', d, Sr98.hours b, i0, i1, rfl, DN2, by omega, by omega, S.wf.h36, fun H2 DC k2 => ?_⟩
      -- what was there is as it was
      have s4 : Same H H2 := fun q o e => by
        have n1 : q ≠ dl := ne_of_none e hdl
        have n2 : q ≠ c' := fun z => by
          have e2 := s1 _ _ e
          rw [z, hc'] at e2
          cases e2
        have e3 : (upd H1 dl (.lst ((as.map fun p => V.ref p.1).set j (.ref a')))) q = some o := by
          rw [upd_ne n1]
          exact s2 _ _ (s1 _ _ e)
        exact k2 _ _ e3 (by simp [n2])
      have S4 := S.same s4
      have hdl2 : H2 dl = some (.lst ((as.map fun p => V.ref p.1).set j (.ref a'))) := k2 _ _ upd_same (by simp [ncl.symm])
      have LL : ListAt CD H2 dl (as.set j (a', c')) { b with doughs := b.doughs.set j (Sr98.withCooling d i0 i1) } := by
        refine ⟨?_, ?_, fun i q d' hq hd' => ?_⟩
        · rw [hdl2, List.map_set]
        · rw [List.length_set]
          show as.length = (b.doughs.set j _).length
          rw [List.length_set, S.len]
        · have hd2 : (b.doughs.set j (Sr98.withCooling d i0 i1))[i]? = some d' := hd'
          rw [List.getElem?_set] at hq hd2
          by_cases hij : j = i
          · rw [if_pos hij, if_pos (by omega)] at hq
            rw [if_pos hij, if_pos (by rw [← S.len]; omega)] at hd2
            cases hq
            cases hd2
            exact DC
          · rw [if_neg hij] at hq hd2
            exact S4.each i q d' hq hd2
      refine ⟨_, rfl, s, dx, _, rfl, s4 _ _ hI, sF_no b t l (by decide +kernel) (by decide +kernel) (by decide +kernel) (by decide +kernel), _, rfl, s, t, l, dl, dx, as.set j (a', c'), b, { b with doughs := b.doughs.set j (Sr98.withCooling d i0 i1) }, rfl, s4 _ _ hI, S4.tmp, LL, rfl, rfl,
        ⟨S.wf.h1, S.wf.h36, S.wf.p1, S.wf.p9, by show (b.doughs.set j _).length ≤ 6; rw [List.length_set]; exact S.wf.six⟩, fun H' q s5 hq => D.put (s4.trans s5) hq ?_⟩
      unfold ans
      rw [ep]
      rfl
    · obtain ⟨n, en, hq2⟩ := refV_quit hq
      rw [en]
      exact iteT ⟨_, rfl, D.quit (ns := [n]) (Same.refl H) hp0 (hq2 _ (.inr rfl)) rfl⟩
/-! ### describe -/
abbrev sDesc : Stmt := inClass (top iSched) 22
def spDesc (CS CD : Addr) : Sp := fun vs H Q _ => ∃ (s t l : Addr) (as : List (Addr × Addr)) (b : Bakery), vs = [.ref s] ∧ SchedAt CS CD H s t l as b ∧ DoneS H b .describe Q
theorem scDesc : FnScope ["self", "numbers", "dough"] ["self"] (defScope sDesc) := ⟨rfl, rfl, rfl, by decide +kernel, rfl, by decide +kernel, by decide +kernel⟩
def dNums (b : Bakery) (d : Dg) : List Nat := [d.mixedAt, d.minimum, d.maximum, ((List.range (Sr98.hours b)).filter (Sr98.isCooled d)).length]
theorem dNums_len (b : Bakery) : ∀ l : List Dg, (l.flatMap (dNums b)).length = 4 * l.length
  | [] => rfl
  | d :: r => by
    rw [List.flatMap_cons, List.length_append, dNums_len b r, List.length_cons]
    show 4 + 4 * r.length = _
    omega
theorem ok_desc (T : TS' K mg CS) (TDo : TD K mg CD) (hlen : mg "len" = none) (F : MFun K CS "describe" "Schedule.describe" sDesc) (CN : MOk P w K mg base 1 CD "number_of_cooled_hours" ["self"] (spCount CD)) : MOk P w K mg base 2 CS "describe" ["self"] (spDesc CS CD) := by
  obtain ⟨f, fd, F, M⟩ := F.ex
  refine ⟨f, fd, F.ok scDesc (fun vs H Q E h => ?_) (fun cdv A outer s H vs Q E hr h => ?_), F.binds fun _ _ _ _ _ _ us hl => match us, hl with | [_], _ => rfl, M⟩
  · obtain ⟨s, t, l, as, b, rfl, _⟩ := h
    rfl
  · obtain ⟨s, t, l, as, b, rfl, S, D⟩ := h
    obtain ⟨dx, hI⟩ := S.ins
    have h6 := S.wf.six
    have h36 : b.temperatures.length ≤ 36 := S.wf.h36
    refine ⟨_, pss_cons (ps_set (i := 1) scDesc.nd rfl (Or.inl rfl) (pe_op op_cat (pe_op op_cat (pe_lst (pa_cons (pe_fld (pv 0) rfl) pa_nil)) (pe_fld (pv 0) rfl)) (pe_lst (pa_cons (pe_fld (pv 0) rfl) (pa_cons (pe_callB call_len_seq (by rfl) hlen PySem.boot_len (pa_cons (pe_fld (pv 0) rfl) pa_nil)) pa_nil)))))
      (pss_cons (ps_for PassesOwn.never rfl (pi_list (pe_fld (pv 0) rfl)) (pg_name (i := 2) scDesc.nd rfl (Or.inl rfl))
        (pss_one (ps_expr (pe_bm PySem.F.plainAttrs_list PySem.F.slot_list_extend PySem.F.type_list_extend mt_extend (pv 1) (pa_cons (pe_lst (pa_cons (pe_fld (pv 2) rfl) (pa_cons (pe_fld (pv 2) rfl) (pa_cons (pe_fld (pv 2) rfl) (pa_cons (pe_m0 (pv 2) TDo.cl CN hr) pa_nil))))) pa_nil)))))
      (pss_one (ps_ret (pv 1)))), ?_⟩
    refine ⟨_, rfl, s, CS, dx, _, _, rfl, hI, T.cl, T.nH, sF_hours b t l, (by show 1 ≤ sizeLine; decide), fun q1 hq1 => ?_⟩
    have s1 : Same H (upd H q1 (.lst [.int (Sr98.hours b : Nat)])) := same_new hq1
    refine ⟨_, rfl, s, CS, dx, _, _, rfl, s1 _ _ hI, T.cl, T.nT, sF_temp b t l, q1, t, _, _, rfl, rfl, upd_same, s1 _ _ S.tmp, by rw [vNat_len]; exact small100 (by show 1 + b.temperatures.length ≤ 100; omega), fun q2 hq2 => ?_⟩
    have s2 := s1.trans (same_new hq2 (o := .lst ([.int (Sr98.hours b : Nat)] ++ vNat b.temperatures)))
    refine ⟨_, rfl, s, CS, dx, _, _, rfl, s2 _ _ hI, T.cl, T.nB, sF_bake b t l, _, rfl, s, CS, dx, _, _, rfl, s2 _ _ hI, T.cl, T.nD, sF_doughs b t l, l, _, rfl, .inl (SqL.of (s2 _ _ S.lst)), ?_⟩
    rw [List.length_map, S.len]
    refine ⟨(by show 2 ≤ sizeLine; decide), fun q3 hq3 => ?_⟩
    have n23 : q2 ≠ q3 := ne_of_none upd_same hq3
    have s3 := s2.trans (same_new hq3 (o := .lst [.int (b.bakingTime : Nat), .int (b.doughs.length : Nat)]))
    refine ⟨q2, q3, _, _, rfl, rfl, by rw [upd_ne n23]; exact upd_same, upd_same, by rw [List.length_append, vNat_len]; exact small100 (by show 1 + b.temperatures.length + 2 ≤ 100; omega), fun N hN => ?_⟩
    have s4 := s3.trans (same_new hN (o := .lst ([.int (Sr98.hours b : Nat)] ++ vNat b.temperatures ++ [.int (b.bakingTime : Nat), .int (b.doughs.length : Nat)])))
    have hNH : H N = none := Same.free s3 hN
    let base0 : List Nat := Sr98.hours b :: (b.temperatures ++ [b.bakingTime, b.doughs.length])
    have eb : ([V.int (Sr98.hours b : Nat)] ++ vNat b.temperatures ++ [V.int (b.bakingTime : Nat), V.int (b.doughs.length : Nat)]) = vNat base0 := by
      show _ = V.int (Sr98.hours b : Nat) :: vNat (b.temperatures ++ [b.bakingTime, b.doughs.length])
      rw [vNat_app]
      rfl
    have lb : base0.length ≤ 39 := by
      show (b.temperatures ++ [b.bakingTime, b.doughs.length]).length + 1 ≤ 39
      rw [List.length_append]
      show b.temperatures.length + 2 + 1 ≤ 39
      omega
    refine ⟨_, rfl, s, CS, dx, _, _, rfl, s4 _ _ hI, T.cl, T.nD, sF_doughs b t l, l, rfl, ⟨_, SqL.of (s4 _ _ S.lst)⟩, for_list (K := K) (a := l) (xs := as.map fun p => V.ref p.1) (fun i σ H' => ∃ v2 : Option V, σ = [some (.ref s), some (.ref N), v2] ∧ Same H H' ∧ H' N = some (.lst (vNat (base0 ++ (b.doughs.take i).flatMap (dNums b)))))
      ⟨none, rfl, s4, ?_⟩ (fun i σ H' _ ⟨_, _, s5, _⟩ => SqL.of (s5 _ _ S.lst)) ?_ ?_⟩
    · rw [upd_same, eb]
      show _ = some (HO.lst (vNat (base0 ++ [])))
      rw [List.append_nil]
    · rintro i x σ H' hi ⟨v2, rfl, s5, hl⟩
      obtain ⟨p, hp, rfl⟩ : ∃ p, as[i]? = some p ∧ x = V.ref p.1 := by
        rw [List.getElem?_map] at hi
        cases e : as[i]? with
        | none =>
          rw [e] at hi
          cases hi
        | some p =>
          rw [e] at hi
          exact ⟨p, rfl, (Option.some.inj hi).symm⟩
      have hil : i < b.doughs.length := by
        rw [← S.len]
        exact (List.getElem?_eq_some_iff.mp hp).1
      have hd : b.doughs[i]? = some b.doughs[i] := List.getElem?_eq_getElem hil
      generalize b.doughs[i] = d at hd
      have DD := (S.same s5).each i p d hp hd
      obtain ⟨dx0, hI0⟩ := DD.ins
      refine ⟨_, rfl, .inl ⟨rfl, _, SqL.of hl⟩, _, rfl, p.1, CD, dx0, _, _, rfl, hI0, TDo.cl, TDo.nMix, dF_mixed d p.2, _, rfl, p.1, CD, dx0, _, _, rfl, hI0, TDo.cl, TDo.nMin, dF_min d p.2, _, rfl, p.1, CD, dx0, _, _, rfl, hI0, TDo.cl, TDo.nMax, dF_max d p.2,
        _, rfl, p.1, dx0, _, rfl, hI0, dF_no d p.2 (by decide +kernel) (by decide +kernel) (by decide +kernel) (by decide +kernel), p.1, p.2, d, Sr98.hours b, rfl, DD, (by show 4 ≤ sizeLine; decide), fun q5 hq5 => ?_⟩
      have nN : N ≠ q5 := ne_of_none hl hq5
      have elen : (base0 ++ (b.doughs.take i).flatMap (dNums b)).length ≤ 63 := by
        rw [List.length_append, dNums_len, List.length_take]
        omega
      refine ⟨N, q5, _, _, rfl, rfl, by rw [upd_ne nN]; exact hl, upd_same, by rw [vNat_len]; exact small100 (show (base0 ++ (b.doughs.take i).flatMap (dNums b)).length + 4 ≤ 100 by omega), ?_⟩
      refine ⟨_, rfl, fun y u e => ?_, ?_⟩
      · rw [upd_ne (ne_of_none e hNH), upd_ne (ne_of_none (s5 _ _ e) hq5)]
        exact s5 _ _ e
      · rw [upd_same, take_snoc hd, List.flatMap_append, ← List.append_assoc, vNat_app _ (List.flatMap (dNums b) [d])]
        rfl
    · rintro σ H' ⟨v2, rfl, s5, hl⟩
      rw [List.length_map, S.len, List.take_length] at hl
      refine ⟨_, rfl, D H' N s5 ?_ hNH⟩
      rw [hl]
      have e1 : ans b .describe = ((Sr98.hours b : Nat) : Int) :: SrCommon.natsToInts (b.temperatures ++ [b.bakingTime, b.doughs.length] ++ b.doughs.flatMap (dNums b)) := rfl
      rw [e1]
      have e2 : vNat (base0 ++ b.doughs.flatMap (dNums b)) = V.int (Sr98.hours b : Nat) :: vNat (b.temperatures ++ [b.bakingTime, b.doughs.length] ++ b.doughs.flatMap (dNums b)) := rfl
      rw [e2, vNat_vInt]
      rfl
end
end Bk
/-! min(xs, key=lambda a: ..), the key a pair of whole numbers, the lambda made there. -/
namespace Bk
open PySem PySem.Spec PyProof.Rows L2 LamX NdefX
/-- a lambda called with its parameters, the names that it captured told by cells -/
theorem lam_run {CX : CXT} {P : Program} {w : World} {K : PySem.W.Frag} {mg : Str → Option Value} {base : Heap} {N ps fr : List Str} {F : NF} {body : Expr} {f : Addr} {k : Nat} {A : Around} {outer : List Env} {s : Shared} {H : Hp} {us : List Value} {vs : List V} {ws : List (Option V)} {Q : VK} {E : XK} {pm ctv : Value} {tb : TE}
    (ho : s.heap.get? f = some (PySem.W.kla_obj "<lambda>" F.qual F.params body F.scope F.cl pm F.c ctv)) (hco : s.heap.CodeRec (.ref F.c) F.qual) (S : NScope N ps fr F.scope) (hb : bindArgs (PySem.W.kla_fn "<lambda>" F.qual F.params body F.scope F.cl pm (.ref F.c) ctv) ⟨us, []⟩ = pure (ps.zip us))
    (hr : Room (k + 1) A) (e0 : Env0 P w K mg base A outer s H) (C : CellsAt F.cl fr ws s.heap H) (hl : vs.length = ps.length) (r : Vals vs us)
    (hbody : PE (ncx CX P w K mg base N F f A outer s H E) body tb) (ht : tb (startF N vs ws) H Q) : codeAny (model P w) A (.call (.ref f) ⟨us, []⟩) (CR CX outer P w H s Q E) s := by
  have lim : s.heap.NoLimit := e0.mod.nolimit.keeps fun b o e => (e0.bs b o e).1
  refine PySem.W.kla_callFunE hr.depth ho rfl S.co S.gen rfl hco ?_
  rw [hb]
  refine wpAny_pure (wpAny_newFunctionEnv S.nocell (fun ⟨n, _⟩ hy => S.par n (List.of_mem_zip hy).1) (fun h₁ hns hsb => ⟨lim.fresh _ hsb, ?_⟩) S.kind)
  show codeAny _ _ (.expr body (envF F f s.heap.objs.size)) _ _
  have kp : ∀ b o, s.heap.get? b = some o → h₁.get? b = some o := fun b o e => hsb.extBut b o (Nat.ne_of_lt (Heap.lt_size e)) (Heap.get?_push_of_some _ e)
  have J : Inv (ncx CX P w K mg base N F f A outer s H E) [] (startF N vs ws) H { s with heap := h₁, toks := s.toks + (ps.zip us).length } := inv_startN S hr.hd e0 hl r C hns kp
  refine PySem.W.kla_codeExpr (wpAny_mono (hbody.run [] _ _ H Q J ht) (fun v s' hq => ?_) fun e s' hq => hq)
  obtain ⟨w', H', J', rv, q⟩ := hq
  exact ⟨w', H', J'.os, J'.bare, J'.base, J'.hok, rv, q⟩
theorem ints_det : ∀ {us : List Value} {ns ms : List Int}, IntsAre us ns → IntsAre us ms → ns = ms
  | _, _, _, .nil, .nil => rfl
  | _, _, _, .cons n t h, h2 => by
    cases h2 with
    | cons _ _ h' => rw [ints_det h h']
/-- the tuples' order -/
def ltK (key : Nat → Int × Int) (i j : Nat) : Bool := if (key i).1 = (key j).1 then decide ((key i).2 < (key j).2) else decide ((key i).1 < (key j).1)
theorem rc_pair {A : Around} {s : Shared} {l b : Addr} {its its2 : List Value} {x y x' y' : Int} (p1 : s.heap.IsTuple l its.toArray) (p2 : s.heap.IsTuple b its2.toArray) (i1 : IntsAre its [x, y]) (i2 : IntsAre its2 [x', y']) (hu : A.units < cLine) :
    Ob.RcOp .Lt A s (.ref l) (.ref b) (if x = x' then decide (y < y') else decide (x < x')) := by
  have e1 : its.toArray.size = 2 := by rw [List.size_toArray]; exact i1.length
  have e2 : its2.toArray.size = 2 := by rw [List.size_toArray]; exact i2.length
  have at1 : ∀ j (h1 : j < its.toArray.size), ∃ t, its.toArray[j] = .int (([x, y] : List Int).getD j 0) t := fun j h1 => PyProof.Rows.IntsAre.int_at i1 _ _ (by simp at h1; simp [h1])
  have at2 : ∀ j (h1 : j < its2.toArray.size), ∃ t, its2.toArray[j] = .int (([x', y'] : List Int).getD j 0) t := fun j h1 => PyProof.Rows.IntsAre.int_at i2 _ _ (by simp at h1; simp [h1])
  have R := Ob.RcOp.tuples_lt (A := A) (s := s) (e := fun j => decide (([x, y] : List Int).getD j 0 = ([x', y'] : List Int).getD j 0)) (r := fun j => decide (([x, y] : List Int).getD j 0 < ([x', y'] : List Int).getD j 0)) p1 p2 hu (fun j h1 h2 => by
    obtain ⟨t, et⟩ := at1 j h1
    obtain ⟨t', et'⟩ := at2 j h2
    rw [et, et']
    have z : (([x, y] : List Int).getD j 0 == ([x', y'] : List Int).getD j 0) = decide (([x, y] : List Int).getD j 0 = ([x', y'] : List Int).getD j 0) := by
      by_cases q : ([x, y] : List Int).getD j 0 = ([x', y'] : List Int).getD j 0
      · rw [decide_eq_true q]; exact beq_iff_eq.mpr q
      · rw [decide_eq_false q]; exact beq_eq_false_iff_ne.mpr q
    rw [← z]
    exact SeqAt.EqAt.int_int _ _ _ _) (fun j h1 h2 _ => by
    obtain ⟨t, et⟩ := at1 j h1
    obtain ⟨t', et'⟩ := at2 j h2
    rw [et, et']
    exact Ob.RcOp.lt_int _ _ _ _)
  rw [e1, e2] at R
  have z : Ob.lexAt (fun j => decide (([x, y] : List Int).getD j 0 = ([x', y'] : List Int).getD j 0)) (fun j => decide (([x, y] : List Int).getD j 0 < ([x', y'] : List Int).getD j 0)) (decide (2 < 2)) 0 (min 2 2) = (if x = x' then decide (y < y') else decide (x < x')) := by
    show (if decide (x = x') = true then (if decide (y = y') = true then decide (2 < 2) else decide (y < y')) else decide (x < x')) = _
    by_cases q : x = x'
    · rw [decide_eq_true q, if_pos rfl, if_pos q]
      by_cases q2 : y = y'
      · rw [decide_eq_true q2, if_pos rfl, q2]
        simp
      · rw [decide_eq_false q2, if_neg Bool.false_ne_true]
    · rw [decide_eq_false q, if_neg Bool.false_ne_true, if_neg q]
  rw [z] at R
  exact R
/-- over a list of whole numbers, the list's ints told, not their tokens -/
theorem walks_ints {prog : Program} {w : World} {A : Around} (hh : A.handled = none) (I l : Addr) (hne : l ≠ I) (ns : List Int) :
    WalksS prog w A I [I, l] [I] (fun a b => b = a) ns.length (fun i v => ∃ z t, ns[i]? = some z ∧ v = .int z t) (fun i s => s.heap.IsListIter I l i ∧ ∃ its : List Value, s.heap.IsList l its.toArray ∧ IntsAre its ns) where
  sub := fun b hb => by simp at hb; simp [hb]
  grefl := fun _ => rfl
  gtrans := fun _ _ _ h1 h2 => h2.trans h1
  frame := fun i s h' tk st _ hk => ⟨st.1.at fun o e => hk I (by simp) o e, by
    obtain ⟨its, h1, h2⟩ := st.2
    obtain ⟨o, e, r⟩ := h1
    exact ⟨its, ⟨o, hk l (by simp) o e, r⟩, h2⟩⟩
  item := fun i s Q E hi st hQ => by
    obtain ⟨hit, its, h1, h2⟩ := st
    have hsz : its.toArray.size = ns.length := by rw [List.size_toArray]; exact h2.length
    refine ((Walks.list (prog := prog) (w := w) hh I l hne its.toArray).toS).item i s Q E (by rw [hsz]; exact hi) ⟨hit, h1⟩ fun v s' hp st' hm => hQ v s' ?_ ⟨st'.1, its, st'.2, h2⟩ hm
    obtain ⟨t, e⟩ := PyProof.Rows.IntsAre.int_at h2 i v (by rw [← hp, List.getElem?_toArray])
    refine ⟨ns[i], t, List.getElem?_eq_getElem hi, ?_⟩
    rw [e, List.getD_eq_getElem?_getD, List.getElem?_eq_getElem hi]
    rfl
  done := fun s Q E st hQ => by
    obtain ⟨hit, its, h1, h2⟩ := st
    have hsz : its.toArray.size = ns.length := by rw [List.size_toArray]; exact h2.length
    exact ((Walks.list (prog := prog) (w := w) hh I l hne its.toArray).toS).done s Q E ⟨by rw [hsz]; exact hit, h1⟩ hQ
  self := fun i s Q E st hQ => by
    obtain ⟨hit, its, h1, h2⟩ := st
    exact ((Walks.list (prog := prog) (w := w) hh I l hne its.toArray).toS).self i s Q E ⟨hit, h1⟩ hQ
def tMinLam (T : List (Addr × Str)) (N : List Str) (js : List Nat) (te tb : TE) : TE := fun σ H Q => te σ H fun x H1 => ∃ (l : Addr) (ns : List Int) (key : Nat → Int × Int), x = .ref l ∧ H1 l = some (.lst (ns.map V.int)) ∧ 0 < ns.length ∧ Tabs T H1 ∧
  ∀ H2 : Hp, ExtN H1 H2 → Tabs T H2 →
    (∀ (j : Nat) (z : Int) (H' : Hp) (Q' : VK), ns[j]? = some z → Same H2 H' → (∀ t, H' t = none → Q' (.ref t) (upd H' t (.tup [.int (key j).1, .int (key j).2]))) → tb (startF N [.int z] (js.map (slotAt σ))) H' Q') ∧
    (∀ (H3 : Hp) (z : Int), Same H2 H3 → ns[argBest (ltK key) (ns.length - 1)]? = some z → Q (.int z) H3)
section
variable {X : Cx}
theorem pe_minLam {T : List (Addr × Str)} {c P : Addr} {N fr : List Str} {js : List Nat} {a : Str} {params : Arguments} {body : Expr} {scope : Scope} {lpos p pos kpos : Pos} {e : Expr} {te tb : TE} {k : Nat} (hg : Gl X "min") (hm : X.mg "min" = none) (he : PE X e te)
    (TB : TabB X.base X.mg c P) (hcode : X.env.code = .ref c) (hmT : (P, X.env.qual ++ "<lambda>") ∈ T) (hu : ∀ p ∈ T, p.1 = P → p.2 = X.env.qual ++ "<lambda>") (hdef : defaultsOf params X.env = ([], []))
    (S : NScope N [a] fr scope) (hfree : ∀ y ∈ scope.names, y.2 = .free → X.env.scope.names.lookup y.1 = some .cell ∨ X.env.scope.names.lookup y.1 = some .free) (hfr : ∀ y ∈ fr, (y, NameKind.free) ∈ scope.names) (hjs : js.map (fun j => X.N[j]?) = fr.map some)
    (hbind : ∀ (q : Str) (cl : List (Str × Addr)) (pm cv ctv u : Value), bindArgs (PySem.W.kla_fn "<lambda>" q params body scope cl pm cv ctv) ⟨[u], []⟩ = pure [(a, u)]) (hr : Room (k + 2) X.A)
    (hbody : ∀ (A : Around) (outer : List Env) (s : Shared) (H : Hp) (f c' : Addr), Room k (A.deeper (envF ⟨"<lambda>", X.env.qual ++ "<lambda>", params, [], scope, cloFrom X.env.cells scope.names [], c'⟩ f s.heap.objs.size)) →
      PE (ncx CX0 X.prog X.w X.K X.mg X.base N ⟨"<lambda>", X.env.qual ++ "<lambda>", params, [], scope, cloFrom X.env.cells scope.names [], c'⟩ f A outer s H E0) body tb) (hc : X.calm = true := by rfl)
    (hst : starEach [e] X.env = (false, eval e X.env) :: starEach [] X.env := by rfl)
    (he' : backTo pos (starEach [e] X.env) = (false, eval e X.env) :: backTo pos (starEach [] X.env) := by rfl) (hpl : (backTo pos (starEach [e] X.env)).any (·.1) = false := by rfl)
    (hall : (backToKw pos (keywordEach [⟨some "key", .Lambda params body scope lpos, kpos⟩] X.env)).all (·.1.isSome) = true := by rfl) (hnone : (backToKw pos (keywordEach [⟨some "key", .Lambda params body scope lpos, kpos⟩] X.env)).any (·.1.isNone) = false := by rfl) :
    PE X (.Call (.Name "min" p) [e] [⟨some "key", .Lambda params body scope lpos, kpos⟩] pos) (tMinLam T N js te tb) := by
  refine ⟨fun pins s σ H Q I h => ?_⟩
  refine wpAny_Call_Name_kw (ld_blt I hg hm boot_min ?_ (by decide) (by decide))
  refine PyProof.Rows.callWith_kw (thn ((pa_cons he pa_nil hst).run pos pins s σ H (fun vs H1 => match vs with
    | [x] => ∃ (l : Addr) (ns : List Int) (key : Nat → Int × Int), x = .ref l ∧ H1 l = some (.lst (ns.map V.int)) ∧ 0 < ns.length ∧ Tabs T H1 ∧
      ∀ H2 : Hp, ExtN H1 H2 → Tabs T H2 →
        (∀ (j : Nat) (z : Int) (H' : Hp) (Q' : VK), ns[j]? = some z → Same H2 H' → (∀ t, H' t = none → Q' (.ref t) (upd H' t (.tup [.int (key j).1, .int (key j).2]))) → tb (startF N [.int z] (js.map (slotAt σ))) H' Q') ∧
        (∀ (H3 : Hp) (z : Int), Same H2 H3 → ns[argBest (ltK key) (ns.length - 1)]? = some z → Q (.int z) H3)
    | _ => False) I h) fun us s1 ⟨vs, H1, I1, r1, q1⟩ => ?_) he' hpl hall hnone
  match vs, r1, q1 with
  | [x], r1, q1 =>
    obtain ⟨l, ns, key, rfl, hl, hpos, hT, q⟩ := q1
    have eu := Vals.ref1 r1
    subst eu
    have hfree2 : ∀ y ∈ scope.names, y.2 = .free → ∃ c, X.env.cells.lookup y.1 = some c := fun y hy e => (hfree y hy e).elim (fun z => I1.ok.has _ (.inl z)) fun z => I1.ok.has _ (.inr z)
    show wpAny _ _ (evalAll ((do let v ← eval (.Lambda params body scope lpos) X.env; standAt pos; pure v) :: [])) _ _ s1
    refine wpAny_evalAll_cons (wpAny_bind (lam_make2 I1 TB hcode hmT hu hT hdef hfree2 fun f c' pm ctv H2 s2 I2 eN T2 hf hfn hfs hco => wpAny_bind (wpAny_standAt (wpAny_pure (wpAny_evalAll_nil ?_)))))
    show wpAny _ _ (call (.builtin "min") [.ref l] [(Str.ofString "key", .ref f)]) _ _ s2
    obtain ⟨hkey, hend⟩ := q H2 eN T2
    have hl2 : H2 l = some (.lst (ns.map V.int)) := eN _ _ hl (fun ps z => by cases z)
    obtain ⟨its, rv, pl, hz⟩ := I2.list (SqL.of hl2)
    have hints : IntsAre its ns := rv.ints
    have caps : Caps X (cloFrom X.env.cells scope.names []) fr js := Caps.made I2.ok hfree hfr hjs
    refine call_min_walkK ?_
    refine iter_any pl.isList fun s3 e3 st hne => ?_
    have hszI : s3.heap.objs.size = s2.heap.objs.size + 1 := by
      rw [e3]
      exact Heap.size_push ..
    have flt : f < s2.heap.objs.size := Heap.lt_size hf
    have nofrs : ∀ b, s2.heap.objs.size ≤ b → b ∉ frs X.stack := fun b hb z => by
      rcases List.mem_cons.mp (I2.stkSub b z) with e | e
      · have h1 := I2.lt
        rw [← e] at h1
        exact Nat.lt_irrefl _ (Nat.lt_of_lt_of_le h1 hb)
      · exact I2.nofs hb e
    have hS2 : H2 s3.heap.objs.size = none := I2.hok.fresh (by omega)
    have hI2 : H2 s2.heap.objs.size = none := I2.hok.fresh (Nat.le_refl _)
    have I3 : Inv X pins σ H2 s3 := by
      rw [e3]
      exact I2.kept (t' := s2.toks) fun b o e => Heap.get?_push_of_some _ e
    have hf3 : s3.heap.get? f = some (PySem.W.kla_obj "<lambda>" (X.env.qual ++ "<lambda>") params body scope (cloFrom X.env.cells scope.names []) pm c' ctv) := by
      rw [e3]
      exact Heap.get?_push_of_some _ hf
    have fpS : ∀ H' : Hp, H' s3.heap.objs.size = none → FpOk X pins H' s3.heap.objs.size := fun H' h => I2.fpOk (by omega) h
    have fpI : ∀ H' : Hp, H' s2.heap.objs.size = none → FpOk X pins H' s2.heap.objs.size := fun H' h => I2.fpOk (Nat.le_refl _) h
    refine ⟨s2.heap.objs.size, [s2.heap.objs.size, l], [s2.heap.objs.size], fun a b => b = a, ns.length, fun i v => ∃ z t, ns[i]? = some z ∧ v = Value.int z t, fun i s => s.heap.IsListIter s2.heap.objs.size l i ∧ ∃ its : List Value, s.heap.IsList l its.toArray ∧ IntsAre its ns,
      fun s' => ∃ H' : Hp, Inv X pins σ H' s' ∧ (∀ b, H' b = H2 b ∨ (H2 b = none ∧ ∃ x y : Int, H' b = some (.tup [.int x, .int y]))) ∧ s'.heap.get? f = some (PySem.W.kla_obj "<lambda>" (X.env.qual ++ "<lambda>") params body scope (cloFrom X.env.cells scope.names []) pm c' ctv) ∧ H' f = none ∧ H' s3.heap.objs.size = none ∧ H' s2.heap.objs.size = none,
      fun i kv s' => ∃ (t : Addr) (its' : List Value), kv = .ref t ∧ t ≠ s3.heap.objs.size ∧ t ≠ s2.heap.objs.size ∧ H2 t = none ∧ t ∉ frs X.stack ∧ s'.heap.IsTuple t its'.toArray ∧ IntsAre its' [(key i).1, (key i).2],
      ltK key, rfl, walks_ints (A := X.A.in1) (show X.A.in1.handled = none from I2.ok.hd hc) _ l hne ns, ⟨st.1, its, st.2, hints⟩, ?_, hpos, ?_, ⟨H2, I3, fun b => .inl rfl, hf3, hfn, hS2, hI2⟩, ?_⟩
    · intro b hb
      have hlt : l < s2.heap.objs.size := I2.hok.lt hl2
      rcases List.mem_cons.mp hb with rfl | hb
      · rw [hszI]
        exact Nat.lt_succ_self _
      · rw [List.mem_singleton.mp hb, hszI]
        exact Nat.lt_succ_of_lt hlt
    · have hcu : X.A.in1.in1.units < cLine := by
        have := hr.un
        show X.A.units + 1 + 1 < _
        omega
      refine ⟨?_, ?_, ?_, ?_⟩
      · -- keep
        rintro s4 s5 ⟨H', I', hx, hf', hfn', hS', hI'⟩ hm
        have hm' := hm
        obtain ⟨m1, m2, m3, m4, m5⟩ := hm
        refine ⟨H', ?_, hx, m1 f _ (fun z => (List.mem_cons.mp z).elim (fun e => Nat.ne_of_lt (Nat.lt_succ_of_lt flt) (e.trans hszI)) fun e => Nat.ne_of_lt flt (List.mem_singleton.mp e)) hf', hfn', hS', hI'⟩
        have J := I'.turnedL (h' := s5.heap) (t' := s5.toks) (ch := [s3.heap.objs.size, s2.heap.objs.size]) m1 (fun b hb => by
          rcases List.mem_cons.mp hb with rfl | hb
          · exact fpS H' hS'
          · rw [List.mem_singleton.mp hb]
            exact fpI H' hI')
        obtain ⟨h5, g5, d5, t5, o5⟩ := s5
        have eg : g5 = s4.gens := m2
        have ed : d5 = s4.drawn := m3
        have eo : o5 = s4.os := m4
        subst eg ed eo
        exact J
      · -- keepV
        rintro i kv s4 s5 ⟨t, its', rfl, n1, n2, n3, n4, ht, hi⟩ hm
        exact ⟨t, its', rfl, n1, n2, n3, n4, ht.at fun o e => hm.heap t o (by simp [n1, n2]) e, hi⟩
      · -- turn
        rintro i v s4 oS Q4 E4 hi ⟨z, tz, hz, rfl⟩ ⟨H', I', hx, hf', hfn', hS', hI'⟩ hst4 hSo hk
        have hsame : Same H2 H' := fun b o e => by
          rcases hx b with q | ⟨q, _⟩
          · rw [q]
            exact e
          · rw [q] at e
            cases e
        have hco' : H' c' = some (CodeO c' (X.env.qual ++ "<lambda>")) := hsame _ _ hco
        have C : CellsAt (cloFrom X.env.cells scope.names []) fr (js.map (slotAt σ)) s4.heap H' := cells_of I' caps
        refine wpAny_call (codeAny_mono (lam_run (CX := CX0) (F := ⟨"<lambda>", X.env.qual ++ "<lambda>", params, [], scope, cloFrom X.env.cells scope.names [], c'⟩) (A := X.A.in1) (k := k) (N := N) (ps := [a]) (fr := fr) (us := [.int z tz]) (vs := [.int z]) (E := E0)
          (Q := fun v H'' => ∃ t, v = .ref t ∧ H' t = none ∧ H'' = upd H' t (.tup [.int (key i).1, .int (key i).2])) hf' (codeO_at I'.hok hco') S (hbind _ _ _ _ _ _) hr.in1 I'.env0.in1 C rfl (.cons ⟨tz, rfl⟩ .nil) (hbody _ _ _ _ _ _ (hr.in1.deeper _)) (hkey i z H' _ hz hsame fun t ht => ⟨t, rfl, ht, rfl⟩)) fun r s5 hq => ?_)
        cases r with
        | error e => exact (show False from hq).elim
        | ok fl =>
          cases fl with
          | next => exact False.elim hq
          | brk => exact False.elim hq
          | cont => exact False.elim hq
          | ret u =>
            obtain ⟨v, H'', os, bare, un, hok, rv, t, rfl, ht, rfl⟩ := hq
            obtain rfl : u = Value.ref t := rv
            have I5 : Inv X pins σ (upd H' t (.tup [.int (key i).1, .int (key i).2])) s5 := I'.call' os un hok bare (ch := []) (fun b hb => absurd hb (by simp))
            -- what is there and isn't tracked is not the new tuple
            have ne_t : ∀ b o, s4.heap.get? b = some o → H' b = none → b ≠ t := fun b o e n z => by
              have := un.free b o e n (by simp)
              rw [z, upd_same] at this
              cases this
            obtain ⟨⟨oi, hoi, r1, r2⟩, its4, ⟨ol, hol, r3⟩, _⟩ := hst4
            have nS := ne_t _ _ hSo hS'
            have nI := ne_t _ _ hoi hI'
            have nF := ne_t _ _ hf' hfn'
            have hxt : H2 t = none := by
              rcases hx t with q | ⟨q, _⟩
              · rw [← q]
                exact ht
              · exact q
            have hl5 : (upd H' t (.tup [.int (key i).1, .int (key i).2])) l = some (.lst (ns.map V.int)) := by
              have e1 := hsame _ _ hl2
              rw [upd_ne (ne_of_none e1 ht)]
              exact e1
            obtain ⟨its5, rv5, pl5, _⟩ := I5.list (SqL.of hl5)
            refine hk (.ref t) s5 ⟨_, I5, fun b => ?_, un.keep f _ hf' hfn' hfs (by simp), by rw [upd_ne nF]; exact hfn', by rw [upd_ne nS]; exact hS', by rw [upd_ne nI]; exact hI'⟩
              ⟨⟨oi, un.keep _ _ hoi hI' (nofrs _ (Nat.le_refl _)) (by simp), r1, r2⟩, its5, pl5.isList, rv5.ints⟩ (un.keep _ _ hSo hS' (nofrs _ (by omega)) (by simp)) ?_ ?_
            · by_cases hb : b = t
              · subst hb
                exact .inr ⟨hxt, _, _, upd_same⟩
              · rw [upd_ne hb]
                exact hx b
            · obtain ⟨its6, r6, p6, _⟩ := I5.tuple (xs := [.int (key i).1, .int (key i).2]) (SqT.of upd_same)
              exact ⟨t, its6, rfl, nS.symm, nI.symm, hxt, fun hb => (by have := I5.stkFree t hb; rw [upd_same] at this; cases this), p6, Vals.ints (ns := [(key i).1, (key i).2]) r6⟩
            · rintro j kv ⟨t', its', rfl, n1, n2, n3, n4, htt, hii⟩
              refine ⟨t', ?_⟩
              obtain ⟨o', ho', hc', m', hd'⟩ := id htt
              rcases hx t' with q | ⟨_, x', y', q⟩
              · have hn' : H' t' = none := by rw [q]; exact n3
                exact ⟨its', rfl, n1, n2, n3, n4, htt.at fun o e => un.keep t' o e hn' n4 (by simp), hii⟩
              · have q5 := un.tups _ _ q
                obtain ⟨its0, r0, p0, _⟩ := I'.tuple (xs := [.int x', .int y']) (SqT.of q)
                obtain ⟨its6, r6, p6, _⟩ := I5.tuple (xs := [.int x', .int y']) (SqT.of q5)
                have e0 : its0.toArray = its'.toArray := by
                  obtain ⟨o0, ho0, _, m0, hd0⟩ := id p0
                  rw [ho'] at ho0
                  cases ho0
                  rw [hd'] at hd0
                  cases hd0
                  rfl
                have e1 : its0 = its' := by simpa using e0
                have i0 : IntsAre its0 [x', y'] := Vals.ints (ns := [x', y']) r0
                have i6 : IntsAre its6 [x', y'] := Vals.ints (ns := [x', y']) r6
                rw [e1] at i0
                have e2 : ([x', y'] : List Int) = [(key j).1, (key j).2] := ints_det i0 hii
                rw [e2] at i6
                exact ⟨its6, rfl, n1, n2, n3, n4, p6, i6⟩
      · -- cmp
        rintro i j ki kj s4 Q4 E4 _ ⟨t, its1, rfl, _, _, _, _, h1, i1⟩ ⟨t', its2, rfl, _, _, _, _, h2, i2⟩ hq
        refine rc_pair h1 h2 i1 i2 ?_ X.prog X.w E4 Q4 hq
        have := hr.un
        show X.A.units + 1 < _
        omega
    · rintro v s5 ⟨z, t, hz, rfl⟩ ⟨H', I', hx, _⟩
      exact ⟨.int z, H', I', ⟨t, rfl⟩, hend H' z (fun b o e => by
        rcases hx b with q | ⟨q, _⟩
        · rw [q]
          exact e
        · rw [q] at e
          cases e) hz⟩
end
end Bk
/-! order_by_deadline: min by a lambda; the code object's table grows. -/
namespace Bk
open PySem PySem.Spec PyProof.Rows L2 LamX
open PySem.W (Codec)
open Sr98 (Bakery)
/-- a def whose code object stands at c -/
structure FunC (K : PySem.W.Frag) (x qual : Str) (st : Stmt) (f : Addr) (fd : FuncData) (c : Addr) : Prop where
  ex : ∃ (oc : Value) (od : Option Addr) (kV doc pm : Value) (an : Option Addr) (ct : Value) (osl : Array (Option Value)),
    fd = PySem.W.fnOf x qual (defArgs st) (defBody st) (defScope st) .none kV doc pm an (.ref c) ct ∧ K.lookup f = some ⟨oc, od, .func fd, osl⟩ ∧ PySem.W.codeIn K (.ref c) qual = true
  kp : PySem.W.keepIn K (.ref f) = true
structure MFunC (K : PySem.W.Frag) (C : Addr) (m qual : Str) (st : Stmt) (c : Addr) : Prop where
  ex : ∃ f fd, FunC K m qual st f fd c ∧ Meth K C m f
/-- all that is no table of a code object, and is tracked, is as it was -/
theorem extN_upd {H H' : Hp} {a : Addr} {o : HO} (e : ExtN H H') (h : H a = none) : ExtN H (upd H' a o) := fun b u q n => by
  rw [upd_ne (ne_of_none q h)]
  exact e b u q n
theorem ExtN.same {H H1 H2 : Hp} (e : ExtN H H1) (s : Same H1 H2) : ExtN H H2 := fun b u q n => s _ _ (e b u q n)
/-- a list isn't the table, nor a code object -/
theorem tabs_upd {T : List (Addr × Str)} {H : Hp} {a : Addr} {xs : List V} {o : HO} (t : Tabs T H) (h : H a = some (.lst xs)) : Tabs T (upd H a o) := fun p hp => by
  obtain ⟨ps, h1, h2, h3⟩ := t p hp
  refine ⟨ps, by rw [upd_ne (ne_of h1 h (by intro z; cases z))]; exact h1, h2, fun pos cv hc => ?_⟩
  obtain ⟨c, e1, e2⟩ := h3 pos cv hc
  exact ⟨c, e1, by rw [upd_ne (ne_of e2 h (by unfold CodeO; intro z; cases z))]; exact e2⟩
theorem BakeAt.ext {CB : Addr} {H H' : Hp} {k wl : Addr} {was : List Addr} {b : Bakery} (B : BakeAt CB H k wl was b) (s : ExtN H H') : BakeAt CB H' k wl was b := by
  obtain ⟨dx, e⟩ := B.ins
  exact ⟨⟨dx, s _ _ e (fun _ z => by cases z)⟩, s _ _ B.lst (fun _ z => by cases z), B.len, fun j x hx => s _ _ (B.each j x hx) (fun _ z => by cases z), B.wf⟩
section
variable {P : Program} {w : World} {K : PySem.W.Frag} {mg : Str → Option Value} {base : Heap} {CB : Addr}
theorem FunC.fun {x qual : Str} {st : Stmt} {f c : Addr} {fd : FuncData} (F : FunC K x qual st f fd c) : Fun K x qual st f fd := by
  obtain ⟨oc, od, kV, doc, pm, an, ct, osl, e, lk, hcd⟩ := F.ex
  exact ⟨⟨oc, od, kV, doc, pm, an, _, ct, osl, e, lk, hcd⟩, F.kp⟩
theorem FunC.ok {x qual : Str} {st : Stmt} {f c : Addr} {fd : FuncData} {N ps : List Str} {k : Nat} {sp : Sp} (F : FunC K x qual st f fd c) (S : FnScope N ps (defScope st)) (len : ∀ vs H Q E, sp vs H Q E → vs.length = ps.length)
    (hbody : ∀ (A : Around) (outer : List Env) (s : Shared) (H : Hp) (vs : List V) (Q : VK) (E : XK), Room k (A.deeper (envOfC qual (defScope st) s.heap.objs.size f (.ref c))) → sp vs H Q E →
      ∃ t, PSs (cxOf CX0 P w K mg base N qual (defScope st) f (.ref c) A outer s H E).nox (defBody st) t ∧ t { nx := fun _ H' => Q .non H', rt := Q } (start N vs) H) : FnOk P w K mg base CX0 (k + 1) f fd ps sp := by
  obtain ⟨oc, od, kV, doc, pm, an, ct, osl, rfl, lk, hcd⟩ := F.ex
  refine fn_of lk hcd S len fun A outer s H vs Q E hr hsp => ?_
  obtain ⟨t, h, q⟩ := hbody A outer s H vs Q E hr hsp
  exact ⟨t, h.nox, q⟩
abbrev sDead : Stmt := inClass (top iBake) 11
def lamQ : Str := "Baking.order_by_deadline.<locals>.<lambda>"
def spDead (CB : Addr) (T : List (Addr × Str)) : Sp := fun vs H Q _ => ∃ (k wl : Addr) (was : List Addr) (b : Bakery), vs = [.ref k] ∧ BakeAt CB H k wl was b ∧ Tabs T H ∧ ∀ (H' : Hp) (l : Addr), ExtN H H' → Tabs T H' → H' l = some (.lst (vNat (Sr98.earliestDeadline b))) → Q (.ref l) H'
theorem scDead : FnScope ["self", "order", "present", "remaining", "begun", "chosen", "i"] ["self"] (defScope sDead) := ⟨rfl, rfl, rfl, by decide +kernel, rfl, by decide +kernel, by decide +kernel⟩
theorem best1_eq (bt : Nat → Nat → Bool) : ∀ k, best1 bt k = argBest bt k
  | 0 => rfl
  | k + 1 => by rw [best1, argBest, best1_eq bt k]
theorem lt_of_asc {l : List Nat} (h : l.Pairwise (· < ·)) {i j x y : Nat} (hx : l[i]? = some x) (hy : l[j]? = some y) (hji : j < i) : y < x := by
  obtain ⟨hi, rfl⟩ := List.getElem?_eq_some_iff.mp hx
  obtain ⟨hj, rfl⟩ := List.getElem?_eq_some_iff.mp hy
  exact List.pairwise_iff_getElem.mp h j i hj hi hji
/-- what min by (end, number) finds -/
theorem min_key {b : Bakery} {l : List Nat} (hl : l ≠ []) (asc : l.Pairwise (· < ·)) {z : Int} (h : (l.map fun (n : Nat) => (n : Int))[argBest (ltK fun j => (((wEnd b (l.getD j 0) : Nat) : Int), ((l.getD j 0 : Nat) : Int))) (l.length - 1)]? = some z) : z = ((Sr98.smallestBy (wEnd b) l : Nat) : Int) := by
  have e := smallest_best (wEnd b) l (ltK fun j => (((wEnd b (l.getD j 0) : Nat) : Int), ((l.getD j 0 : Nat) : Int))) (fun i j x y hx hy hji => by
    have h1 : l.getD i 0 = x := by rw [List.getD_eq_getElem?_getD, hx]; rfl
    have h2 : l.getD j 0 = y := by rw [List.getD_eq_getElem?_getD, hy]; rfl
    have h3 := lt_of_asc asc hx hy hji
    unfold ltK
    show (if ((wEnd b (l.getD i 0) : Nat) : Int) = ((wEnd b (l.getD j 0) : Nat) : Int) then decide (((l.getD i 0 : Nat) : Int) < ((l.getD j 0 : Nat) : Int)) else decide (((wEnd b (l.getD i 0) : Nat) : Int) < ((wEnd b (l.getD j 0) : Nat) : Int))) = _
    rw [h1, h2]
    by_cases q : wEnd b x = wEnd b y
    · rw [if_pos (by omega), decide_eq_false (by omega), decide_eq_false (by omega)]
    · rw [if_neg (by omega)]
      exact decide_eq_decide.mpr (by omega)) hl
  rw [best1_eq] at e
  rw [List.getElem?_map, e] at h
  exact (Option.some.inj h).symm
/-- where the loop stands -/
def DeadInv (CB : Addr) (T : List (Addr × Str)) (H : Hp) (k ol : Addr) (b : Bakery) (m : Nat) (σ : L2.St) (H' : Hp) : Prop := ∃ (t : Nat) (order rem : List Nat) (rl : Addr) (v4 v5 v6 : Option V), EdAt b m order rem t ∧ σ = [some (.ref k), some (.ref ol), some (.int (t : Nat)), some (.ref rl), v4, v5, v6] ∧ ExtN H H' ∧ Tabs T H' ∧
  H' ol = some (.lst (vNat order)) ∧ H' rl = some (.lst (vNat (wins b rem))) ∧ rl ≠ ol
theorem ok_dead {T : List (Addr × Str)} {c PT : Addr} (TBo : TB K mg CB) (F : MFunC K CB "order_by_deadline" "Baking.order_by_deadline" sDead c) (TBa : TabB base mg c PT) (hmT : (PT, lamQ) ∈ T) (hu : ∀ p ∈ T, p.1 = PT → p.2 = lamQ)
    (WI : MOk P w K mg base 2 CB "doughs_with_a_window" ["self"] (spWith CB)) (WO : MOk P w K mg base 2 CB "doughs_without_a_window" ["self"] (spWithout CB)) (BW : MOk P w K mg base 1 CB "begin_of_window" ["self", "i"] (spBeg CB)) (EW : MOk P w K mg base 1 CB "end_of_window" ["self", "i"] (spEndW CB)) :
    MOk P w K mg base 5 CB "order_by_deadline" ["self"] (spDead CB T) := by
  obtain ⟨f, fd, F, M⟩ := F.ex
  refine ⟨f, fd, F.ok scDead (fun vs H Q E h => ?_) (fun A outer s H vs Q E hr h => ?_), F.fun.binds fun _ _ _ _ _ _ us hl => match us, hl with | [_], _ => rfl, M⟩
  · obtain ⟨k, wl, was, b, rfl, _⟩ := h
    rfl
  · obtain ⟨k, wl, was, b, rfl, B, hTab, q⟩ := h
    obtain ⟨dx, hI⟩ := B.ins
    have h6 := B.wf.six
    have hr2 : Room 2 _ := hr.mono (by decide)
    have hr1 : Room 1 _ := hr.mono (by decide)
    have hr3 : Room 3 _ := hr.mono (by decide)
    refine ⟨_, pss_cons (ps_set (i := 1) scDead.nd rfl (Or.inl rfl) (pe_lst pa_nil))
      (pss_cons (ps_set (i := 2) scDead.nd rfl (Or.inr rfl) pe_int)
      (pss_cons (ps_set (i := 3) scDead.nd rfl (Or.inl rfl) (pe_m0 (pv 0) TBo.cl WI hr2))
      (pss_cons (ps_while PassesOwn.never (pt_cmpR op_gt (pe_callB call_len_seq (by rfl) TBo.len PySem.boot_len (pa_cons (pv 3) pa_nil)) pe_int (nomark _))
        (pss_cons (ps_setLc (i := 4) (own := [("i", 6)]) (g := gName 6) rfl scDead.nd rfl rfl (sw_true rfl rfl rfl (by decide +kernel)) (pi_list (pv 3))
          (blkOk_by (N := ["self", "order", "present", "remaining", "begun", "chosen", "i"]) (sc := defScope sDead) (by decide +kernel))
          (fun _ _ _ _ _ => pg_name (i := 6) scDead.nd rfl (Or.inl rfl)) (fun _ _ _ _ _ => pts_one (pt_cmpR op_le (pe_m (pv 0) TBo.cl BW hr1 (pa_cons (pv 6) pa_nil)) (pv 2) (nomark _))) (fun _ _ _ _ _ => pv 6))
        (pss_one (ps_if (pt_cmpR op_eq (pe_callB call_len_seq (by rfl) TBo.len PySem.boot_len (pa_cons (pv 4) pa_nil)) pe_int (nomark _))
          (pss_one (ps_set (i := 2) scDead.nd rfl (Or.inr rfl) (pe_callB (cr_min rfl) (by rfl) TBo.min (by decide +kernel) (pa_cons (pe_lc (own := [("i", 6)]) (g := gName 6) rfl scDead.nd (pi_list (pv 3))
            (blkOk_by (N := ["self", "order", "present", "remaining", "begun", "chosen", "i"]) (sc := defScope sDead) (by decide +kernel))
            (fun _ _ _ _ _ => pg_name (i := 6) scDead.nd rfl (Or.inl rfl)) (fun _ _ _ _ _ => pts_nil) (fun _ _ _ _ _ => pe_m (pv 0) TBo.cl BW hr1 (pa_cons (pv 6) pa_nil))) pa_nil))))
          (pss_cons (ps_set (i := 5) scDead.nd rfl (Or.inr rfl) (pe_minLam (T := T) (c := c) (P := PT) (N := ["i", "self"]) (fr := ["self"]) (js := [0]) (k := 1) (by rfl) TBo.min (pv 4) TBa rfl hmT hu rfl
              (NdefX.nscope_by (by decide +kernel)) (fun y hy he => (List.mem_cons.mp hy).elim (fun e => (by rw [e] at he; cases he)) fun hy => (by rw [List.mem_singleton.mp hy]; exact .inl (by rfl))) (by decide +kernel) rfl (fun _ _ _ _ _ _ => rfl) hr3
              (fun A outer s H f c' hr' => pe_tup (pa_cons (pe_m (pv 1) TBo.cl EW hr' (pa_cons (pv 0) pa_nil)) (pa_cons (pv 0) pa_nil)))))
          (pss_cons (ps_expr (pe_bm PySem.F.plainAttrs_list PySem.F.slot_list_append PySem.F.type_list_append mt_append (pv 1) (pa_cons (pv 5) pa_nil)))
          (pss_cons (ps_setLc (i := 3) (own := [("i", 6)]) (g := gName 6) rfl scDead.nd rfl rfl (sw_true rfl rfl rfl (by decide +kernel)) (pi_list (pv 3))
            (blkOk_by (N := ["self", "order", "present", "remaining", "begun", "chosen", "i"]) (sc := defScope sDead) (by decide +kernel))
            (fun _ _ _ _ _ => pg_name (i := 6) scDead.nd rfl (Or.inl rfl)) (fun _ _ _ _ _ => pts_one (pt_cmpR op_ne (pv 6) (pv 5) (nomark _))) (fun _ _ _ _ _ => pv 6))
          (pss_one (ps_aug (i := 2) scDead.nd rfl (.inr rfl) (pe_fld (pv 0) rfl) ip_add)))))))))
      (pss_one (ps_ret (pe_op op_cat (pv 1) (pe_m0 (pv 0) TBo.cl WO hr2))))))), ?_⟩
    refine ⟨Nat.zero_le _, fun ol hol => ?_⟩
    have s0 : Same H (upd H ol (.lst [])) := same_new hol
    refine ⟨_, rfl, k, dx, _, rfl, s0 _ _ hI, bF_no b wl (by decide +kernel) (by decide +kernel) (by decide +kernel), k, wl, was, b, rfl, B.same s0, fun H1 rl s1 hrl hrll => ?_⟩
    refine ⟨DeadInv CB T H k ol b, ⟨2 * b.doughs.length + 1, 0, [], Sr98.allDoughs b, rl, none, none, none, EdAt.start b, rfl, ExtN.of (s0.trans s1), (hTab.ext s0).ext s1, s1 _ _ upd_same, hrll, (ne_of_none upd_same hrl).symm⟩, ?_⟩
    rintro m σ H' ⟨t, order, rem, rl, v4, v5, v6, Ed, rfl, eN, hT, hol', hrl', nro⟩
    have hk' : H' k = some (.ins CB dx (bF b wl)) := eN _ _ hI (fun _ z => by cases z)
    have B' := B.ext eN
    have hp9 := B.wf.p9
    have h36 := B.wf.h36
    have hsum := Ed.sum
    have hwl : (wins b rem).length ≤ 6 := by
      have := split_len b rem
      omega
    have hol6 : order.length ≤ 6 := by omega
    have hno {m : Str} (h1 : (m == ("windows" : Str)) = false) (h2 : (m == ("hours" : Str)) = false) (h3 : (m == ("baking_time" : Str)) = false) : (bF b wl).lookup m = none := bF_no b wl h1 h2 h3
    have wlt : ∀ i ∈ wins b rem, i < b.doughs.length ∧ hasWin b i = true := fun i hi => ⟨Ed.lt i (List.mem_filter.mp hi).1, (List.mem_filter.mp hi).2⟩
    refine ⟨_, rfl, rl, _, rfl, .inl (SqL.of hrl'), _, _, rfl, rfl, _, rfl, ?_⟩
    rw [vNat_len]
    by_cases h0 : wins b rem = []
    · rw [h0]
      refine iteF ⟨_, rfl, _, rfl, k, dx, _, rfl, hk', hno (by decide +kernel) (by decide +kernel) (by decide +kernel), k, wl, was, b, rfl, B', fun H2 nl s2 hnl hnll => ?_⟩
      refine ⟨ol, nl, _, _, rfl, rfl, s2 _ _ hol', hnll, ?_, fun p hp => ?_⟩
      · rw [vNat_len, vNat_len]
        have h2 := split_len b (Sr98.allDoughs b)
        rw [all_len] at h2
        exact small16 (by omega)
      · refine q _ p (ExtN.same (ExtN.same eN s2) (same_new hp)) ((hT.ext s2).ext (same_new hp)) ?_
        rw [upd_same, Ed.last h6 h0, vNat_app]
    · have hpos : 0 < (wins b rem).length := List.length_pos_iff.mpr h0
      rw [decide_eq_true (show (0 : Int) < ((wins b rem).length : Nat) by omega)]
      refine iteT ⟨fun σ' H2 => ∃ m', m' < m ∧ DeadInv CB T H k ol b m' σ' H2, fun _ _ h => h, ?_⟩
      refine ⟨_, rfl, rl, rfl, ⟨_, SqL.of hrl'⟩, fun L hL => ?_⟩
      refine lc_filt (inj := fun (n : Nat) => V.int (n : Int)) (wins b rem) (fun i => decide (wBeg b i ≤ t)) (fun (n : Nat) => V.int (n : Int)) (SqL.of hrl') hL (small1000 (by omega)) ?_ ?_
      · intro i H2 Z Z' hi s2 z z'
        obtain ⟨hil, hiw⟩ := wlt i hi
        refine ⟨rfl, _, rfl, k, dx, _, rfl, s2 _ _ hk', hno (by decide +kernel) (by decide +kernel) (by decide +kernel), _, rfl, k, wl, was, b, i, rfl, B'.same s2, hil, hiw, _, rfl, _, _, rfl, rfl, _, rfl, ?_⟩
        by_cases hbt : wBeg b i ≤ t
        · rw [decide_eq_true (Int.ofNat_le.mpr hbt)]
          exact iteT ⟨_, rfl, z (decide_eq_true hbt)⟩
        · rw [decide_eq_false (fun e => hbt (Int.ofNat_le.mp e))]
          exact iteF (z' (decide_eq_false hbt))
      · intro H2 s2 hL2
        have hL2' : H2 L = some (.lst (vNat (begun b (wins b rem) t))) := hL2
        have hk2 := s2 _ _ hk'
        have hrl2 := s2 _ _ hrl'
        have hol2 := s2 _ _ hol'
        have B2 := B'.same s2
        have eN2 := ExtN.same eN s2
        have hT2 := hT.ext s2
        refine ⟨_, rfl, L, _, rfl, .inl (SqL.of hL2'), rfl, _, rfl, ?_⟩
        rw [vNat_len]
        by_cases hb : begun b (wins b rem) t = []
        · rw [hb]
          refine iteT ⟨_, rfl, rl, rfl, ⟨_, SqL.of hrl2⟩, fun L3 hL3 => ?_⟩
          refine lc_filt (inj := fun (n : Nat) => V.int (n : Int)) (wins b rem) (fun _ => true) (fun (n : Nat) => V.int (wBeg b n : Nat)) (SqL.of hrl2) hL3 (small1000 (by omega)) ?_ ?_
          · intro i H3 Z Z' hi s3 z z'
            obtain ⟨hil, hiw⟩ := wlt i hi
            refine ⟨rfl, ?_⟩
            unfold tYes
            exact iteT ⟨_, rfl, k, dx, _, rfl, s3 _ _ hk2, hno (by decide +kernel) (by decide +kernel) (by decide +kernel), _, rfl, k, wl, was, b, i, rfl, B2.same s3, hil, hiw, z rfl⟩
          · intro H3 s3 hl3
            rw [List.filter_eq_self.mpr (fun _ _ => rfl)] at hl3
            refine ⟨L3, (wins b rem).map (fun i => ((wBeg b i : Nat) : Int)), rfl, ?_, by rw [List.length_map]; exact hpos, fun mm hmem hle => ?_⟩
            · rw [List.map_map]
              exact SqL.of hl3
            · obtain ⟨i, hi, rfl⟩ := List.mem_map.mp hmem
              obtain ⟨hm0, Ed2⟩ := Ed.jump h36 h6 h0 hb (m := wBeg b i) (List.mem_map.mpr ⟨i, hi, rfl⟩) (fun y hy => by
                obtain ⟨i2, hi2, rfl⟩ := List.mem_map.mp hy
                have := hle _ (List.mem_map.mpr ⟨i2, hi2, rfl⟩)
                omega)
              exact ⟨m - 1, by omega, wBeg b i, order, rem, rl, _, _, _, Ed2, rfl, ExtN.same eN2 s3, hT2.ext s3, s3 _ _ hol2, s3 _ _ hrl2, nro⟩
        · have hbp : 0 < (begun b (wins b rem) t).length := List.length_pos_iff.mpr hb
          rw [decide_eq_false (fun e => by have e2 : (((begun b (wins b rem) t).length : Nat) : Int) = 0 := V.int.inj e; omega)]
          have bsub : ∀ i ∈ begun b (wins b rem) t, i < b.doughs.length ∧ hasWin b i = true := fun i hi => wlt i (List.mem_filter.mp hi).1
          have basc : (begun b (wins b rem) t).Pairwise (· < ·) := (Ed.asc.filter _).filter _
          obtain ⟨hm0, hch, Ed2⟩ := Ed.pick hp9 h6 hb
          refine iteF ⟨_, rfl, L, (begun b (wins b rem) t).map (fun (n : Nat) => (n : Int)), fun j => (((wEnd b ((begun b (wins b rem) t).getD j 0) : Nat) : Int), (((begun b (wins b rem) t).getD j 0 : Nat) : Int)), rfl, ?_, by rw [List.length_map]; exact hbp, hT2, fun H3 eN3 hT3 => ⟨?_, ?_⟩⟩
          · rw [hL2', List.map_map]
            rfl
          · intro j z H4 Q4 hz s4 k4
            rw [List.getElem?_map] at hz
            obtain ⟨i, hi, rfl⟩ : ∃ i, (begun b (wins b rem) t)[j]? = some i ∧ z = ((i : Nat) : Int) := by
              cases e : (begun b (wins b rem) t)[j]? with
              | none =>
                rw [e] at hz
                cases hz
              | some i =>
                rw [e] at hz
                exact ⟨i, rfl, (Option.some.inj hz).symm⟩
            have eg : (begun b (wins b rem) t).getD j 0 = i := by
              rw [List.getD_eq_getElem?_getD, hi]
              rfl
            obtain ⟨hil, hiw⟩ := bsub i (List.mem_of_getElem? hi)
            have B4 := (B2.ext eN3).same s4
            have hk4 : H4 k = some (.ins CB dx (bF b wl)) := s4 _ _ (eN3 _ _ hk2 (fun _ z => by cases z))
            simp only [eg] at k4
            exact ⟨_, rfl, k, dx, _, rfl, hk4, hno (by decide +kernel) (by decide +kernel) (by decide +kernel), _, rfl, k, wl, was, b, i, rfl, B4, hil, hiw, _, rfl, (by show 2 ≤ sizeLine; decide), k4⟩
          · intro H4 z s4 hz
            rw [List.length_map] at hz
            have ez := min_key hb basc hz
            subst ez
            generalize Sr98.smallestBy (wEnd b) (begun b (wins b rem) t) = ch at hch Ed2
            have hol4 : H4 ol = some (.lst (vNat order)) := s4 _ _ (eN3 _ _ hol2 (fun _ z => by cases z))
            have hrl4 : H4 rl = some (.lst (vNat (wins b rem))) := s4 _ _ (eN3 _ _ hrl2 (fun _ z => by cases z))
            have eN4 : ExtN H H4 := ExtN.same (eN2.trans eN3) s4
            have hT4 := hT3.ext s4
            refine ⟨_, rfl, .inl ⟨rfl, _, SqL.of hol4⟩, _, rfl, ol, _, _, rfl, rfl, hol4, by rw [vNat_len]; exact small1000 (by omega), ?_⟩
            have kol : ∀ y u, H4 y = some u → y ≠ ol → (upd H4 ol (.lst (vNat order ++ [.int (ch : Nat)]))) y = some u := fun y u e n => by
              rw [upd_ne n]
              exact e
            have hrl5 := kol _ _ hrl4 nro
            refine ⟨_, rfl, rl, rfl, ⟨_, SqL.of hrl5⟩, fun L6 hL6 => ?_⟩
            refine lc_filt (inj := fun (n : Nat) => V.int (n : Int)) (wins b rem) (fun i => i != ch) (fun (n : Nat) => V.int (n : Int)) (SqL.of hrl5) hL6 (small1000 (by omega)) ?_ ?_
            · intro i H6 Z Z' hi s6 z z'
              refine ⟨rfl, _, rfl, _, rfl, rfl, _, rfl, ?_⟩
              by_cases hic : i = ch
              · subst hic
                rw [decide_eq_true rfl]
                exact iteF (z' (by simp))
              · rw [decide_eq_false (fun e => hic (by have e2 : ((i : Nat) : Int) = (ch : Nat) := V.int.inj e; omega))]
                exact iteT ⟨_, rfl, z (by simp [hic])⟩
            · intro H6 s6 hl6
              have hk6 : H6 k = some (.ins CB dx (bF b wl)) := s6 _ _ (kol _ _ (s4 _ _ (eN3 _ _ hk2 (fun _ z => by cases z))) (ne_of hk2 hol2 (by intro z; cases z)))
              have hol6' : H6 ol = some (.lst (vNat (order ++ [ch]))) := by
                rw [s6 _ _ upd_same, vNat_app]
                rfl
              have eN6 : ExtN H H6 := ExtN.same (extN_upd eN4 hol) s6
              have hT6 : Tabs T H6 := (tabs_upd hT4 hol4).ext s6
              refine ⟨_, rfl, _, rfl, k, CB, dx, _, _, rfl, hk6, TBo.cl, TBo.nB, bF_bake b wl, _, _, rfl, rfl, ?_⟩
              refine ⟨m - 1, by omega, t + b.bakingTime, order ++ [ch], rem.filter (fun j => j != ch), L6, _, _, _, Ed2, rfl, eN6, hT6, hol6', ?_, (ne_of_none upd_same hL6).symm⟩
              rw [hl6, wins_drop]
              rfl
end
end Bk
namespace Bk
open PySem PySem.Spec PyProof.Rows L2 LamX
open PySem.W (Codec)
open Sr98 (Bakery)
/-- not there, but for a table of a code object -/
def NewN (H : Hp) (p : Addr) : Prop := ∀ o, H p = some o → ∃ ps, o = .tbl ps
theorem NewN.of {H : Hp} {p : Addr} (h : H p = none) : NewN H p := fun o e => by
  rw [h] at e
  cases e
theorem NewN.ext {H H1 : Hp} {p : Addr} (e : ExtN H H1) (h : H1 p = none) : NewN H p := fun o q => by
  refine Classical.byContradiction fun n => ?_
  have := e p o q (fun ps z => n ⟨ps, z⟩)
  rw [h] at this
  cases this
theorem NewN.ne {H : Hp} {p a : Addr} {o : HO} (n : NewN H p) (h : H a = some o) (ho : ∀ ps, o ≠ .tbl ps) : a ≠ p := fun e => by
  rw [e] at h
  obtain ⟨ps, z⟩ := n o h
  exact ho ps z
/-- behind a call that only asks, the table of a code object maybe grown -/
def DoneQ (T : List (Addr × Str)) (H : Hp) (b : Bakery) (c : Sr98.Call) (Q : VK) : Prop := ∀ (H' : Hp) (p : Addr), ExtN H H' → Tabs T H' → H' p = some (.lst (vInt (ans b c))) → NewN H p → Q (.ref p) H'
theorem DoneQ.toS {T : List (Addr × Str)} {H : Hp} {b : Bakery} {c : Sr98.Call} {Q : VK} (D : DoneQ T H b c Q) (t : Tabs T H) : DoneS H b c Q := fun H' p s hp hn => D H' p (ExtN.of s) (t.ext s) hp (.of hn)
section
variable {P : Program} {w : World} {K : PySem.W.Frag} {mg : Str → Option Value} {base : Heap} {CS CD CB : Addr}
abbrev sEarlD : Stmt := inClass (top iSched) 19
def spEarlD (CS CD : Addr) (T : List (Addr × Str)) : Sp := fun vs H Q _ => ∃ (s t l : Addr) (as : List (Addr × Addr)) (b : Bakery), vs = [.ref s] ∧ SchedAt CS CD H s t l as b ∧ Tabs T H ∧ DoneQ T H b .earliestDeadline Q
theorem scEarlD : FnScope ["self", "baking", "order"] ["self"] (defScope sEarlD) := ⟨rfl, rfl, rfl, by decide +kernel, rfl, by decide +kernel, by decide +kernel⟩
theorem ok_earlD {T : List (Addr × Str)} (TS : TS' K mg CS) (TBo : TB K mg CB) (F : MFun K CS "earliest_deadline" "Schedule.earliest_deadline" sEarlD) (BO : MOk P w K mg base 4 CS "baking_of" ["self", "doughs"] (spBakeOf CS CD CB))
    (DE : MOk P w K mg base 5 CB "order_by_deadline" ["self"] (spDead CB T)) (TO : MOk P w K mg base 3 CB "times_of_order" ["self", "order"] (spTimesO CB)) : MOk P w K mg base 6 CS "earliest_deadline" ["self"] (spEarlD CS CD T) := by
  obtain ⟨f, fd, F, M⟩ := F.ex
  refine ⟨f, fd, F.ok scEarlD (fun vs H Q E h => ?_) (fun cdv A outer s H vs Q E hr h => ?_), F.binds fun _ _ _ _ _ _ us hl => match us, hl with | [_], _ => rfl, M⟩
  · obtain ⟨s, t, l, as, b, rfl, _⟩ := h
    rfl
  · obtain ⟨s, t, l, as, b, rfl, S, hT, D⟩ := h
    obtain ⟨dx, hI⟩ := S.ins
    have hr4 : Room 4 _ := hr.mono (by decide)
    have hr3 : Room 3 _ := hr.mono (by decide)
    have h6 := S.wf.six
    refine ⟨_, pss_cons (ps_set (i := 1) scEarlD.nd rfl (Or.inl rfl) (pe_m (pv 0) TS.cl BO hr4 (pa_cons (pe_fld (pv 0) rfl) pa_nil)))
      (pss_cons (ps_set (i := 2) scEarlD.nd rfl (Or.inl rfl) (pe_m0 (pv 1) TBo.cl DE hr))
      (pss_cons (ps_if (pt_cmpR op_isN (pe_m (pv 1) TBo.cl TO hr3 (pa_cons (pv 2) pa_nil)) pe_non (nomark _)) (pss_one (ps_ret (pe_op op_cat (pe_lst (pa_cons pe_int pa_nil)) (pv 2)))) pss_nil)
      (pss_one (ps_ret (pe_op op_cat (pe_lst (pa_cons pe_int pa_nil)) (pv 2)))))), ?_⟩
    refine ⟨_, rfl, s, dx, _, rfl, hI, sF_no b t l (by decide +kernel) (by decide +kernel) (by decide +kernel) (by decide +kernel), _, rfl, s, CS, dx, _, _, rfl, hI, TS.cl, TS.nD, sF_doughs b t l,
      s, t, l, l, dx, as, b, b, rfl, hI, S.tmp, S.listAt, rfl, rfl, S.wf, fun H1 k wl was s1 B => ?_⟩
    obtain ⟨dk, hk⟩ := B.ins
    refine ⟨_, rfl, k, dk, _, rfl, hk, bF_no b wl (by decide +kernel) (by decide +kernel) (by decide +kernel), k, wl, was, b, rfl, B, hT.ext s1, fun H2 ol e2 T2 hol => ?_⟩
    have B2 := B.ext e2
    obtain ⟨dk2, hk2⟩ := B2.ins
    obtain ⟨hlt, hll⟩ := ed_ok b
    have eN2 : ExtN H H2 := (ExtN.of s1).trans e2
    refine ⟨_, rfl, k, dk2, _, rfl, hk2, bF_no b wl (by decide +kernel) (by decide +kernel) (by decide +kernel), _, rfl, k, wl, ol, was, b, _, rfl, B2, hol, hlt, by omega, fun H3 v s3 hv _ => ?_⟩
    have hol3 := s3 _ _ hol
    have eN3 := ExtN.same eN2 s3
    have T3 := T2.ext s3
    have ep : Sr98.perform b .earliestDeadline = (none, ⟨SrCommon.boolToInt (Sr98.startTimes b (Sr98.earliestDeadline b)).isSome, SrCommon.natsToInts (Sr98.earliestDeadline b)⟩) := rfl
    have fin : ∀ z : Int, SrCommon.boolToInt (Sr98.startTimes b (Sr98.earliestDeadline b)).isSome = z → 1 ≤ sizeLine ∧ ∀ q2, H3 q2 = none → ∃ y, some (V.ref ol) = some y ∧ rCat (.ref q2) y (upd H3 q2 (.lst [.int z])) Q := fun z ez => ⟨by decide, fun q2 hq2 => by
      have n2 : ol ≠ q2 := ne_of_none hol3 hq2
      refine ⟨_, rfl, q2, ol, _, _, rfl, rfl, upd_same, by rw [upd_ne n2]; exact hol3, by rw [vNat_len]; exact small16 (by show 1 + (Sr98.earliestDeadline b).length ≤ 16; omega), fun p hp => ?_⟩
      have s4 : Same H3 (upd (upd H3 q2 (.lst [.int z])) p (.lst ([.int z] ++ vNat (Sr98.earliestDeadline b)))) := (same_new hq2).trans (same_new hp)
      refine D _ p (ExtN.same eN3 s4) (T3.ext s4) ?_ (.ext (ExtN.same eN3 (same_new hq2)) hp)
      rw [upd_same]
      unfold ans
      rw [ep, ez, vNat_vInt]
      rfl⟩
    cases hT3 : Sr98.startTimesFrom b (Sr98.earliestDeadline b) 0 with
    | none =>
      rw [hT3] at hv
      cases hv
      have hst : Sr98.startTimes b (Sr98.earliestDeadline b) = none := hT3
      obtain ⟨f1, f2⟩ := fin 0 (by rw [hst]; rfl)
      refine ⟨rfl, _, rfl, iteT ⟨f1, fun q2 hq2 => ?_⟩⟩
      obtain ⟨y, ey, r⟩ := f2 q2 hq2
      cases ey
      exact ⟨_, rfl, r⟩
    | some TT =>
      rw [hT3] at hv
      obtain ⟨tl, rfl, _⟩ := hv
      have hst : Sr98.startTimes b (Sr98.earliestDeadline b) = some TT := hT3
      obtain ⟨f1, f2⟩ := fin 1 (by rw [hst]; rfl)
      refine ⟨rfl, _, rfl, iteF ⟨f1, fun q2 hq2 => ?_⟩⟩
      obtain ⟨y, ey, r⟩ := f2 q2 hq2
      cases ey
      exact ⟨_, rfl, r⟩
end
end Bk
/-! what stays behind a call when a table of a code object may grow -/
namespace Bk
open PySem PySem.Spec PyProof.Rows L2 LamX
open PySem.W (Codec)
open Sr98 (Bakery)
/-- an instance or a list -/
def Pl (o : HO) : Prop := (∃ C dx fs, o = .ins C dx fs) ∨ ∃ xs, o = .lst xs
theorem Pl.ins {C dx : Addr} {fs : List (Str × V)} : Pl (.ins C dx fs) := .inl ⟨_, _, _, rfl⟩
theorem Pl.lst {xs : List V} : Pl (.lst xs) := .inr ⟨_, rfl⟩
theorem Pl.notTbl {o : HO} (p : Pl o) (ps : Array Value) : o ≠ .tbl ps := fun e => by
  rcases p with ⟨_, _, _, rfl⟩ | ⟨_, rfl⟩ <;> cases e
theorem Pl.notCode {o : HO} (p : Pl o) (c : Addr) (q : Str) : o ≠ CodeO c q := fun e => by
  unfold CodeO at e
  rcases p with ⟨_, _, _, rfl⟩ | ⟨_, rfl⟩ <;> cases e
/-- all that was tracked outside of F, and is no table, is as it was -/
def KeepsN (F : List Addr) (H H' : Hp) : Prop := ∀ b o, H b = some o → b ∉ F → (∀ ps, o ≠ .tbl ps) → H' b = some o
theorem KeepsN.of {F : List Addr} {H H' : Hp} (k : Keeps F H H') : KeepsN F H H' := fun b o e n _ => k b o e n
theorem KeepsN.ext {F : List Addr} {H H' : Hp} (k : ExtN H H') : KeepsN F H H' := fun b o e _ n => k b o e n
theorem NewN.nePl {H : Hp} {p a : Addr} {o : HO} (n : NewN H p) (h : H a = some o) (po : Pl o) : a ≠ p := n.ne h po.notTbl
theorem DoughAt.ext {CD : Addr} {H H' : Hp} {h : Nat} {a c : Addr} {d : Dg} (D : DoughAt CD H h a c d) (k : ExtN H H') : DoughAt CD H' h a c d := by
  obtain ⟨dx, e⟩ := D.ins
  exact ⟨⟨dx, k _ _ e Pl.ins.notTbl⟩, k _ _ D.lst Pl.lst.notTbl, D.bits, D.mix⟩
theorem SchedAt.ext {CS CD : Addr} {H H' : Hp} {s t l : Addr} {as : List (Addr × Addr)} {b : Bakery} (S : SchedAt CS CD H s t l as b) (k : ExtN H H') : SchedAt CS CD H' s t l as b := by
  obtain ⟨dx, e⟩ := S.ins
  exact ⟨⟨dx, k _ _ e Pl.ins.notTbl⟩, k _ _ S.tmp Pl.lst.notTbl, k _ _ S.lst Pl.lst.notTbl, S.len, fun j p d hp hd => (S.each j p d hp hd).ext k, S.nda, S.ndc, S.tl, S.ct, S.wf⟩
theorem SchedAt.plain {CS CD : Addr} {H : Hp} {s t l : Addr} {as : List (Addr × Addr)} {b : Bakery} (S : SchedAt CS CD H s t l as b) {x : Addr} (h : x ∈ foot s t l as) : ∃ o, H x = some o ∧ Pl o := by
  rcases mem_foot h with rfl | rfl | rfl | ⟨p, hp, e⟩
  · obtain ⟨_, e⟩ := S.ins
    exact ⟨_, e, Pl.ins⟩
  · exact ⟨_, S.tmp, Pl.lst⟩
  · exact ⟨_, S.lst, Pl.lst⟩
  · obtain ⟨d, D⟩ := S.mem hp
    rcases e with rfl | rfl
    · obtain ⟨_, e⟩ := D.ins
      exact ⟨_, e, Pl.ins⟩
    · exact ⟨_, D.lst, Pl.lst⟩
theorem SchedAt.nfootN {CS CD : Addr} {H : Hp} {s t l : Addr} {as : List (Addr × Addr)} {b : Bakery} (S : SchedAt CS CD H s t l as b) {x : Addr} (h : NewN H x) : x ∉ foot s t l as := fun m => by
  obtain ⟨o, e, po⟩ := S.plain m
  exact h.nePl e po rfl
theorem Tabs.keep {T : List (Addr × Str)} {F : List Addr} {H H' : Hp} (t : Tabs T H) (k : Keeps F H H') (n : ∀ x ∈ F, ∃ o, H x = some o ∧ Pl o) : Tabs T H' := fun p hp => by
  obtain ⟨ps, h1, h2, h3⟩ := t p hp
  refine ⟨ps, k _ _ h1 fun m => ?_, h2, fun pos cv hc => ?_⟩
  · obtain ⟨o, e, po⟩ := n _ m
    rw [h1] at e
    exact po.notTbl ps (Option.some.inj e).symm
  · obtain ⟨c, e1, e2⟩ := h3 pos cv hc
    refine ⟨c, e1, k _ _ e2 fun m => ?_⟩
    obtain ⟨o, e, po⟩ := n _ m
    rw [e2] at e
    exact po.notCode c p.2 (Option.some.inj e).symm
end Bk
namespace Bk
open PySem PySem.Spec PyProof.Rows L2 LamX
open PySem.W (Codec)
open Sr98 (Bakery)
/-! ### a request in the heap -/
def rF (v : V) : List (Str × V) := [("schedule", v)]
theorem rF_s (v : V) : (rF v).lookup ("schedule" : Str) = some v := lk_here
theorem rF_no (v : V) {m : Str} (h : (m == ("schedule" : Str)) = false) : (rF v).lookup m = none := (lk_past h).trans rfl
theorem rF_put (v u : V) : putF "schedule" u (rF v) = rF u := put_here
/-- the request at r, its schedule as the state tells; F: all that belongs to it -/
def ReqAt (CR CS CD : Addr) (H : Hp) (r : Addr) : Option Bakery → List Addr → Prop
  | none, F => (∃ dx, H r = some (.ins CR dx (rF .non))) ∧ F = [r]
  | some b, F => ∃ s t l as, (∃ dx, H r = some (.ins CR dx (rF (.ref s)))) ∧ SchedAt CS CD H s t l as b ∧ r ∉ foot s t l as ∧ F = r :: foot s t l as
section
variable {CR CS CD : Addr} {H H' : Hp} {r : Addr} {st : Option Bakery} {F : List Addr}
theorem ReqAt.self (R : ReqAt CR CS CD H r st F) : r ∈ F ∧ ∃ dx v, H r = some (.ins CR dx (rF v)) := by
  cases st with
  | none =>
    obtain ⟨⟨dx, e⟩, rfl⟩ := R
    exact ⟨by simp, dx, _, e⟩
  | some b =>
    obtain ⟨s, t, l, as, ⟨dx, e⟩, _, _, rfl⟩ := R
    exact ⟨by simp, dx, _, e⟩
theorem ReqAt.there (R : ReqAt CR CS CD H r st F) {x : Addr} (h : x ∈ F) : ∃ o, H x = some o := by
  cases st with
  | none =>
    obtain ⟨⟨dx, e⟩, rfl⟩ := R
    rw [List.mem_singleton.mp h]
    exact ⟨_, e⟩
  | some b =>
    obtain ⟨s, t, l, as, ⟨dx, e⟩, S, _, rfl⟩ := R
    rcases List.mem_cons.mp h with rfl | h
    · exact ⟨_, e⟩
    · exact S.there h
theorem ReqAt.keep (R : ReqAt CR CS CD H r st F) {G : List Addr} (k : Keeps G H H') (n : ∀ x ∈ F, x ∉ G) : ReqAt CR CS CD H' r st F := by
  cases st with
  | none =>
    obtain ⟨⟨dx, e⟩, rfl⟩ := R
    exact ⟨⟨dx, k _ _ e (n r (by simp))⟩, rfl⟩
  | some b =>
    obtain ⟨s, t, l, as, ⟨dx, e⟩, S, hn, rfl⟩ := R
    exact ⟨s, t, l, as, ⟨dx, k _ _ e (n r (by simp))⟩, S.keep k fun x h => n x (List.mem_cons_of_mem _ h), hn, rfl⟩
theorem ReqAt.same (R : ReqAt CR CS CD H r st F) (k : Same H H') : ReqAt CR CS CD H' r st F := R.keep (keeps_of_same k []) (by simp)
theorem ReqAt.nF (R : ReqAt CR CS CD H r st F) {x : Addr} (h : H x = none) : x ∉ F := fun m => by
  obtain ⟨o, e⟩ := R.there m
  rw [e] at h
  cases h
theorem ReqAt.plain (R : ReqAt CR CS CD H r st F) : ∀ x ∈ F, ∃ o, H x = some o ∧ Pl o := fun x h => by
  cases st with
  | none =>
    obtain ⟨⟨dx, e⟩, rfl⟩ := R
    rw [List.mem_singleton.mp h]
    exact ⟨_, e, Pl.ins⟩
  | some b =>
    obtain ⟨s, t, l, as, ⟨dx, e⟩, S, _, rfl⟩ := R
    rcases List.mem_cons.mp h with rfl | h
    · exact ⟨_, e, Pl.ins⟩
    · exact S.plain h
theorem ReqAt.nFN (R : ReqAt CR CS CD H r st F) {x : Addr} (h : NewN H x) : x ∉ F := fun m => by
  obtain ⟨o, e, po⟩ := R.plain x m
  exact h.nePl e po rfl
end
/-- behind a call of the request -/
def DoneR (CR CS CD : Addr) (H : Hp) (r : Addr) (F : List Addr) (st' : Option Bakery) (res : List Int) (Q : VK) : Prop :=
  ∀ (H' : Hp) (q : Addr) (F' : List Addr), ReqAt CR CS CD H' r st' F' → Keeps F H H' → (∀ x ∈ F', x ∈ F ∨ H x = none) → H' q = some (.lst (vInt res)) → H q = none → q ∉ F' → Q (.ref q) H'
theorem DoneR.quit {CR CS CD : Addr} {H H1 : Hp} {r q : Addr} {F : List Addr} {st : Option Bakery} {res : List Int} {Q : VK} (D : DoneR CR CS CD H r F st res Q) (R : ReqAt CR CS CD H r st F) (s : Same H H1) (hq : H1 q = none) : Q (.ref q) (upd H1 q (.lst (vInt res))) :=
  D _ q F ((R.same s).same (same_new hq)) (fun x o h m => by rw [upd_ne (ne_of_none (s x o h) hq)]; exact s x o h) (fun x h => .inl h) upd_same (Same.free s hq) ((R.same s).nF hq)
/-- behind a call of the request; a table of a code object may have grown -/
def DoneRT (CR CS CD : Addr) (T : List (Addr × Str)) (H : Hp) (r : Addr) (F : List Addr) (st' : Option Bakery) (res : List Int) (Q : VK) : Prop :=
  ∀ (H' : Hp) (q : Addr) (F' : List Addr), ReqAt CR CS CD H' r st' F' → Tabs T H' → KeepsN F H H' → (∀ x ∈ F', x ∈ F ∨ NewN H x) → H' q = some (.lst (vInt res)) → NewN H q → q ∉ F' → Q (.ref q) H'
theorem DoneRT.toR {CR CS CD : Addr} {T : List (Addr × Str)} {H : Hp} {r : Addr} {F : List Addr} {st st' : Option Bakery} {res : List Int} {Q : VK} (D : DoneRT CR CS CD T H r F st' res Q) (R : ReqAt CR CS CD H r st F) (hT : Tabs T H) : DoneR CR CS CD H r F st' res Q :=
  fun H' q F' R' k fr hq hn nF => D H' q F' R' (Tabs.keep hT k R.plain) (KeepsN.of k) (fun x h => (fr x h).imp_right NewN.of) hq (NewN.of hn) nF
structure TR (K : PySem.W.Frag) (mg : Str → Option Value) (CR : Addr) : Prop where
  cl : Cls K CR
  nS : NoAttr K CR "schedule"
  oor : ConstI mg "OUT_OF_RANGE" (-22)
  noin : ConstI mg "NO_INSTANCE" (-11)
  create : ConstI mg "CREATE" 0
  window : ConstI mg "WINDOW" 8
  len : mg "len" = none
section
variable {P : Program} {w : World} {K : PySem.W.Frag} {mg : Str → Option Value} {base : Heap} {CR CS CD : Addr}
abbrev iReq : Nat := 47
abbrev sRInit : Stmt := inClass (top iReq) 0
abbrev sCreate : Stmt := inClass (top iReq) 1
abbrev sAnswer : Stmt := inClass (top iReq) 2
abbrev sAnswers : Stmt := top 50
def spRInit (CR : Addr) : Sp := fun vs H Q _ => ∃ r dx, vs = [.ref r] ∧ H r = some (.ins CR dx []) ∧ ∀ H' : Hp, H' r = some (.ins CR dx (rF .non)) → Keeps [r] H H' → Q .non H'
theorem scRInit : FnScope ["self"] ["self"] (defScope sRInit) := ⟨rfl, rfl, rfl, by decide +kernel, rfl, by decide +kernel, by decide +kernel⟩
theorem ok_rinit (T : TR K mg CR) (F : ∃ f fd, Fun K "__init__" "Request.__init__" sRInit f fd ∧ Mk K CR f) (n : mg "Request" = some (.ref CR)) : KOk P w K mg base 1 CR "Request" ["self"] (spRInit CR) := by
  obtain ⟨f, fd, F, M⟩ := F
  refine ⟨⟨f, fd, F.ok scRInit (fun vs H Q E h => ?_) (fun cdv A outer s H vs Q E hr h => ?_), F.binds fun _ _ _ _ _ _ us hl => match us, hl with | [_], _ => rfl, M⟩, n⟩
  · obtain ⟨r, dx, rfl, _⟩ := h
    rfl
  · obtain ⟨r, dx, rfl, hr, k⟩ := h
    refine ⟨_, pss_one (ps_fld (pv 0) pe_non rfl), ?_⟩
    exact ⟨_, rfl, r, CR, dx, _, rfl, hr, T.cl, T.nS, (by show 0 < 1000; decide), k _ upd_same (keeps_upd (by simp))⟩
/-! ### create -/
def crRes (h p : Int) : List Int := if (SrCommon.inRange h 1 36 && SrCommon.inRange p 1 9) = false then [-22] else [0]
def crSt (st : Option Bakery) (h p : Int) : Option Bakery := if (SrCommon.inRange h 1 36 && SrCommon.inRange p 1 9) = false then st else some ⟨List.replicate h.toNat 24, [], p.toNat⟩
def spCreate (CR CS CD : Addr) : Sp := fun vs H Q _ => ∃ (r : Addr) (st : Option Bakery) (F : List Addr) (h p : Int), vs = [.ref r, .int h, .int p] ∧ ReqAt CR CS CD H r st F ∧ DoneR CR CS CD H r F (crSt st h p) (crRes h p) Q
theorem scCreate : FnScope ["self", "h", "p"] ["self", "h", "p"] (defScope sCreate) := ⟨rfl, rfl, rfl, by decide +kernel, rfl, by decide +kernel, by decide +kernel⟩
theorem ok_create (T : TR K mg CR) (F : MFun K CR "create" "Request.create" sCreate) (IH : GOk P w K mg base 1 "is_number_of_hours" ["h"] (spIn 1 36)) (IB : GOk P w K mg base 1 "is_baking_time" ["p"] (spIn 1 9))
    (SK : KOk P w K mg base 1 CS "Schedule" ["self", "hours", "baking_time"] (spSInit CS CD)) : MOk P w K mg base 3 CR "create" ["self", "h", "p"] (spCreate CR CS CD) := by
  obtain ⟨f, fd, F, M⟩ := F.ex
  refine ⟨f, fd, F.ok scCreate (fun vs H Q E h => ?_) (fun cdv A outer s H vs Q E hr h => ?_), F.binds fun _ _ _ _ _ _ us hl => match us, hl with | [_, _, _], _ => rfl, M⟩
  · obtain ⟨r, st, F, h, p, rfl, _⟩ := h
    rfl
  · obtain ⟨r, st, F, h, p, rfl, R, D⟩ := h
    have hr1 : Room 1 _ := hr.mono (by decide)
    refine ⟨_, pss_cons (ps_if (pt_not (pt_val (pe_g IH hr1 rfl (pa_cons (pv 1) pa_nil)))) (pss_one (ps_ret (pe_lst (pa_cons (pe_const T.oor) pa_nil)))) pss_nil)
      (pss_cons (ps_if (pt_not (pt_val (pe_g IB hr1 rfl (pa_cons (pv 2) pa_nil)))) (pss_one (ps_ret (pe_lst (pa_cons (pe_const T.oor) pa_nil)))) pss_nil)
      (pss_cons (ps_fld (pv 0) (pe_k SK hr rfl (pa_cons (pv 1) (pa_cons (pv 2) pa_nil))) rfl)
      (pss_one (ps_ret (pe_lst (pa_cons pe_int pa_nil)))))), ?_⟩
    have quit : (SrCommon.inRange h 1 36 && SrCommon.inRange p 1 9) = false → 1 ≤ sizeLine ∧ ∀ q, H q = none → Q (.ref q) (upd H q (.lst [.int (-22)])) := fun e => ⟨by decide, fun q hq => by
      unfold crSt crRes at D
      rw [if_pos e, if_pos e] at D
      exact D.quit R (Same.refl H) hq⟩
    refine ⟨_, rfl, h, rfl, _, rfl, ?_⟩
    cases hh : SrCommon.inRange h 1 36 with
    | false => exact iteT (quit (by rw [hh]; rfl))
    | true =>
      refine iteF ⟨_, rfl, p, rfl, _, rfl, ?_⟩
      cases hp : SrCommon.inRange p 1 9 with
      | false => exact iteT (quit (by rw [hp, Bool.and_false]))
      | true =>
        have e : ¬ (SrCommon.inRange h 1 36 && SrCommon.inRange p 1 9) = false := by rw [hh, hp]; simp
        unfold crSt crRes at D
        rw [if_neg e, if_neg e] at D
        have h2 := inRange_nat hh
        have p2 := inRange_nat hp
        obtain ⟨hn, rfl⟩ : ∃ n : Nat, h = (n : Int) := ⟨h.toNat, by omega⟩
        obtain ⟨pn, rfl⟩ : ∃ n : Nat, p = (n : Int) := ⟨p.toNat, by omega⟩
        obtain ⟨rF0, dx, v, er⟩ := R.self
        refine iteF ⟨_, rfl, _, rfl, fun x dx' nx nd ne => ?_⟩
        refine ⟨x, dx', hn, pn, rfl, upd_same, by omega, by omega, by omega, by omega, fun H1 t l S ht hl k1 => ⟨rfl, ?_⟩⟩
        have s1 : Same H H1 := Same.made nx nd fun q o e h => k1 q o e (by simp [h])
        have rx : r ≠ x := ne_of_none er nx
        have free : ∀ y, (upd (upd H dx' (.own x)) x (.ins CS dx' [])) y = none → H y = none := fun y hy => by
          have y1 : y ≠ x := fun q => by
            subst q
            rw [upd_same] at hy
            cases hy
          rw [upd_ne y1] at hy
          have y2 : y ≠ dx' := fun q => by
            subst q
            rw [upd_same] at hy
            cases hy
          rw [upd_ne y2] at hy
          exact hy
        have ht' := free t ht
        have hl' := free l hl
        refine ⟨_, rfl, r, CR, dx, _, rfl, s1 _ _ er, T.cl, T.nS, (by show 1 < 1000; decide), ?_⟩
        have kr : Keeps [r] H1 (upd H1 r (.ins CR dx (putF "schedule" (.ref x) (rF v)))) := keeps_upd (by simp)
        have nf : ∀ y ∈ foot x t l [], y ∉ [r] := fun y hy m => by
          rw [List.mem_singleton.mp m] at hy
          rcases mem_foot hy with q | q | q | ⟨p, hp, _⟩
          · exact rx q
          · exact ne_of_none er ht' q
          · exact ne_of_none er hl' q
          · simp at hp
        refine ⟨(by show 1 ≤ sizeLine; decide), fun q hq => ?_⟩
        have qr : r ≠ q := fun z => by
          rw [← z, upd_same] at hq
          cases hq
        have hq1 : H1 q = none := by
          rw [upd_ne qr.symm] at hq
          exact hq
        have nr : r ∉ foot x t l [] := fun m => nf r m (by simp)
        refine D _ q (r :: foot x t l []) ⟨x, t, l, [], ⟨dx, by rw [upd_ne qr, upd_same, rF_put]⟩, by rw [Int.toNat_natCast, Int.toNat_natCast]; exact (S.keep kr nf).same (same_new hq), nr, rfl⟩ (fun y o e n => ?_) (fun y hy => ?_) upd_same (Same.free s1 hq1) (fun m => ?_)
        · have yr : y ≠ r := fun z => n (by rw [z]; exact rF0)
          rw [upd_ne (fun z => by rw [z, Same.free s1 hq1] at e; cases e), upd_ne yr]
          exact s1 y o e
        · rcases List.mem_cons.mp hy with rfl | hy
          · exact .inl rF0
          · rcases mem_foot hy with rfl | rfl | rfl | ⟨p, hp, _⟩
            · exact .inr nx
            · exact .inr ht'
            · exact .inr hl'
            · simp at hp
        · rcases List.mem_cons.mp m with z | m
          · exact qr z.symm
          · exact (S.nfoot hq1) m
/-! ### answer -/
/-- what answer_of_change promises: of the calls 1 to 7 -/
def spChg (CS CD : Addr) : Sp := fun vs H Q _ => ∃ (s t l cl : Addr) (as : List (Addr × Addr)) (b : Bakery) (c : List (List Int)) (k : Sr98.Call) (z : Int), vs = [.ref s, .ref cl] ∧ SchedAt CS CD H s t l as b ∧ H cl = some (.lst (vInt (flat1 c))) ∧
  Sr98Neutral.asked1 c = true ∧ Sr98Neutral.parseCall c = some k ∧ (flat1 c)[0]? = some z ∧ z ≠ 0 ∧ z < 8 ∧ Done CS CD H s t l as b k Q
/-- what answer_of_query promises: of the calls 8 to 16 -/
def spQry (CS CD : Addr) (T : List (Addr × Str)) : Sp := fun vs H Q _ => ∃ (s t l cl : Addr) (as : List (Addr × Addr)) (b : Bakery) (c : List (List Int)) (k : Sr98.Call) (z : Int), vs = [.ref s, .ref cl] ∧ SchedAt CS CD H s t l as b ∧ H cl = some (.lst (vInt (flat1 c))) ∧
  Sr98Neutral.asked1 c = true ∧ Sr98Neutral.parseCall c = some k ∧ (flat1 c)[0]? = some z ∧ 8 ≤ z ∧ Tabs T H ∧ DoneQ T H b k Q
def spAnswer (CR CS CD : Addr) (T : List (Addr × Str)) : Sp := fun vs H Q _ => ∃ (r cl : Addr) (st : Option Bakery) (F : List Addr) (c : List (List Int)), vs = [.ref r, .ref cl] ∧ ReqAt CR CS CD H r st F ∧ Tabs T H ∧ H cl = some (.lst (vInt (flat1 c))) ∧
  Sr98Neutral.asked1 c = true ∧ DoneRT CR CS CD T H r F (Sr98Neutral.step st c).1 (Sr98Neutral.step st c).2 Q
theorem scAnswer : FnScope ["self", "call"] ["self", "call"] (defScope sAnswer) := ⟨rfl, rfl, rfl, by decide +kernel, rfl, by decide +kernel, by decide +kernel⟩
theorem after_is {b : Bakery} {k : Sr98.Call} {y : Option Bakery × SrCommon.Result} (h : y = match Sr98.perform b k with
    | (some t, r) => (some t, r)
    | (none, r) => (some b, r)) : y = (some (after b k), (Sr98.perform b k).2) := by
  unfold after
  rw [h]
  cases Sr98.perform b k with
  | mk o r => cases o <;> rfl
theorem asked_parse {c : List (List Int)} (h : Sr98Neutral.asked1 c = true) : (∃ x y, c = [[0, x, y]]) ∨ ∃ k z, Sr98Neutral.parseCall c = some k ∧ (flat1 c)[0]? = some z ∧ z ≠ 0 ∧
    Sr98.step none k = (none, .ofCode SrCommon.notCreated) ∧ (∀ b, Sr98.step (some b) k = (some (after b k), (Sr98.perform b k).2)) ∧ (8 ≤ z → ∀ b, after b k = b) := by
  unfold Sr98Neutral.asked1 at h
  split at h
  · exact .inl ⟨_, _, rfl⟩
  all_goals first
    | exact .inr ⟨_, _, rfl, rfl, by decide, rfl, fun b => after_is rfl, fun _ _ => rfl⟩
    | exact .inr ⟨_, _, rfl, rfl, by decide, rfl, fun b => after_is rfl, fun h8 => absurd h8 (by decide)⟩
    | cases h
theorem step_create (st : Option Bakery) (x y : Int) : Sr98Neutral.step st [[0, x, y]] = (crSt st x y, crRes x y) := by
  show ((Sr98.step st (.create x y)).1, (Sr98.step st (.create x y)).2.code :: (Sr98.step st (.create x y)).2.values) = _
  unfold crSt crRes
  by_cases e : (SrCommon.inRange x 1 36 && SrCommon.inRange y 1 9) = false
  · rw [if_pos e, if_pos e, show Sr98.step st (.create x y) = (st, SrCommon.Result.ofCode SrCommon.invalidArgument) from if_pos e]
    rfl
  · rw [if_neg e, if_neg e, show Sr98.step st (.create x y) = (some ⟨List.replicate x.toNat 24, [], y.toNat⟩, SrCommon.Result.ofCode 0) from if_neg e]
    rfl
theorem ok_answer {T : List (Addr × Str)} (TRo : TR K mg CR) (F : MFun K CR "answer" "Request.answer" sAnswer) (CRe : MOk P w K mg base 3 CR "create" ["self", "h", "p"] (spCreate CR CS CD)) {lv : Nat} (h3 : 3 ≤ lv) (AC : GOk P w K mg base lv "answer_of_change" ["schedule", "call"] (spChg CS CD))
    (AQ : GOk P w K mg base lv "answer_of_query" ["schedule", "call"] (spQry CS CD T)) : MOk P w K mg base (lv + 1) CR "answer" ["self", "call"] (spAnswer CR CS CD T) := by
  obtain ⟨f, fd, F, M⟩ := F.ex
  refine ⟨f, fd, F.ok scAnswer (fun vs H Q E h => ?_) (fun cdv A outer s H vs Q E hr h => ?_), F.binds fun _ _ _ _ _ _ us hl => match us, hl with | [_, _], _ => rfl, M⟩
  · obtain ⟨r, cl, st, F, c, rfl, _⟩ := h
    rfl
  · obtain ⟨r, cl, st, F, c, rfl, R, hT, hcl, hc, D0⟩ := h
    have hr3 : Room 3 _ := hr.mono h3
    have D := D0.toR R hT
    refine ⟨_, pss_cons (ps_if (pt_cmpR op_eq (pe_ix ix_list (pv 1) pe_int (fun _ _ => rfl)) (pe_const TRo.create) (nomark _))
        (pss_one (ps_ret (pe_m (pv 0) TRo.cl CRe hr3 (pa_cons (pe_ix ix_list (pv 1) pe_int (fun _ _ => rfl)) (pa_cons (pe_ix ix_list (pv 1) pe_int (fun _ _ => rfl)) pa_nil))))) pss_nil)
      (pss_cons (ps_if (pt_cmpR op_isN (pe_fld (pv 0) rfl) pe_non (nomark _)) (pss_one (ps_ret (pe_lst (pa_cons (pe_const TRo.noin) pa_nil)))) pss_nil)
      (pss_cons (ps_if (pt_cmpR op_lt (pe_ix ix_list (pv 1) pe_int (fun _ _ => rfl)) (pe_const TRo.window) (nomark _))
        (pss_one (ps_ret (pe_g AC hr rfl (pa_cons (pe_fld (pv 0) rfl) (pa_cons (pv 1) pa_nil))))) pss_nil)
      (pss_one (ps_ret (pe_g AQ hr rfl (pa_cons (pe_fld (pv 0) rfl) (pa_cons (pv 1) pa_nil))))))), ?_⟩
    obtain ⟨_, dx, v, er⟩ := R.self
    rcases asked_parse hc with ⟨x, y, rfl⟩ | ⟨k, z, hk, hz, hz0, hs0, hs1, hq8⟩
    · rw [step_create] at D
      refine ⟨_, rfl, cl, _, _, _, rfl, rfl, SqL.of hcl, at_of (j := 0) (v := .int 0) rfl rfl, rfl, _, rfl, iteT ⟨_, rfl, r, dx, _, rfl, er, rF_no v (by decide +kernel), ?_⟩⟩
      exact ⟨_, rfl, cl, _, _, _, rfl, rfl, SqL.of hcl, at_of (j := 1) (v := .int x) rfl rfl, _, rfl, cl, _, _, _, rfl, rfl, SqL.of hcl, at_of (j := 2) (v := .int y) rfl rfl, r, st, F, x, y, rfl, R, D⟩
    · have est : Sr98Neutral.step st c = ((Sr98.step st k).1, (Sr98.step st k).2.code :: (Sr98.step st k).2.values) := by
        unfold Sr98Neutral.step
        rw [hk]
      refine ⟨_, rfl, cl, _, _, _, rfl, rfl, SqL.of hcl, at_of (j := 0) rfl (vInt_at hz), rfl, _, rfl, ?_⟩
      rw [decide_eq_false (fun q => hz0 (V.int.inj q))]
      rw [est] at D D0
      cases st with
      | none =>
        rw [hs0] at D
        obtain ⟨⟨dx, er⟩, rfl⟩ := R
        exact iteF ⟨_, rfl, r, CR, dx, _, _, rfl, er, TRo.cl, TRo.nS, rF_s _, rfl, _, rfl, iteT ⟨(by show 1 ≤ sizeLine; decide), fun q hq => D.quit (res := [-11]) (CR := CR) (CS := CS) (CD := CD) ⟨⟨dx, er⟩, rfl⟩ (Same.refl H) hq⟩⟩
      | some b =>
        rw [hs1 b] at D D0
        obtain ⟨s, t, l, as, ⟨dx, er⟩, S, hn, rfl⟩ := R
        refine iteF ⟨_, rfl, r, CR, dx, _, _, rfl, er, TRo.cl, TRo.nS, rF_s _, rfl, _, rfl, iteF ⟨_, rfl, cl, _, _, _, rfl, rfl, SqL.of hcl, at_of (j := 0) rfl (vInt_at hz), _, _, rfl, rfl, _, rfl, ?_⟩⟩
        by_cases h8 : z < 8
        · rw [decide_eq_true h8]
          refine iteT ⟨_, rfl, r, CR, dx, _, _, rfl, er, TRo.cl, TRo.nS, rF_s _, _, rfl, s, t, l, cl, as, b, c, k, z, rfl, S, hcl, hc, hk, hz, hz0, h8, fun H' p as' S' k1 fr hp hpn hpf => ?_⟩
          have hrn : r ∉ foot s t l as' := fun m => by
            rcases fr r m with h | h
            · exact hn h
            · rw [er] at h
              cases h
          refine D H' p (r :: foot s t l as') ⟨s, t, l, as', ⟨dx, k1 _ _ er hn⟩, S', hrn, rfl⟩ (k1.mono fun x hx => List.mem_cons_of_mem _ hx) (fun x hx => ?_) hp hpn (fun m => ?_)
          · rcases List.mem_cons.mp hx with rfl | hx
            · exact .inl (List.mem_cons_self ..)
            · exact (fr x hx).imp_left fun h => List.mem_cons_of_mem _ h
          · rcases List.mem_cons.mp m with rfl | m
            · rw [er] at hpn
              cases hpn
            · exact hpf m
        · rw [decide_eq_false h8]
          have eb := hq8 (by omega) b
          refine iteF ⟨_, rfl, r, CR, dx, _, _, rfl, er, TRo.cl, TRo.nS, rF_s _, _, rfl, s, t, l, cl, as, b, c, k, z, rfl, S, hcl, hc, hk, hz, by omega, hT, fun H' p e1 T1 hp hpn => ?_⟩
          refine D0 H' p (r :: foot s t l as) ⟨s, t, l, as, ⟨dx, e1 _ _ er Pl.ins.notTbl⟩, by rw [eb]; exact S.ext e1, hn, rfl⟩ T1 (KeepsN.ext e1) (fun x hx => .inl hx) hp hpn (fun m => ?_)
          rcases List.mem_cons.mp m with rfl | m
          · exact hpn.nePl er Pl.ins rfl
          · exact S.nfootN hpn m
/-! ### answers -/
theorem told_snoc (l : List (List Int)) (a : List Int) : PyFlat.told (l ++ [a]) = PyFlat.told l ++ ((a.length : Int) :: a) := by
  unfold PyFlat.told
  rw [List.flatMap_append]
  simp
theorem played_cons {S : Type} (step : S → List (List Int) → S × List Int) (st : S) (c : List (List Int)) (r : List (List (List Int))) : PyFlat.told (PyFlat.played step st (c :: r)) = (((step st c).2.length : Int) :: (step st c).2) ++ PyFlat.told (PyFlat.played step (step st c).1 r) := rfl
/-- answers: a list of ints is handed in, the specification's list comes out -/
def spAnswers (K : PySem.W.Frag) (T : List (Addr × Str)) : Sp := fun vs H Q _ => ∃ (a : Addr) (ns : List Int), vs = [.ref a] ∧ SqL K H a (vInt ns) ∧ Tabs T H ∧ PySr98.answers_asked ns = true ∧ ∀ (H' : Hp) (p : Addr), H' p = some (.lst (vInt (PySr98.answers ns))) → Q (.ref p) H'
theorem scAnswers : FnScope ["calls", "request", "given_back", "call", "numbers"] ["calls"] (defScope sAnswers) := ⟨rfl, rfl, rfl, by decide +kernel, rfl, by decide +kernel, by decide +kernel⟩
theorem ok_answers {T : List (Addr × Str)} {f : Addr} {fd : FuncData} (TRo : TR K mg CR) (F : Fun K "answers" "answers" sAnswers f fd) (RK : KOk P w K mg base 1 CR "Request" ["self"] (spRInit CR)) (SC : GOk P w K mg base 2 "single_calls" ["calls"] (spSingle K)) {lv : Nat} (h2 : 2 ≤ lv)
    (AN : MOk P w K mg base lv CR "answer" ["self", "call"] (spAnswer CR CS CD T)) : FnOk P w K mg base CX0 (lv + 1) f fd ["calls"] (spAnswers K T) := by
  refine F.ok scAnswers (fun vs H Q E h => ?_) (fun cdv A outer s H vs Q E hr h => ?_)
  · obtain ⟨a, ns, rfl, _⟩ := h
    rfl
  · obtain ⟨a, ns, rfl, hS, hT, hask, k⟩ := h
    obtain ⟨cs, rfl, ean, h60, hcs, hshort⟩ := asked_is hask
    have hr2 : Room 2 _ := hr.mono h2
    refine ⟨_, pss_cons (ps_set (i := 1) scAnswers.nd rfl (Or.inl rfl) (pe_k0 RK hr2 rfl))
      (pss_cons (ps_set (i := 2) scAnswers.nd rfl (Or.inl rfl) (pe_lst pa_nil))
      (pss_cons (ps_for PassesOwn.never rfl (pi_list (pe_g SC hr2 rfl (pa_cons (pv 0) pa_nil))) (pg_name (i := 3) scAnswers.nd rfl (Or.inl rfl))
        (pss_cons (ps_set (i := 4) scAnswers.nd rfl (Or.inl rfl) (pe_m (pv 1) TRo.cl AN hr (pa_cons (pv 3) pa_nil)))
        (pss_cons (ps_expr (pe_bm PySem.F.plainAttrs_list PySem.F.slot_list_append PySem.F.type_list_append mt_append (pv 2) (pa_cons (pe_callB call_len_seq (by rfl) TRo.len PySem.boot_len (pa_cons (pv 4) pa_nil)) pa_nil)))
        (pss_one (ps_expr (pe_bm PySem.F.plainAttrs_list PySem.F.slot_list_extend PySem.F.type_list_extend mt_extend (pv 2) (pa_cons (pv 4) pa_nil)))))))
      (pss_one (ps_ret (pv 2))))), ?_⟩
    -- request = Request()
    intro r dx nr nd ne
    refine ⟨r, dx, rfl, upd_same, fun H1 hr1 k1 => ⟨rfl, ?_⟩⟩
    have s1 : Same H H1 := Same.made nr nd fun q o e h => k1 q o e (by simp [h])
    -- given_back = []
    refine ⟨Nat.zero_le _, fun g hg => ?_⟩
    have rg : r ≠ g := ne_of_none hr1 hg
    have s2 : Same H1 (upd H1 g (.lst [])) := same_new hg
    -- single_calls(calls)
    refine ⟨_, rfl, a, cs, rfl, s2.seq (s1.seq hS), hcs, h60, fun H3 p as s3 hp has hpl hpas hA => ?_⟩
    have hg3 : H3 g = some (.lst []) := s3 _ _ upd_same
    have hr3 : H3 r = some (.ins CR dx (rF .non)) := s3 _ _ (s2 _ _ hr1)
    have gp : g ≠ p := ne_of_none upd_same hp
    have rp : r ≠ p := ne_of_none (s2 _ _ hr1) hp
    have gas : g ∉ as := fun m => by
      have := has g m
      rw [upd_same] at this
      cases this
    have ras : r ∉ as := fun m => by
      have := has r m
      rw [s2 _ _ hr1] at this
      cases this
    refine ⟨p, rfl, ⟨_, SqL.of hpl⟩, for_list (K := K) (a := p) (xs := as.map V.ref) (fun i σ H' => ∃ (v3 v4 : Option V) (st : Option Bakery) (F : List Addr) (out : List Int),
      σ = [some (.ref a), some (.ref r), some (.ref g), v3, v4] ∧ ReqAt CR CS CD H' r st F ∧ Tabs T H' ∧ H' g = some (.lst (vInt out)) ∧ H' p = some (.lst (as.map V.ref)) ∧ ListsAt H' as (cs.map flat1) ∧ g ∉ F ∧ p ∉ F ∧ (∀ x ∈ as, x ∉ F) ∧
      out ++ PyFlat.told (PyFlat.played Sr98Neutral.step st (cs.drop i)) = PySr98.answers (cs.flatMap flat1)) ?_ (fun i σ H' _ ⟨_, _, _, _, _, _, _, _, _, hp', _⟩ => SqL.of hp') ?_ ?_⟩
    · refine ⟨none, none, none, [r], [], rfl, ⟨⟨dx, hr3⟩, rfl⟩, ((hT.ext s1).ext s2).ext s3, hg3, hpl, hA, by simp [rg.symm], by simp [rp.symm], fun x hx => by simp; exact fun z => ras (by rw [← z]; exact hx), ?_⟩
      rw [ean]
      rfl
    · rintro i y σ H' hi ⟨v3, v4, st, F, out, rfl, R, hT', hg', hp', hA', gF, pF, asF, etot⟩
      obtain ⟨x, hx, rfl⟩ : ∃ x, as[i]? = some x ∧ y = V.ref x := by
        rw [List.getElem?_map] at hi
        cases e : as[i]? with
        | none =>
          rw [e] at hi
          cases hi
        | some x =>
          rw [e] at hi
          exact ⟨x, rfl, (Option.some.inj hi).symm⟩
      have hxm := List.mem_of_getElem? hx
      have hil : i < cs.length := by
        have := (List.getElem?_eq_some_iff.mp hx).1
        rw [hA.len, List.length_map] at this
        exact this
      obtain ⟨c, hc⟩ : ∃ c, cs[i]? = some c := ⟨_, List.getElem?_eq_getElem hil⟩
      have hcm := List.mem_of_getElem? hc
      have hxl : H' x = some (.lst (vInt (flat1 c))) := hA'.at_ i x _ hx (by rw [List.getElem?_map, hc]; rfl)
      have edrop : cs.drop i = c :: cs.drop (i + 1) := by
        rw [List.drop_eq_getElem_cons hil]
        congr 1
        exact (List.getElem?_eq_some_iff.mp hc).2
      rw [edrop, played_cons] at etot
      obtain ⟨_, dx', v, er⟩ := R.self
      refine ⟨_, rfl, r, dx', _, rfl, er, rF_no v (by decide +kernel), _, rfl, r, x, st, F, c, rfl, R, hT', hxl, hcs c hcm, fun H4 q F' R' T4 k4 fr hq hqn hqF => ?_⟩
      have keep : ∀ y xs, H' y = some (.lst xs) → y ∉ F → H4 y = some (.lst xs) := fun y xs e n => k4 y _ e n Pl.lst.notTbl
      have hg4 := keep g _ hg' gF
      have hp4 := keep p _ hp' pF
      have gq : g ≠ q := hqn.nePl hg' Pl.lst
      have pq : p ≠ q := hqn.nePl hp' Pl.lst
      have hltot : (out ++ (((((Sr98Neutral.step st c).2.length : Int) :: (Sr98Neutral.step st c).2)) ++ PyFlat.told (PyFlat.played Sr98Neutral.step (Sr98Neutral.step st c).1 (cs.drop (i + 1))))).length ≤ 10000000 := by
        rw [etot]
        exact hshort
      rw [List.length_append, List.length_append, List.length_cons] at hltot
      have big : (10000000 : Nat) < sizeLine := by decide
      refine ⟨_, rfl, .inl ⟨rfl, _, SqL.of hg4⟩, _, rfl, q, _, rfl, .inl (SqL.of hq), g, _, _, rfl, rfl, hg4, by rw [vInt_len]; exact Nat.lt_of_le_of_lt (by omega) big, ?_⟩
      rw [vInt_len]
      refine ⟨_, rfl, .inl ⟨rfl, _, SqL.of upd_same⟩, _, rfl, g, q, _, _, rfl, rfl, upd_same, by rw [upd_ne gq.symm]; exact hq, by
        rw [List.length_append, vInt_len, vInt_len]
        exact Nat.le_of_lt (Nat.lt_of_le_of_lt (show out.length + 1 + (Sr98Neutral.step st c).2.length ≤ 10000000 by omega) big), ?_⟩
      rw [upd_upd]
      have kg : Keeps [g] H4 (upd H4 g (.lst (vInt out ++ [.int ((Sr98Neutral.step st c).2.length : Nat)] ++ vInt (Sr98Neutral.step st c).2))) := keeps_upd (by simp)
      have frn : ∀ y, (∃ o, H' y = some o ∧ Pl o) → y ∉ F → y ∉ F' := fun y ⟨o, e, po⟩ n m => by
        rcases fr y m with h | h
        · exact n h
        · exact h.nePl e po rfl
      have gF' := frn g ⟨_, hg', Pl.lst⟩ gF
      refine ⟨_, _, (Sr98Neutral.step st c).1, F', out ++ (((Sr98Neutral.step st c).2.length : Int) :: (Sr98Neutral.step st c).2), rfl, R'.keep kg (fun y hy m => gF' (by rw [← List.mem_singleton.mp m]; exact hy)), tabs_upd T4 hg4, ?_, kg _ _ hp4 (by simp [gp.symm]), ?_, gF', frn p ⟨_, hp', Pl.lst⟩ pF, ?_, ?_⟩
      · rw [upd_same]
        unfold vInt
        rw [List.map_append, List.map_cons, List.append_assoc]
        rfl
      · refine ⟨hA'.len, fun j y l hj hl => ?_⟩
        have hym := List.mem_of_getElem? hj
        exact kg _ _ (keep y _ (hA'.at_ j y l hj hl) (asF y hym)) (fun m => gas (by rw [← List.mem_singleton.mp m]; exact hym))
      · intro y hy
        have hj : ∃ o, H' y = some o ∧ Pl o := by
          obtain ⟨j, hj⟩ := List.mem_iff_getElem?.mp hy
          have hj2 : j < (cs.map flat1).length := by
            rw [← hA'.len]
            exact (List.getElem?_eq_some_iff.mp hj).1
          exact ⟨_, hA'.at_ j y _ hj (List.getElem?_eq_getElem hj2), Pl.lst⟩
        exact frn y hj (asF y hy)
      · rw [List.append_assoc]
        exact etot
    · rintro σ H' ⟨v3, v4, st, F, out, rfl, R, _, hg', _, hA', _, _, _, etot⟩
      have el : (as.map V.ref).length = cs.length := by rw [List.length_map, hA'.len, List.length_map]
      rw [el, List.drop_length] at etot
      have eo : out = PySr98.answers (cs.flatMap flat1) := by
        rw [← etot]
        exact (List.append_nil out).symm
      rw [eo] at hg'
      exact ⟨_, rfl, k H' g hg'⟩
end
end Bk
/-! answer_of_change, answer_of_query: each call by its number -/
namespace Bk
open PySem PySem.Spec PyProof.Rows L2 LamX
open PySem.W (Codec)
open Sr98 (Bakery)
/-- the numbers of the calls, as the top holds them -/
structure TC (mg : Str → Option Value) : Prop where
  c1 : ConstI mg "SET_TEMPERATURE" 1
  c2 : ConstI mg "SET_TEMPERATURES" 2
  c3 : ConstI mg "ADD_DOUGH" 3
  c4 : ConstI mg "REMOVE_DOUGH" 4
  c5 : ConstI mg "COOL" 5
  c6 : ConstI mg "STOP_COOLING" 6
  c8 : ConstI mg "WINDOW" 8
  c9 : ConstI mg "RISEN" 9
  c10 : ConstI mg "START_TIMES" 10
  c11 : ConstI mg "PLAN" 11
  c12 : ConstI mg "MOST_DOUGHS" 12
  c13 : ConstI mg "EARLIEST_DEADLINE" 13
  c14 : ConstI mg "CAN_BAKE" 14
  c15 : ConstI mg "PLAN_IF_COOLED" 15
theorem chg_cases {c : List (List Int)} {k : Sr98.Call} {z : Int} (h : Sr98Neutral.asked1 c = true) (hk : Sr98Neutral.parseCall c = some k) (hz : (flat1 c)[0]? = some z) (h0 : z ≠ 0) (h8 : z < 8) : (∃ u v, c = [[1, u, v]] ∧ k = .setTemperature u v) ∨ (∃ u v w, c = [[2, u, v, w]] ∧ k = .setTemperatures u v w) ∨ (∃ u v w, c = [[3, u, v, w]] ∧ k = .addDough u v w) ∨ (∃ u, c = [[4, u]] ∧ k = .removeDough u) ∨ (∃ u v w, c = [[5, u, v, w]] ∧ k = .cool u v w) ∨ (∃ u, c = [[6, u]] ∧ k = .stopCooling u) ∨ (∃ u, c = [[7, u]] ∧ k = .setBakingTime u) := by
  unfold Sr98Neutral.asked1 at h
  split at h
  all_goals first
    | (exfalso; have e := Option.some.inj hz; subst e; first | exact absurd h8 (by decide) | exact absurd rfl h0)
    | exact .inl ⟨_, _, rfl, (Option.some.inj hk).symm⟩
    | exact .inr (.inl ⟨_, _, _, rfl, (Option.some.inj hk).symm⟩)
    | exact .inr (.inr (.inl ⟨_, _, _, rfl, (Option.some.inj hk).symm⟩))
    | exact .inr (.inr (.inr (.inl ⟨_, rfl, (Option.some.inj hk).symm⟩)))
    | exact .inr (.inr (.inr (.inr (.inl ⟨_, _, _, rfl, (Option.some.inj hk).symm⟩))))
    | exact .inr (.inr (.inr (.inr (.inr (.inl ⟨_, rfl, (Option.some.inj hk).symm⟩)))))
    | exact .inr (.inr (.inr (.inr (.inr (.inr (⟨_, rfl, (Option.some.inj hk).symm⟩))))))
    | cases h
theorem qry_cases {c : List (List Int)} {k : Sr98.Call} {z : Int} (h : Sr98Neutral.asked1 c = true) (hk : Sr98Neutral.parseCall c = some k) (hz : (flat1 c)[0]? = some z) (h8 : 8 ≤ z) : (∃ u, c = [[8, u]] ∧ k = .window u) ∨ (∃ u v, c = [[9, u, v]] ∧ k = .risen u v) ∨ (∃ r, c = [[10], r] ∧ k = .startTimes r ∧ r.length ≤ 70) ∨ (c = [[11]] ∧ k = .plan) ∨ (c = [[12]] ∧ k = .mostDoughs) ∨ (c = [[13]] ∧ k = .earliestDeadline) ∨ (∃ u, c = [[14, u]] ∧ k = .canBake u) ∨ (∃ u v w, c = [[15, u, v, w]] ∧ k = .planIfCooled u v w) ∨ (c = [[16]] ∧ k = .describe) := by
  unfold Sr98Neutral.asked1 at h
  split at h
  all_goals first
    | (exfalso; have e := Option.some.inj hz; subst e; first | exact absurd h8 (by decide) | exact absurd rfl h0)
    | exact .inl ⟨_, rfl, (Option.some.inj hk).symm⟩
    | exact .inr (.inl ⟨_, _, rfl, (Option.some.inj hk).symm⟩)
    | exact .inr (.inr (.inl ⟨_, rfl, (Option.some.inj hk).symm, by have e := Bool.and_eq_true_iff.mp h; exact of_decide_eq_true e.2⟩))
    | exact .inr (.inr (.inr (.inl ⟨rfl, (Option.some.inj hk).symm⟩)))
    | exact .inr (.inr (.inr (.inr (.inl ⟨rfl, (Option.some.inj hk).symm⟩))))
    | exact .inr (.inr (.inr (.inr (.inr (.inl ⟨rfl, (Option.some.inj hk).symm⟩)))))
    | exact .inr (.inr (.inr (.inr (.inr (.inr (.inl ⟨_, rfl, (Option.some.inj hk).symm⟩))))))
    | exact .inr (.inr (.inr (.inr (.inr (.inr (.inr (.inl ⟨_, _, _, rfl, (Option.some.inj hk).symm⟩)))))))
    | exact .inr (.inr (.inr (.inr (.inr (.inr (.inr (.inr (⟨rfl, (Option.some.inj hk).symm⟩))))))))
    | cases h
section
variable {P : Program} {w : World} {K : PySem.W.Frag} {mg : Str → Option Value} {base : Heap} {CS CD : Addr}
abbrev sChg : Stmt := top 48
abbrev sQry : Stmt := top 49
theorem scChg : FnScope ["schedule", "call", "number"] ["schedule", "call"] (defScope sChg) := ⟨rfl, rfl, rfl, by decide +kernel, rfl, by decide +kernel, by decide +kernel⟩
theorem scQry : FnScope ["schedule", "call", "number"] ["schedule", "call"] (defScope sQry) := ⟨rfl, rfl, rfl, by decide +kernel, rfl, by decide +kernel, by decide +kernel⟩
theorem cut_two (r : List Int) : cutV (vInt (flat1 [[10], r])) (some 2) none = vInt r := by
  unfold cutV
  have e1 : (vInt (flat1 [[10], r])) = V.int 10 :: V.int (r.length : Int) :: vInt r := by
    unfold flat1 vInt
    simp
  rw [e1]
  rw [show (some (2 : Int)) = some ((2 : Nat) : Int) from rfl, HT.sIx_nat]
  simp [HT.sIx]
theorem ok_chg (TS : TS' K mg CS) (TCo : TC mg) (F : GFun K mg "answer_of_change" sChg)
    (M1 : MOk P w K mg base 2 CS "set_temperature" ["self", "t", "temperature"] (spSetT CS CD))
    (M2 : MOk P w K mg base 2 CS "set_temperatures" ["self", "start", "to", "temperature"] (spSetTs CS CD))
    (M3 : MOk P w K mg base 3 CS "add_dough" ["self", "mixed_at", "minimum", "maximum"] (spAdd CS CD))
    (M4 : MOk P w K mg base 2 CS "remove_dough" ["self", "i"] (spRem CS CD))
    (M5 : MOk P w K mg base 4 CS "cool" ["self", "i", "start", "to"] (spCool CS CD))
    (M6 : MOk P w K mg base 2 CS "stop_cooling" ["self", "i"] (spStop CS CD))
    (M7 : MOk P w K mg base 2 CS "set_baking_time" ["self", "p"] (spSetB CS CD))
    : GOk P w K mg base 5 "answer_of_change" ["schedule", "call"] (spChg CS CD) := by
  obtain ⟨f, fd, F, n⟩ := F.ex
  refine ⟨f, fd, F.ok scChg (fun vs H Q E h => ?_) (fun cdv A outer s H vs Q E hr h => ?_), F.binds fun _ _ _ _ _ _ us hl => match us, hl with | [_, _], _ => rfl, n, F.kp⟩
  · obtain ⟨s, t, l, cl, as, b, c, k, z, rfl, _⟩ := h
    rfl
  · obtain ⟨s, t, l, cl, as, b, c, k, z, rfl, S, hcl, hc, hk, hz, h0, h8, D⟩ := h
    obtain ⟨dx, hI⟩ := S.ins
    have hr2 : Room 2 _ := hr.mono (by decide)
    have hr3 : Room 3 _ := hr.mono (by decide)
    have hr4 : Room 4 _ := hr.mono (by decide)
    refine ⟨_, pss_cons (ps_set (i := 2) scChg.nd rfl (Or.inl rfl) (pe_ix ix_list (pv 1) pe_int (fun _ _ => rfl)))
      (pss_cons (ps_if (pt_cmpR op_eq (pv 2) (pe_const TCo.c1) (nomark _)) (pss_one (ps_ret (pe_m (pv 0) TS.cl M1 hr2 (pa_cons (pe_ix ix_list (pv 1) pe_int (fun _ _ => rfl)) (pa_cons (pe_ix ix_list (pv 1) pe_int (fun _ _ => rfl)) pa_nil))))) pss_nil)
      (pss_cons (ps_if (pt_cmpR op_eq (pv 2) (pe_const TCo.c2) (nomark _)) (pss_one (ps_ret (pe_m (pv 0) TS.cl M2 hr2 (pa_cons (pe_ix ix_list (pv 1) pe_int (fun _ _ => rfl)) (pa_cons (pe_ix ix_list (pv 1) pe_int (fun _ _ => rfl)) (pa_cons (pe_ix ix_list (pv 1) pe_int (fun _ _ => rfl)) pa_nil)))))) pss_nil)
      (pss_cons (ps_if (pt_cmpR op_eq (pv 2) (pe_const TCo.c3) (nomark _)) (pss_one (ps_ret (pe_m (pv 0) TS.cl M3 hr3 (pa_cons (pe_ix ix_list (pv 1) pe_int (fun _ _ => rfl)) (pa_cons (pe_ix ix_list (pv 1) pe_int (fun _ _ => rfl)) (pa_cons (pe_ix ix_list (pv 1) pe_int (fun _ _ => rfl)) pa_nil)))))) pss_nil)
      (pss_cons (ps_if (pt_cmpR op_eq (pv 2) (pe_const TCo.c4) (nomark _)) (pss_one (ps_ret (pe_m (pv 0) TS.cl M4 hr2 (pa_cons (pe_ix ix_list (pv 1) pe_int (fun _ _ => rfl)) pa_nil)))) pss_nil)
      (pss_cons (ps_if (pt_cmpR op_eq (pv 2) (pe_const TCo.c5) (nomark _)) (pss_one (ps_ret (pe_m (pv 0) TS.cl M5 hr4 (pa_cons (pe_ix ix_list (pv 1) pe_int (fun _ _ => rfl)) (pa_cons (pe_ix ix_list (pv 1) pe_int (fun _ _ => rfl)) (pa_cons (pe_ix ix_list (pv 1) pe_int (fun _ _ => rfl)) pa_nil)))))) pss_nil)
      (pss_cons (ps_if (pt_cmpR op_eq (pv 2) (pe_const TCo.c6) (nomark _)) (pss_one (ps_ret (pe_m (pv 0) TS.cl M6 hr2 (pa_cons (pe_ix ix_list (pv 1) pe_int (fun _ _ => rfl)) pa_nil)))) pss_nil)
      (pss_one (ps_ret (pe_m (pv 0) TS.cl M7 hr2 (pa_cons (pe_ix ix_list (pv 1) pe_int (fun _ _ => rfl)) pa_nil)))))))))), ?_⟩
    have hno : ∀ m : Str, (m == ("hours" : Str)) = false → (m == ("baking_time" : Str)) = false → (m == ("temperatures" : Str)) = false → (m == ("doughs" : Str)) = false → (sF b t l).lookup m = none := fun m h1 h2 h3 h4 => sF_no b t l h1 h2 h3 h4
    rcases chg_cases hc hk hz h0 h8 with ⟨x, y, rfl, rfl⟩ | ⟨x, y, u, rfl, rfl⟩ | ⟨x, y, u, rfl, rfl⟩ | ⟨x, rfl, rfl⟩ | ⟨x, y, u, rfl, rfl⟩ | ⟨x, rfl, rfl⟩ | ⟨x, rfl, rfl⟩
    · exact ⟨_, rfl, cl, _, _, _, rfl, rfl, SqL.of hcl, at_of (j := 0) (v := .int 1) rfl rfl, _, rfl, rfl, _, rfl, iteT ⟨_, rfl, s, dx, _, rfl, hI, hno _ (by decide +kernel) (by decide +kernel) (by decide +kernel) (by decide +kernel), _, rfl, cl, _, _, _, rfl, rfl, SqL.of hcl, at_of (j := 1) (v := .int x) rfl rfl, _, rfl, cl, _, _, _, rfl, rfl, SqL.of hcl, at_of (j := 2) (v := .int y) rfl rfl, s, t, l, as, b, x, y, rfl, S, D⟩⟩
    · exact ⟨_, rfl, cl, _, _, _, rfl, rfl, SqL.of hcl, at_of (j := 0) (v := .int 2) rfl rfl, _, rfl, rfl, _, rfl, iteF ⟨_, rfl, rfl, _, rfl, iteT ⟨_, rfl, s, dx, _, rfl, hI, hno _ (by decide +kernel) (by decide +kernel) (by decide +kernel) (by decide +kernel), _, rfl, cl, _, _, _, rfl, rfl, SqL.of hcl, at_of (j := 1) (v := .int x) rfl rfl, _, rfl, cl, _, _, _, rfl, rfl, SqL.of hcl, at_of (j := 2) (v := .int y) rfl rfl, _, rfl, cl, _, _, _, rfl, rfl, SqL.of hcl, at_of (j := 3) (v := .int u) rfl rfl, s, t, l, as, b, x, y, u, rfl, S, D⟩⟩⟩
    · exact ⟨_, rfl, cl, _, _, _, rfl, rfl, SqL.of hcl, at_of (j := 0) (v := .int 3) rfl rfl, _, rfl, rfl, _, rfl, iteF ⟨_, rfl, rfl, _, rfl, iteF ⟨_, rfl, rfl, _, rfl, iteT ⟨_, rfl, s, dx, _, rfl, hI, hno _ (by decide +kernel) (by decide +kernel) (by decide +kernel) (by decide +kernel), _, rfl, cl, _, _, _, rfl, rfl, SqL.of hcl, at_of (j := 1) (v := .int x) rfl rfl, _, rfl, cl, _, _, _, rfl, rfl, SqL.of hcl, at_of (j := 2) (v := .int y) rfl rfl, _, rfl, cl, _, _, _, rfl, rfl, SqL.of hcl, at_of (j := 3) (v := .int u) rfl rfl, s, t, l, as, b, x, y, u, rfl, S, D⟩⟩⟩⟩
    · exact ⟨_, rfl, cl, _, _, _, rfl, rfl, SqL.of hcl, at_of (j := 0) (v := .int 4) rfl rfl, _, rfl, rfl, _, rfl, iteF ⟨_, rfl, rfl, _, rfl, iteF ⟨_, rfl, rfl, _, rfl, iteF ⟨_, rfl, rfl, _, rfl, iteT ⟨_, rfl, s, dx, _, rfl, hI, hno _ (by decide +kernel) (by decide +kernel) (by decide +kernel) (by decide +kernel), _, rfl, cl, _, _, _, rfl, rfl, SqL.of hcl, at_of (j := 1) (v := .int x) rfl rfl, s, t, l, as, b, x, rfl, S, D⟩⟩⟩⟩⟩
    · exact ⟨_, rfl, cl, _, _, _, rfl, rfl, SqL.of hcl, at_of (j := 0) (v := .int 5) rfl rfl, _, rfl, rfl, _, rfl, iteF ⟨_, rfl, rfl, _, rfl, iteF ⟨_, rfl, rfl, _, rfl, iteF ⟨_, rfl, rfl, _, rfl, iteF ⟨_, rfl, rfl, _, rfl, iteT ⟨_, rfl, s, dx, _, rfl, hI, hno _ (by decide +kernel) (by decide +kernel) (by decide +kernel) (by decide +kernel), _, rfl, cl, _, _, _, rfl, rfl, SqL.of hcl, at_of (j := 1) (v := .int x) rfl rfl, _, rfl, cl, _, _, _, rfl, rfl, SqL.of hcl, at_of (j := 2) (v := .int y) rfl rfl, _, rfl, cl, _, _, _, rfl, rfl, SqL.of hcl, at_of (j := 3) (v := .int u) rfl rfl, s, t, l, as, b, x, y, u, rfl, S, D⟩⟩⟩⟩⟩⟩
    · exact ⟨_, rfl, cl, _, _, _, rfl, rfl, SqL.of hcl, at_of (j := 0) (v := .int 6) rfl rfl, _, rfl, rfl, _, rfl, iteF ⟨_, rfl, rfl, _, rfl, iteF ⟨_, rfl, rfl, _, rfl, iteF ⟨_, rfl, rfl, _, rfl, iteF ⟨_, rfl, rfl, _, rfl, iteF ⟨_, rfl, rfl, _, rfl, iteT ⟨_, rfl, s, dx, _, rfl, hI, hno _ (by decide +kernel) (by decide +kernel) (by decide +kernel) (by decide +kernel), _, rfl, cl, _, _, _, rfl, rfl, SqL.of hcl, at_of (j := 1) (v := .int x) rfl rfl, s, t, l, as, b, x, rfl, S, D⟩⟩⟩⟩⟩⟩⟩
    · exact ⟨_, rfl, cl, _, _, _, rfl, rfl, SqL.of hcl, at_of (j := 0) (v := .int 7) rfl rfl, _, rfl, rfl, _, rfl, iteF ⟨_, rfl, rfl, _, rfl, iteF ⟨_, rfl, rfl, _, rfl, iteF ⟨_, rfl, rfl, _, rfl, iteF ⟨_, rfl, rfl, _, rfl, iteF ⟨_, rfl, rfl, _, rfl, iteF ⟨_, rfl, s, dx, _, rfl, hI, hno _ (by decide +kernel) (by decide +kernel) (by decide +kernel) (by decide +kernel), _, rfl, cl, _, _, _, rfl, rfl, SqL.of hcl, at_of (j := 1) (v := .int x) rfl rfl, s, t, l, as, b, x, rfl, S, D⟩⟩⟩⟩⟩⟩⟩
theorem ok_qry {T : List (Addr × Str)} (TS : TS' K mg CS) (TCo : TC mg) (F : GFun K mg "answer_of_query" sQry)
    (M8 : MOk P w K mg base 4 CS "window" ["self", "i"] (spWin CS CD))
    (M9 : MOk P w K mg base 2 CS "risen" ["self", "i", "t"] (spRisenS CS CD))
    (M10 : MOk P w K mg base 5 CS "start_times" ["self", "order"] (spStartT CS CD))
    (M11 : MOk P w K mg base 13 CS "plan" ["self"] (spPlan CS CD))
    (M12 : MOk P w K mg base 13 CS "most_doughs" ["self"] (spMost CS CD))
    (M13 : MOk P w K mg base 6 CS "earliest_deadline" ["self"] (spEarlD CS CD T))
    (M14 : MOk P w K mg base 12 CS "can_bake" ["self", "set_number"] (spCanB CS CD))
    (M15 : MOk P w K mg base 13 CS "plan_if_cooled" ["self", "i", "start", "to"] (spPlanIf CS CD))
    (M16 : MOk P w K mg base 2 CS "describe" ["self"] (spDesc CS CD))
    : GOk P w K mg base 14 "answer_of_query" ["schedule", "call"] (spQry CS CD T) := by
  obtain ⟨f, fd, F, n⟩ := F.ex
  refine ⟨f, fd, F.ok scQry (fun vs H Q E h => ?_) (fun cdv A outer s H vs Q E hr h => ?_), F.binds fun _ _ _ _ _ _ us hl => match us, hl with | [_, _], _ => rfl, n, F.kp⟩
  · obtain ⟨s, t, l, cl, as, b, c, k, z, rfl, _⟩ := h
    rfl
  · obtain ⟨s, t, l, cl, as, b, c, k, z, rfl, S, hcl, hc, hk, hz, h8, hT, D⟩ := h
    obtain ⟨dx, hI⟩ := S.ins
    have hr2 : Room 2 _ := hr.mono (by decide)
    have hr4 : Room 4 _ := hr.mono (by decide)
    have hr5 : Room 5 _ := hr.mono (by decide)
    have hr6 : Room 6 _ := hr.mono (by decide)
    have hr12 : Room 12 _ := hr.mono (by decide)
    have hr13 : Room 13 _ := hr.mono (by decide)
    refine ⟨_, pss_cons (ps_set (i := 2) scQry.nd rfl (Or.inl rfl) (pe_ix ix_list (pv 1) pe_int (fun _ _ => rfl)))
      (pss_cons (ps_if (pt_cmpR op_eq (pv 2) (pe_const TCo.c8) (nomark _)) (pss_one (ps_ret (pe_m (pv 0) TS.cl M8 hr4 (pa_cons (pe_ix ix_list (pv 1) pe_int (fun _ _ => rfl)) pa_nil)))) pss_nil)
      (pss_cons (ps_if (pt_cmpR op_eq (pv 2) (pe_const TCo.c9) (nomark _)) (pss_one (ps_ret (pe_m (pv 0) TS.cl M9 hr2 (pa_cons (pe_ix ix_list (pv 1) pe_int (fun _ _ => rfl)) (pa_cons (pe_ix ix_list (pv 1) pe_int (fun _ _ => rfl)) pa_nil))))) pss_nil)
      (pss_cons (ps_if (pt_cmpR op_eq (pv 2) (pe_const TCo.c10) (nomark _)) (pss_one (ps_ret (pe_m (pv 0) TS.cl M10 hr5 (pa_cons (pe_slice sl_list (pv 1) (po_some pe_int) po_none) pa_nil)))) pss_nil)
      (pss_cons (ps_if (pt_cmpR op_eq (pv 2) (pe_const TCo.c11) (nomark _)) (pss_one (ps_ret (pe_m0 (pv 0) TS.cl M11 hr13))) pss_nil)
      (pss_cons (ps_if (pt_cmpR op_eq (pv 2) (pe_const TCo.c12) (nomark _)) (pss_one (ps_ret (pe_m0 (pv 0) TS.cl M12 hr13))) pss_nil)
      (pss_cons (ps_if (pt_cmpR op_eq (pv 2) (pe_const TCo.c13) (nomark _)) (pss_one (ps_ret (pe_m0 (pv 0) TS.cl M13 hr6))) pss_nil)
      (pss_cons (ps_if (pt_cmpR op_eq (pv 2) (pe_const TCo.c14) (nomark _)) (pss_one (ps_ret (pe_m (pv 0) TS.cl M14 hr12 (pa_cons (pe_ix ix_list (pv 1) pe_int (fun _ _ => rfl)) pa_nil)))) pss_nil)
      (pss_cons (ps_if (pt_cmpR op_eq (pv 2) (pe_const TCo.c15) (nomark _)) (pss_one (ps_ret (pe_m (pv 0) TS.cl M15 hr13 (pa_cons (pe_ix ix_list (pv 1) pe_int (fun _ _ => rfl)) (pa_cons (pe_ix ix_list (pv 1) pe_int (fun _ _ => rfl)) (pa_cons (pe_ix ix_list (pv 1) pe_int (fun _ _ => rfl)) pa_nil)))))) pss_nil)
      (pss_one (ps_ret (pe_m0 (pv 0) TS.cl M16 hr2))))))))))), ?_⟩
    have hno : ∀ m : Str, (m == ("hours" : Str)) = false → (m == ("baking_time" : Str)) = false → (m == ("temperatures" : Str)) = false → (m == ("doughs" : Str)) = false → (sF b t l).lookup m = none := fun m h1 h2 h3 h4 => sF_no b t l h1 h2 h3 h4
    rcases qry_cases hc hk hz h8 with ⟨x, rfl, rfl⟩ | ⟨x, y, rfl, rfl⟩ | ⟨r, rfl, rfl, h70⟩ | ⟨rfl, rfl⟩ | ⟨rfl, rfl⟩ | ⟨rfl, rfl⟩ | ⟨x, rfl, rfl⟩ | ⟨x, y, u, rfl, rfl⟩ | ⟨rfl, rfl⟩
    · exact ⟨_, rfl, cl, _, _, _, rfl, rfl, SqL.of hcl, at_of (j := 0) (v := .int 8) rfl rfl, _, rfl, rfl, _, rfl, iteT ⟨_, rfl, s, dx, _, rfl, hI, hno _ (by decide +kernel) (by decide +kernel) (by decide +kernel) (by decide +kernel), _, rfl, cl, _, _, _, rfl, rfl, SqL.of hcl, at_of (j := 1) (v := .int x) rfl rfl, s, t, l, as, b, x, rfl, S, D.toS hT⟩⟩
    · exact ⟨_, rfl, cl, _, _, _, rfl, rfl, SqL.of hcl, at_of (j := 0) (v := .int 9) rfl rfl, _, rfl, rfl, _, rfl, iteF ⟨_, rfl, rfl, _, rfl, iteT ⟨_, rfl, s, dx, _, rfl, hI, hno _ (by decide +kernel) (by decide +kernel) (by decide +kernel) (by decide +kernel), _, rfl, cl, _, _, _, rfl, rfl, SqL.of hcl, at_of (j := 1) (v := .int x) rfl rfl, _, rfl, cl, _, _, _, rfl, rfl, SqL.of hcl, at_of (j := 2) (v := .int y) rfl rfl, s, t, l, as, b, x, y, rfl, S, D.toS hT⟩⟩⟩
    · refine ⟨_, rfl, cl, _, _, _, rfl, rfl, SqL.of hcl, at_of (j := 0) (v := .int 10) rfl rfl, _, rfl, rfl, _, rfl, iteF ⟨_, rfl, rfl, _, rfl, iteF ⟨_, rfl, rfl, _, rfl, iteT ⟨_, rfl, s, dx, _, rfl, hI, hno _ (by decide +kernel) (by decide +kernel) (by decide +kernel) (by decide +kernel), _, rfl, _, rfl, cl, _, rfl, SqL.of hcl, fun p hp => ?_⟩⟩⟩⟩
      have s1 : Same H (upd H p (.lst (cutV (vInt (flat1 [[10], r])) (some 2) none))) := same_new hp
      have ecut : cutV (vInt (flat1 [[10], r])) (some 2) none = vInt r := cut_two r
      refine ⟨s, t, l, p, as, b, r, rfl, S.same s1, by rw [upd_same, ecut], h70, fun H' q s2 hq hn => D.toS hT H' q (s1.trans s2) hq (Same.free s1 hn)⟩
    · exact ⟨_, rfl, cl, _, _, _, rfl, rfl, SqL.of hcl, at_of (j := 0) (v := .int 11) rfl rfl, _, rfl, rfl, _, rfl, iteF ⟨_, rfl, rfl, _, rfl, iteF ⟨_, rfl, rfl, _, rfl, iteF ⟨_, rfl, rfl, _, rfl, iteT ⟨_, rfl, s, dx, _, rfl, hI, hno _ (by decide +kernel) (by decide +kernel) (by decide +kernel) (by decide +kernel), s, t, l, as, b, rfl, S, D.toS hT⟩⟩⟩⟩⟩
    · exact ⟨_, rfl, cl, _, _, _, rfl, rfl, SqL.of hcl, at_of (j := 0) (v := .int 12) rfl rfl, _, rfl, rfl, _, rfl, iteF ⟨_, rfl, rfl, _, rfl, iteF ⟨_, rfl, rfl, _, rfl, iteF ⟨_, rfl, rfl, _, rfl, iteF ⟨_, rfl, rfl, _, rfl, iteT ⟨_, rfl, s, dx, _, rfl, hI, hno _ (by decide +kernel) (by decide +kernel) (by decide +kernel) (by decide +kernel), s, t, l, as, b, rfl, S, D.toS hT⟩⟩⟩⟩⟩⟩
    · exact ⟨_, rfl, cl, _, _, _, rfl, rfl, SqL.of hcl, at_of (j := 0) (v := .int 13) rfl rfl, _, rfl, rfl, _, rfl, iteF ⟨_, rfl, rfl, _, rfl, iteF ⟨_, rfl, rfl, _, rfl, iteF ⟨_, rfl, rfl, _, rfl, iteF ⟨_, rfl, rfl, _, rfl, iteF ⟨_, rfl, rfl, _, rfl, iteT ⟨_, rfl, s, dx, _, rfl, hI, hno _ (by decide +kernel) (by decide +kernel) (by decide +kernel) (by decide +kernel), s, t, l, as, b, rfl, S, hT, D⟩⟩⟩⟩⟩⟩⟩
    · exact ⟨_, rfl, cl, _, _, _, rfl, rfl, SqL.of hcl, at_of (j := 0) (v := .int 14) rfl rfl, _, rfl, rfl, _, rfl, iteF ⟨_, rfl, rfl, _, rfl, iteF ⟨_, rfl, rfl, _, rfl, iteF ⟨_, rfl, rfl, _, rfl, iteF ⟨_, rfl, rfl, _, rfl, iteF ⟨_, rfl, rfl, _, rfl, iteF ⟨_, rfl, rfl, _, rfl, iteT ⟨_, rfl, s, dx, _, rfl, hI, hno _ (by decide +kernel) (by decide +kernel) (by decide +kernel) (by decide +kernel), _, rfl, cl, _, _, _, rfl, rfl, SqL.of hcl, at_of (j := 1) (v := .int x) rfl rfl, s, t, l, as, b, x, rfl, S, D.toS hT⟩⟩⟩⟩⟩⟩⟩⟩
    · exact ⟨_, rfl, cl, _, _, _, rfl, rfl, SqL.of hcl, at_of (j := 0) (v := .int 15) rfl rfl, _, rfl, rfl, _, rfl, iteF ⟨_, rfl, rfl, _, rfl, iteF ⟨_, rfl, rfl, _, rfl, iteF ⟨_, rfl, rfl, _, rfl, iteF ⟨_, rfl, rfl, _, rfl, iteF ⟨_, rfl, rfl, _, rfl, iteF ⟨_, rfl, rfl, _, rfl, iteF ⟨_, rfl, rfl, _, rfl, iteT ⟨_, rfl, s, dx, _, rfl, hI, hno _ (by decide +kernel) (by decide +kernel) (by decide +kernel) (by decide +kernel), _, rfl, cl, _, _, _, rfl, rfl, SqL.of hcl, at_of (j := 1) (v := .int x) rfl rfl, _, rfl, cl, _, _, _, rfl, rfl, SqL.of hcl, at_of (j := 2) (v := .int y) rfl rfl, _, rfl, cl, _, _, _, rfl, rfl, SqL.of hcl, at_of (j := 3) (v := .int u) rfl rfl, s, t, l, as, b, x, y, u, rfl, S, D.toS hT⟩⟩⟩⟩⟩⟩⟩⟩⟩
    · exact ⟨_, rfl, cl, _, _, _, rfl, rfl, SqL.of hcl, at_of (j := 0) (v := .int 16) rfl rfl, _, rfl, rfl, _, rfl, iteF ⟨_, rfl, rfl, _, rfl, iteF ⟨_, rfl, rfl, _, rfl, iteF ⟨_, rfl, rfl, _, rfl, iteF ⟨_, rfl, rfl, _, rfl, iteF ⟨_, rfl, rfl, _, rfl, iteF ⟨_, rfl, rfl, _, rfl, iteF ⟨_, rfl, rfl, _, rfl, iteF ⟨_, rfl, s, dx, _, rfl, hI, hno _ (by decide +kernel) (by decide +kernel) (by decide +kernel) (by decide +kernel), s, t, l, as, b, rfl, S, D.toS hT⟩⟩⟩⟩⟩⟩⟩⟩⟩
end
end Bk
/-! The row of a specification whose def makes lambdas: one table of a code object, empty at first, stands beside the arguments in the abstract heap. -/
namespace Bk
open PySem PyProof.Rows L2 LamX
open PySem.W (Codec OpenSpec WData WellAll ReadsW)
/-- a table in which nothing was made yet -/
abbrev tab0 : Obj := { cls := .none, data := .fields #[] }
/-- what neither an argument nor an empty table bears -/
def firm : Data → Bool
  | .seq .. => false
  | .fields vs => !vs.isEmpty
  | _ => true
def isRow : Data → Bool
  | .seq .. => true
  | _ => false
theorem firm_row {d : Data} (f : firm d = true) (r : isRow d = true) : False := by
  cases d <;> first | (cases f; done) | (cases r; done)
/-- at the call's beginning: H0 tells the arguments alone; the table at PT is empty and is no written part -/
structure Begun (P : Program) (w : World) (K : PySem.W.Frag) (h : Heap) (PT : Addr) (H0 : Hp) : Prop where
  frz : OnlyF H0
  ok : HOk P w H0 h
  row : ∀ b u, H0 b = some u → K.lookup b = none ∧ ∃ o, h.get? b = some o ∧ isRow o.data = true
  tab : h.get? PT = some tab0
  out : K.lookup PT = none
/-- the arguments and the table -/
abbrev Both (H0 : Hp) (PT : Addr) : Hp := upd H0 PT (.tbl #[])
section
variable {P : Program} {w : World} {K : PySem.W.Frag} {h : Heap} {PT c : Addr} {H0 : Hp} {mg mb : Str → Option Value}
theorem begun_args {vals : List Value} {ds : List WData} (X : K.In h) (wl : WellAll w.params h vals ds) (pl : plWs ds = true) (wt : ∀ d ∈ ds, d.weight ≤ 1048576) (tab : h.get? PT = some tab0) (out : K.lookup PT = none) :
    ∃ H0, Begun P w K h PT H0 ∧ DwAll K H0 (vals.map toV) ds ∧ Vals (vals.map toV) vals := by
  obtain ⟨A, inA, obs⟩ := area_all ds vals wl pl wt
  refine ⟨argH K h A, ⟨argH_only obs, argH_ok obs, fun b u e => ?_, tab, out⟩, dw_all X obs ds vals wl pl inA, vals_toV inA⟩
  obtain ⟨no, vs, _, _, q⟩ := argH_is obs e
  rcases q with ⟨q, _⟩ | ⟨q, _⟩ <;> exact ⟨no, _, q, rfl⟩
variable (B : Begun P w K h PT H0)
include B
theorem Begun.free : H0 PT = none := by
  cases z : H0 PT with
  | none => rfl
  | some u =>
    obtain ⟨_, o, h1, h2⟩ := B.row PT u z
    cases B.tab.symm.trans h1
    cases h2
theorem Begun.same : Same H0 (Both H0 PT) := same_new B.free
theorem Begun.held : HOk P w (Both H0 PT) h := fun b u e => by
  by_cases q : b = PT
  · subst q
    cases upd_same.symm.trans e
    exact B.tab
  · have e2 : H0 b = some u := (upd_ne q).symm.trans e
    exact (B.ok b u e2).stay (fun _ _ _ z => z) (fun d z => B.same d _ z) fun d _ z => B.same d _ z
/-- what is firm stands in the base too -/
theorem Begun.shows {b : Addr} {o : Obj} (e : h.get? b = some o) (f : firm o.data = true) : (hidT h (Both H0 PT)).get? b = some o := by
  refine hidT_get e ?_
  by_cases q : b = PT
  · subst q
    cases B.tab.symm.trans e
    cases f
  · refine (upd_ne q).trans ?_
    cases z : H0 b with
    | none => rfl
    | some u =>
      obtain ⟨_, o2, h1, h2⟩ := B.row b u z
      cases e.symm.trans h1
      exact (firm_row f h2).elim
theorem Begun.names {a : Addr} {m : Str → Option Value} (n : h.Ns a m) : (hidT h (Both H0 PT)).Ns a m := by
  obtain ⟨o, es, ep, e, hd, rest⟩ := n
  exact ⟨o, es, ep, B.shows e (by rw [hd]; rfl), hd, rest⟩
theorem Begun.written {b : Addr} {o : Obj} (e : K.lookup b = some o) : Both H0 PT b = none := by
  have q : b ≠ PT := fun z => by
    subst z
    cases B.out.symm.trans e
  refine (upd_ne q).trans ?_
  cases z : H0 b with
  | none => rfl
  | some u => cases (B.row b u z).1.symm.trans e
/-- what the making of a lambda asks of the base -/
theorem Begun.maker {p : Program} {loose : List Str} {mean : ExcName → Option Value} (T : Top p loose mean mg mb h) (hc : PySem.W.CodeHd h c PT) : TabB (hidT h (Both H0 PT)) mg c PT := by
  have gd : ∀ {o : Obj}, h.get? mainGlobals = some o → ∃ es ep, o.data = .dict es ep := fun {o} e => by
    obtain ⟨u, es, ep, e1, hd, _⟩ := T.g
    cases e.symm.trans e1
    exact ⟨es, ep, hd⟩
  refine ⟨?_, ?_, fun z => ?_⟩
  · obtain ⟨o, vs, a1, a2, a3, a4, a5, a6, a7, e, ec, ed, e11, rest⟩ := hc
    refine ⟨o, vs, a1, a2, a3, a4, a5, a6, a7, B.shows e ?_, ec, ed, e11, rest⟩
    rw [ed]
    show (!vs.isEmpty) = true
    cases q : vs.isEmpty with
    | false => rfl
    | true =>
      rw [Array.isEmpty_iff.mp q] at e11
      cases e11
  · obtain ⟨m, u, x1, x2, x3, x4, x5, x6⟩ := T.bmain
    refine ⟨m, u, x1, x2, fun z => ?_, fun z => ?_, B.shows x3 (by rw [x6]; rfl), x4, x5, x6⟩
    · subst z
      obtain ⟨es, ep, hd⟩ := gd x3
      cases x6.symm.trans hd
    · subst z
      cases B.tab.symm.trans x3
      cases x6
  · obtain ⟨es, ep, hd⟩ := gd (z ▸ B.tab)
    cases hd
end
theorem one_call {P : Program} {w : World} {K : PySem.W.Frag} {mg mb : Str → Option Value} {p : Program} {loose : List Str} {mean : ExcName → Option Value} {k : Nat} {fa c PT : Addr} {fd : FuncData} {ps : List Str} {sp : Sp} {s : Shared} {vals : List Value} {ds : List WData} {R : PySem.W.WRecords} {cl : Str → Option Addr} {due : WData}
    (X : K.In s.heap) (T : Top p loose mean mg mb s.heap) (gs : s.gens = #[]) (tab : s.heap.get? PT = some tab0) (out : K.lookup PT = none) (hc : PySem.W.CodeHd s.heap c PT) (wl : WellAll w.params s.heap vals ds) (pl : plWs ds = true) (wt : ∀ d ∈ ds, d.weight ≤ 1048576) (room : Room k callerA)
    (F : ∀ base : Heap, K.In base → base.Ns mainGlobals mg → TabB base mg c PT → FnOk P w K mg base CX0 k fa fd ps sp) (bind : ∀ (s : Shared) (us : List Value), us.length = ps.length → BindsTo s fd ⟨us, []⟩ (ps.zip us)) (len : ds.length = ps.length)
    (told : ∀ (H0 : Hp) (xs : List V), OnlyF H0 → Same H0 (Both H0 PT) → DwAll K H0 xs ds → sp xs (Both H0 PT) (fun v H' => Dw K H' v due) fun _ _ _ => False) :
    codeAny (model P w) callerA (.call (.ref fa) ⟨vals, []⟩) (fun r z => ∃ u as, r = .ok (.ret u) ∧ ReadsW R cl z.heap u due as ∧ OldK s.heap z.heap ∧ z.os = s.os ∧ AllBare z.gens) s := by
  obtain ⟨H0, B, dw, rel⟩ := begun_args (P := P) X wl pl wt tab out
  have noS : ∀ b : Addr, b ∉ frs [] := fun b m => absurd (show b ∈ ([] : List Addr) from m) List.not_mem_nil
  have inB : K.In (hidT s.heap (Both H0 PT)) := fun b o e => hidT_get (X b o e) (B.written e)
  have md : L2.Mod K mg (hidT s.heap (Both H0 PT)) := ⟨inB, B.names T.g, ⟨mb, B.names T.b, T.builtins⟩, by
    obtain ⟨m, n1, n2⟩ := T.nolimit
    exact ⟨m, B.names n1, n2⟩⟩
  have env : Env0 P w K mg (hidT s.heap (Both H0 PT)) callerA [] s (Both H0 PT) :=
    { frames := rfl, mod := md, bs := fun b o e => of_hidT e, bsz := Nat.le_of_eq (hidT_size _ _), funs := trivial, frf := fun b m => absurd m (noS b), hok := B.held, bare := .of_eq gs }
  have nv : vals.length = ps.length := (wellAll_len wl).trans len
  refine codeAny_mono ((F _ inB (B.names T.g) (B.maker T hc)).run callerA [] s _ ⟨vals, []⟩ vals _ _ _ room env (bind s vals nv) rel (told H0 _ B.frz B.same dw)) fun r z fin => ?_
  match r, fin with
  | .error e, fin => exact False.elim fin
  | .ok .next, fin => exact False.elim fin
  | .ok .brk, fin => exact False.elim fin
  | .ok .cont, fin => exact False.elim fin
  | .ok (.ret u), fin =>
    obtain ⟨v, H', os, bare, un, ok', rv, dv⟩ := fin
    -- all but the table stands as it stood
    have stays : ∀ b o, b ≠ PT → s.heap.get? b = some o → z.heap.get? b = some o := fun b o nb e => by
      cases e0 : H0 b with
      | none => exact un.keep b o e ((upd_ne nb).trans e0) (noS b) List.not_mem_nil
      | some x =>
        obtain ⟨ob, y, ex⟩ := (B.frz b).resolve_left fun n => by cases n.symm.trans e0
        have at0 := B.same b _ ex
        have o1 := (B.held b _ at0).1
        have o2 := (ok' b _ (un.frzs b ob y at0)).1
        cases e.symm.trans o1
        exact o2
    obtain ⟨more, grown⟩ := un.tbls PT #[] upd_same
    have tab1 : z.heap.get? PT = some { cls := .none, data := .fields (#[] ++ more) } := ok' PT _ grown
    obtain ⟨as, rd⟩ := Dw.reads (R := R) (cl := cl) ok' (fun b o e => stays b o (fun q => by subst q; cases B.out.symm.trans e) (X b o e)) due v u dv rv
    refine ⟨u, as, rfl, rd, { old := fun b o e => ?_, there := fun b o e => ?_ }, os, bare⟩
    · by_cases q : b = PT
      · subst q
        cases B.tab.symm.trans e
        exact .inr (.inl ⟨(hc.tab B.tab).isCodeTable, rfl, #[], more, rfl, tab1⟩)
      · exact .inl (stays b o q e)
    · by_cases q : b = PT
      · subst q
        exact ⟨_, tab1⟩
      · exact ⟨o, stays b o q e⟩
/-- the goal that the head leaves, from the promise of the row's def, which makes lambdas: its code object at c, the table at PT -/
theorem walk_one {r : OpenSpec} {k : Nat} {q : Program} {loose : List Str} {XP : (Str → Option Value) → Heap → Prop} {YP : World → Heap → Prop} {d : DefRec} {K : Params → PySem.W.Frag} {ps : List Str} {c PT : Addr} {sp : PySem.W.Frag → Sp}
    (well : r.wellSaid = true) (len : r.args.length = ps.length) (room : Room k callerA) (says : ∀ (w : World) (h : Heap), YP w h → (K w.params).In h ∧ h.get? PT = some tab0)
    (facts : ∀ (w : World) (mg : Str → Option Value) (fa : Addr) (h : Heap), (K w.params).In h → h.Ns mainGlobals mg → mg d.name = some (.ref fa) → (K w.params).lookup PT = none ∧ PySem.W.CodeHd h c PT ∧
      ∃ fd : FuncData, (∀ (s : Shared) (us : List Value), us.length = ps.length → BindsTo s fd ⟨us, []⟩ (ps.zip us)) ∧ ∀ base : Heap, (K w.params).In base → base.Ns mainGlobals mg → TabB base mg c PT → FnOk r.prog w (K w.params) mg base CX0 k fa fd ps (sp (K w.params)))
    (told : ∀ (K : PySem.W.Frag) (H0 : Hp) (xs : List V) (a : Codec.denoteAll r.args), OnlyF H0 → Same H0 (Both H0 PT) → Codec.withinAll r.args a = true → Codec.app r.args r.asked a = true → DwAll K H0 xs (Codec.encAll r.args a) →
      sp K xs (Both H0 PT) (fun v H' => Dw K H' v (r.ret.enc (Codec.app r.args r.f a))) fun _ _ _ => False) :
    PySem.W.WalkOS q loose XP YP r d [] fun f vs => PySem.call f vs := by
  intro w sA sB mg mb gr y fa o1 v1 v2 v3 v4 v5 g1 g2 g3 g4 named gs args vals addrs pre lay rd wl low
  obtain ⟨a, dec, ask⟩ := PySem.W.os_pre_some pre
  obtain ⟨rfl, within⟩ := Codec.encAll_of_decAll r.args args a dec
  obtain ⟨X, tab⟩ := says w _ y
  obtain ⟨out, hc, fd, bind, F⟩ := facts w mg fa _ X gr.T.g named
  refine PySem.W.enter_call (codeAny_mono (one_call (R := []) (cl := classAt sA.heap) (due := r.ret.enc (Codec.app r.args r.f a)) X gr.T gs tab out hc wl (pl_encAll _ _) (layable_weight lay) room F bind ((encAll_len _ _).trans len) fun H0 xs h1 h2 h3 => told _ H0 xs a h1 h2 within ask h3) fun x z fin => ?_)
  obtain ⟨u, as, rfl, k1, k2, k3, k4⟩ := fin
  refine ⟨.inl ⟨u, _, as, rfl, fun _ => rfl, k1, (OpenSpec.post_iff well within _ _).mpr rfl, fun z => ?_⟩, k2, k3, k4⟩
  cases (show false = true from z)
end Bk
namespace Bk
open PySem PySem.Spec PyProof.Rows L2 LamX
open PySem.W (Codec)
section
variable {K : PySem.W.Frag} {mg : Str → Option Value} {h : Heap}
theorem mfun_mk {C f : Addr} {m qual : Str} {st : Stmt} {oc kV dc pm cd ct : Value} {od an : Option Addr} {sl : Array (Option Value)} (a : PySem.W.findIn K (.ref C) m = some (some (.ref f))) (i : PySem.W.isFn K (.ref f) = true)
    (l : K.lookup f = some ⟨oc, od, .func (PySem.W.fnOf m qual (defArgs st) (defBody st) (defScope st) .none kV dc pm an cd ct), sl⟩) (c : PySem.W.codeIn K cd qual = true) (k : PySem.W.keepIn K (.ref f) = true) : MFun K C m qual st :=
  ⟨f, _, fun_mk l c k, ⟨a, i, k⟩⟩
theorem gfun_mk (X : K.In h) (G : h.Ns mainGlobals mg) {f : Addr} {m : Str} {st : Stmt} {oc kV dc pm cd ct : Value} {od an : Option Addr} {sl : Array (Option Value)} (a : PySem.W.nsIn K mainGlobals m = some (some (.ref f)))
    (l : K.lookup f = some ⟨oc, od, .func (PySem.W.fnOf m m (defArgs st) (defBody st) (defScope st) .none kV dc pm an cd ct), sl⟩) (c : PySem.W.codeIn K cd m = true) (k : PySem.W.keepIn K (.ref f) = true) : GFun K mg m st :=
  ⟨f, _, fun_mk l c k, PySem.W.mg_of X G a⟩
theorem kfun_mk {C f : Addr} {qual : Str} {st : Stmt} {oc kV dc pm cd ct : Value} {od an : Option Addr} {sl : Array (Option Value)} (a : PySem.W.findIn K (.ref C) "__init__" = some (some (.ref f))) (i : PySem.W.isFn K (.ref f) = true)
    (l : K.lookup f = some ⟨oc, od, .func (PySem.W.fnOf "__init__" qual (defArgs st) (defBody st) (defScope st) .none kV dc pm an cd ct), sl⟩) (c : PySem.W.codeIn K cd qual = true) (k : PySem.W.keepIn K (.ref f) = true)
    (mk : PySem.W.makesIn K C = true) (kc : PySem.W.keepIn K (.ref C) = true) : ∃ f fd, Fun K "__init__" qual st f fd ∧ Mk K C f :=
  ⟨f, _, fun_mk l c k, ⟨mk, a, i, kc⟩⟩
theorem const_mk (X : K.In h) (G : h.Ns mainGlobals mg) {x : Str} {i : Int} {t : Tok} (a : PySem.W.nsIn K mainGlobals x = some (some (.int i t))) : ConstI mg x i := ⟨t, PySem.W.mg_of X G a⟩
theorem tup_mk (X : K.In h) (G : h.Ns mainGlobals mg) {x : Str} {a : Addr} {o : Obj} {its : Array Value} {n : Nat} {xs : List V} (e : PySem.W.nsIn K mainGlobals x = some (some (.ref a))) (l : K.lookup a = some o) (hc : o.cls = .type "tuple") (hd : o.data = .seq its n) (hs : its.size ≤ sizeLine) (hv : Vals xs its.toList) :
    ∃ a, mg x = some (.ref a) ∧ ∀ H, SqT K H a xs := ⟨a, PySem.W.mg_of X G e, fun _ => .inr ⟨o, its, n, l, hc, hd, hs, hv⟩⟩
theorem vals_go : ∀ (l : List Nat) (us : List Value), l.length = us.length → (∀ (i n : Nat) (u : Value), l[i]? = some n → us[i]? = some u → ∃ t, u = Value.int (n : Nat) t) → Vals (vNat l) us
  | [], [], _, _ => .nil
  | n :: l, u :: us, e, h => .cons (h 0 n u rfl rfl) (vals_go l us (by simpa using e) fun i n u a b => h (i + 1) n u a b)
theorem vals_nats {l : List Nat} {us : List Value} (e : l.length = us.length) (h : ∀ (i n : Nat) (u : Value), l[i]? = some n → us[i]? = some u → ∃ t, u = Value.int (n : Nat) t) : Vals (vNat l) us := vals_go l us e h
end
theorem mfunC_mk {K : PySem.W.Frag} {C f c : Addr} {m qual : Str} {st : Stmt} {oc kV dc pm ct : Value} {od an : Option Addr} {sl : Array (Option Value)} (a : PySem.W.findIn K (.ref C) m = some (some (.ref f))) (i : PySem.W.isFn K (.ref f) = true)
    (l : K.lookup f = some ⟨oc, od, .func (PySem.W.fnOf m qual (defArgs st) (defBody st) (defScope st) .none kV dc pm an (.ref c) ct), sl⟩) (cd : PySem.W.codeIn K (.ref c) qual = true) (k : PySem.W.keepIn K (.ref f) = true) : MFunC K C m qual st c :=
  ⟨f, _, ⟨⟨oc, od, kV, dc, pm, an, ct, sl, rfl, l, cd⟩, k⟩, ⟨a, i, k⟩⟩
theorem all_mk {P : Program} {w : World} {K : PySem.W.Frag} {h : Heap} {mg : Str → Option Value} {fa CD CB CP CS CR f cT PT : Addr} (X : K.In h) (G : h.Ns mainGlobals mg) (hfa : mg "answers" = some (.ref fa))
    {oc kV dc pm cd ct : Value} {od an : Option Addr} {sl : Array (Option Value)}
    (aD : PySem.W.nsIn K mainGlobals "Dough" = some (some (.ref CD)))
    (pgD : PySem.W.plainGet K CD Str.empty = true)
    (hdD : PySem.W.hasDictIn K CD = true)
    (poD : PySem.W.plainOver K CD = true)
    (saD : PySem.W.findIn K (.ref CD) "__setattr__" = some (some (.builtin "object.__setattr__")))
    (nD0 : PySem.W.findIn K (.ref CD) "mixed_at" = some none)
    (nD1 : PySem.W.findIn K (.ref CD) "minimum" = some none)
    (nD2 : PySem.W.findIn K (.ref CD) "maximum" = some none)
    (nD3 : PySem.W.findIn K (.ref CD) "cooled" = some none)
    (aB : PySem.W.nsIn K mainGlobals "Baking" = some (some (.ref CB)))
    (pgB : PySem.W.plainGet K CB Str.empty = true)
    (hdB : PySem.W.hasDictIn K CB = true)
    (poB : PySem.W.plainOver K CB = true)
    (saB : PySem.W.findIn K (.ref CB) "__setattr__" = some (some (.builtin "object.__setattr__")))
    (nB0 : PySem.W.findIn K (.ref CB) "windows" = some none)
    (nB1 : PySem.W.findIn K (.ref CB) "hours" = some none)
    (nB2 : PySem.W.findIn K (.ref CB) "baking_time" = some none)
    (aP : PySem.W.nsIn K mainGlobals "PlanSearch" = some (some (.ref CP)))
    (pgP : PySem.W.plainGet K CP Str.empty = true)
    (hdP : PySem.W.hasDictIn K CP = true)
    (poP : PySem.W.plainOver K CP = true)
    (saP : PySem.W.findIn K (.ref CP) "__setattr__" = some (some (.builtin "object.__setattr__")))
    (nP0 : PySem.W.findIn K (.ref CP) "baking" = some none)
    (nP1 : PySem.W.findIn K (.ref CP) "best_order" = some none)
    (nP2 : PySem.W.findIn K (.ref CP) "bound" = some none)
    (aS : PySem.W.nsIn K mainGlobals "Schedule" = some (some (.ref CS)))
    (pgS : PySem.W.plainGet K CS Str.empty = true)
    (hdS : PySem.W.hasDictIn K CS = true)
    (poS : PySem.W.plainOver K CS = true)
    (saS : PySem.W.findIn K (.ref CS) "__setattr__" = some (some (.builtin "object.__setattr__")))
    (nS0 : PySem.W.findIn K (.ref CS) "hours" = some none)
    (nS1 : PySem.W.findIn K (.ref CS) "baking_time" = some none)
    (nS2 : PySem.W.findIn K (.ref CS) "temperatures" = some none)
    (nS3 : PySem.W.findIn K (.ref CS) "doughs" = some none)
    (aR : PySem.W.nsIn K mainGlobals "Request" = some (some (.ref CR)))
    (pgR : PySem.W.plainGet K CR Str.empty = true)
    (hdR : PySem.W.hasDictIn K CR = true)
    (poR : PySem.W.plainOver K CR = true)
    (saR : PySem.W.findIn K (.ref CR) "__setattr__" = some (some (.builtin "object.__setattr__")))
    (nR0 : PySem.W.findIn K (.ref CR) "schedule" = some none)
    (k0 : ConstI mg "NO_INSTANCE" (-11))
    (k1 : ConstI mg "MISSING" (-2))
    (k2 : ConstI mg "OUT_OF_RANGE" (-22))
    (k3 : ConstI mg "TOO_MANY_DOUGHS" (-28))
    (k4 : ConstI mg "NOT_COOLED" (-6))
    (k5 : ConstI mg "NO_WINDOW" (-33))
    (k6 : ConstI mg "MOST_HOURS" (36))
    (k7 : ConstI mg "LONGEST_BAKING" (9))
    (k8 : ConstI mg "HIGHEST_TEMPERATURE" (40))
    (k9 : ConstI mg "HIGHEST_AMOUNT" (999))
    (k10 : ConstI mg "DOUGHS_AT_MOST" (6))
    (k11 : ConstI mg "RESTING_TEMPERATURE" (4))
    (k12 : ConstI mg "FIRST_TEMPERATURE" (24))
    (k13 : ConstI mg "CREATE" (0))
    (k14 : ConstI mg "SET_TEMPERATURE" (1))
    (k15 : ConstI mg "SET_TEMPERATURES" (2))
    (k16 : ConstI mg "ADD_DOUGH" (3))
    (k17 : ConstI mg "REMOVE_DOUGH" (4))
    (k18 : ConstI mg "COOL" (5))
    (k19 : ConstI mg "STOP_COOLING" (6))
    (k20 : ConstI mg "WINDOW" (8))
    (k21 : ConstI mg "RISEN" (9))
    (k22 : ConstI mg "START_TIMES" (10))
    (k23 : ConstI mg "PLAN" (11))
    (k24 : ConstI mg "MOST_DOUGHS" (12))
    (k25 : ConstI mg "EARLIEST_DEADLINE" (13))
    (k26 : ConstI mg "CAN_BAKE" (14))
    (k27 : ConstI mg "PLAN_IF_COOLED" (15))
    (z0 : PySem.W.nsIn K mainGlobals "range" = some none)
    (z1 : PySem.W.nsIn K mainGlobals "max" = some none)
    (z2 : PySem.W.nsIn K mainGlobals "len" = some none)
    (z3 : PySem.W.nsIn K mainGlobals "list" = some none)
    (z4 : PySem.W.nsIn K mainGlobals "min" = some none)
    (z5 : PySem.W.nsIn K mainGlobals "set" = some none)
    (z6 : PySem.W.nsIn K mainGlobals "all" = some none)
    (tw : ∃ a, mg "WHOLE_NUMBERS" = some (.ref a) ∧ ∀ H, SqT K H a (vNat wn))
    (m0 : MFun K CD "risen_by" "Dough.risen_by" sRisen)
    (m1 : ∃ f fd, Fun K "__init__" "Dough.__init__" sDInit f fd ∧ Mk K CD f)
    (m2 : MFun K CD "cool_hours" "Dough.cool_hours" sCoolH)
    (m3 : MFun K CD "cool_never" "Dough.cool_never" sNever)
    (m4 : MFun K CD "is_ever_cooled" "Dough.is_ever_cooled" sEver)
    (m5 : MFun K CD "can_be_put_in" "Dough.can_be_put_in" sCan)
    (m6 : MFun K CD "times_of_window" "Dough.times_of_window" sTimes)
    (m7 : GFun K mg "is_number_of_hours" sIsH)
    (m8 : GFun K mg "is_baking_time" sIsB)
    (m9 : GFun K mg "is_temperature" sIsT)
    (m10 : GFun K mg "are_amounts" sAre)
    (m11 : GFun K mg "end_of_call" sEnd)
    (m12 : GFun K mg "single_calls" sSingle)
    (m13 : MFun K CS "has_hour" "Schedule.has_hour" sHasH)
    (m14 : MFun K CS "has_dough" "Schedule.has_dough" sHasD)
    (m15 : ∃ f fd, Fun K "__init__" "Schedule.__init__" sSInit f fd ∧ Mk K CS f)
    (m16 : MFun K CS "set_temperature" "Schedule.set_temperature" sSetT)
    (m17 : MFun K CS "set_temperatures" "Schedule.set_temperatures" sSetTs)
    (m18 : MFun K CS "add_dough" "Schedule.add_dough" sAdd)
    (m19 : MFun K CS "remove_dough" "Schedule.remove_dough" sRem)
    (m20 : MFun K CS "refusal_of_cooling" "Schedule.refusal_of_cooling" sRefusal)
    (m21 : MFun K CS "cool" "Schedule.cool" sCool)
    (m22 : MFun K CS "stop_cooling" "Schedule.stop_cooling" sStop)
    (m23 : MFun K CS "set_baking_time" "Schedule.set_baking_time" sSetB)
    (m24 : MFun K CD "number_of_cooled_hours" "Dough.number_of_cooled_hours" sCount)
    (m25 : MFun K CD "another_one" "Dough.another_one" sAnother)
    (m26 : ∃ f fd, Fun K "__init__" "Baking.__init__" sBInit f fd ∧ Mk K CB f)
    (m27 : MFun K CB "all_doughs" "Baking.all_doughs" sAll)
    (m28 : MFun K CB "begin_of_window" "Baking.begin_of_window" sBeg)
    (m29 : MFun K CB "end_of_window" "Baking.end_of_window" sEndW)
    (m30 : MFun K CB "doughs_with_a_window" "Baking.doughs_with_a_window" sWith)
    (m31 : MFun K CB "doughs_without_a_window" "Baking.doughs_without_a_window" sWithout)
    (m32 : MFun K CB "earliest_start" "Baking.earliest_start" sEarl)
    (m33 : MFun K CB "times_of_order" "Baking.times_of_order" sTimesO)
    (m34 : MFun K CB "finish_of_times" "Baking.finish_of_times" sFinT)
    (m35 : GFun K mg "number_of_sets" sNum)
    (m36 : GFun K mg "doughs_of_set" sSetOf)
    (m37 : ∃ f fd, Fun K "__init__" "PlanSearch.__init__" sPInit f fd ∧ Mk K CP f)
    (m38 : MFun K CP "try_orders" "PlanSearch.try_orders" sTry)
    (m39 : MFun K CB "order_of_plan" "Baking.order_of_plan" sPlanO)
    (m40 : MFun K CB "largest_set_with_a_plan" "Baking.largest_set_with_a_plan" sLarge)
    (m41 : MFun K CS "window" "Schedule.window" sWin)
    (m42 : MFun K CS "risen" "Schedule.risen" sRisenS)
    (m43 : MFun K CS "baking_of" "Schedule.baking_of" sBakeOf)
    (m44 : MFun K CS "is_order" "Schedule.is_order" sIsO)
    (m45 : MFun K CS "start_times" "Schedule.start_times" sStartT)
    (m46 : MFun K CS "plan_for" "Schedule.plan_for" sPlanFor)
    (m47 : MFun K CS "plan" "Schedule.plan" sPlan)
    (m48 : MFun K CS "most_doughs" "Schedule.most_doughs" sMost)
    (m49 : MFun K CS "can_bake" "Schedule.can_bake" sCanB)
    (m50 : MFun K CS "plan_if_cooled" "Schedule.plan_if_cooled" sPlanIf)
    (m51 : MFun K CS "describe" "Schedule.describe" sDesc)
    (mDead : MFunC K CB "order_by_deadline" "Baking.order_by_deadline" sDead cT)
    (m52 : MFun K CS "earliest_deadline" "Schedule.earliest_deadline" sEarlD)
    (m53 : ∃ f fd, Fun K "__init__" "Request.__init__" sRInit f fd ∧ Mk K CR f)
    (m54 : MFun K CR "create" "Request.create" sCreate)
    (m55 : MFun K CR "answer" "Request.answer" sAnswer)
    (m56 : GFun K mg "answer_of_change" sChg)
    (m57 : GFun K mg "answer_of_query" sQry)
    (ax : PySem.W.nsIn K mainGlobals "answers" = some (some (.ref f))) (lx : K.lookup f = some ⟨oc, od, .func (PySem.W.fnOf "answers" "answers" (defArgs sAnswers) (defBody sAnswers) (defScope sAnswers) .none kV dc pm an cd ct), sl⟩) (cx : PySem.W.codeIn K cd "answers" = true) (kx : PySem.W.keepIn K (.ref f) = true)
    (hc : PySem.W.codeHdIn K cT PT = true) :
    PySem.W.CodeHd h cT PT ∧ ∃ fd : FuncData, (∀ (s : Shared) (us : List Value), us.length = (["calls"] : List Str).length → BindsTo s fd ⟨us, []⟩ ((["calls"] : List Str).zip us)) ∧
      ∀ base : Heap, K.In base → base.Ns mainGlobals mg → TabB base mg cT PT → FnOk P w K mg base CX0 16 fa fd ["calls"] (spAnswers K [(PT, lamQ)]) := by
  have e := hfa.symm.trans (PySem.W.mg_of X G ax)
  cases e
  have TDo : TD K mg CD := ⟨⟨pgD, hdD, poD, saD⟩, nD0, nD1, nD2, nD3, (PySem.W.mg_none_of X G z0), (PySem.W.mg_none_of X G z1), (PySem.W.mg_none_of X G z2), k11⟩
  have TSo : TS' K mg CS := ⟨⟨pgS, hdS, poS, saS⟩, nS0, nS1, nS2, nS3, k12, k1, k2, k3, k10, k4, k5⟩
  have TBo : TB K mg CB := ⟨⟨pgB, hdB, poB, saB⟩, nB0, nB1, nB2, (PySem.W.mg_none_of X G z0), (PySem.W.mg_none_of X G z1), (PySem.W.mg_none_of X G z2), (PySem.W.mg_none_of X G z3), (PySem.W.mg_none_of X G z4)⟩
  have TPo : TP K mg CP := ⟨⟨pgP, hdP, poP, saP⟩, nP0, nP1, nP2⟩
  have TRo : TR K mg CR := ⟨⟨pgR, hdR, poR, saR⟩, nR0, k2, k0, k13, k20, (PySem.W.mg_none_of X G z2)⟩
  have TLo : TL mg := ⟨k6, k7, k8, k9⟩
  have TLa : TLay K mg := ⟨tw, k22, (PySem.W.mg_none_of X G z2)⟩
  have TCo : TC mg := ⟨k14, k15, k16, k17, k18, k19, k20, k21, k22, k23, k24, k25, k26, k27⟩
  refine ⟨PySem.W.codeHd_of_K X hc, PySem.W.fnOf "answers" "answers" (defArgs sAnswers) (defBody sAnswers) (defScope sAnswers) .none kV dc pm an cd ct, fun s us hu => match us, hu with | [_], _ => .of_eq rfl, fun base _ _ TBa => ?_⟩
  · skip
    have h0 : MOk P w K mg base 1 CD "risen_by" ["self", "t", "temperatures"] (spRisen CD) := ok_risen TDo m0
    have h1 : KOk P w K mg base 1 CD "Dough" ["self", "mixed_at", "minimum", "maximum", "hours"] (spDInit CD) := ok_dinit TDo m1 (PySem.W.mg_of X G aD)
    have h2 : MOk P w K mg base 1 CD "cool_hours" ["self", "start", "to"] (spCoolH CD) := ok_coolH TDo m2
    have h3 : MOk P w K mg base 1 CD "cool_never" ["self"] (spNever CD) := ok_never TDo m3
    have h4 : MOk P w K mg base 1 CD "is_ever_cooled" ["self"] (spEver CD) := ok_ever TDo m4
    have h5 : MOk P w K mg base 2 CD "can_be_put_in" ["self", "t", "temperatures"] (spCan CD) := ok_can TDo m5 h0
    have h6 : MOk P w K mg base 3 CD "times_of_window" ["self", "temperatures"] (spTimes CD) := ok_times TDo m6 h5
    have h7 : GOk P w K mg base 1 "is_number_of_hours" ["h"] (spIn 1 36) := ok_isH TLo m7
    have h8 : GOk P w K mg base 1 "is_baking_time" ["p"] (spIn 1 9) := ok_isB TLo m8
    have h9 : GOk P w K mg base 1 "is_temperature" ["temperature"] (spIn 0 40) := ok_isT TLo m9
    have h10 : GOk P w K mg base 1 "are_amounts" ["minimum", "maximum"] spAre := ok_are TLo m10
    have h11 : GOk P w K mg base 1 "end_of_call" ["calls", "place"] (spEnd K) := ok_end TLa m11
    have h12 : GOk P w K mg base 2 "single_calls" ["calls"] (spSingle K) := ok_single TLa m12 h11
    have h13 : MOk P w K mg base 1 CS "has_hour" ["self", "t"] (spHasH CS) := ok_hasH TSo m13
    have h14 : MOk P w K mg base 1 CS "has_dough" ["self", "i"] (spHasD K CS) := ok_hasD TSo (PySem.W.mg_none_of X G z2) m14
    have h15 : KOk P w K mg base 1 CS "Schedule" ["self", "hours", "baking_time"] (spSInit CS CD) := ok_sinit TSo m15 (PySem.W.mg_of X G aS)
    have h16 : MOk P w K mg base 2 CS "set_temperature" ["self", "t", "temperature"] (spSetT CS CD) := ok_setT TSo m16 h13 h9
    have h17 : MOk P w K mg base 2 CS "set_temperatures" ["self", "start", "to", "temperature"] (spSetTs CS CD) := ok_setTs TSo (PySem.W.mg_none_of X G z0) m17 h9
    have h18 : MOk P w K mg base 3 CS "add_dough" ["self", "mixed_at", "minimum", "maximum"] (spAdd CS CD) := ok_add TSo (PySem.W.mg_none_of X G z2) m18 h13 h10 h1
    have h19 : MOk P w K mg base 2 CS "remove_dough" ["self", "i"] (spRem CS CD) := ok_rem TSo (PySem.W.mg_none_of X G z2) m19 h14
    have h20 : MOk P w K mg base 2 CS "refusal_of_cooling" ["self", "i", "start", "to"] (spRefusal CS CD) := ok_refusal TSo m20 h14
    have h21 : MOk P w K mg base 4 CS "cool" ["self", "i", "start", "to"] (spCool CS CD) := ok_cool TSo TDo (PySem.W.mg_none_of X G z2) m21 h20 h2 h6
    have h22 : MOk P w K mg base 2 CS "stop_cooling" ["self", "i"] (spStop CS CD) := ok_stop TSo TDo m22 h14 h4 h3
    have h23 : MOk P w K mg base 2 CS "set_baking_time" ["self", "p"] (spSetB CS CD) := ok_setB TSo m23 h8
    have h24 : MOk P w K mg base 1 CD "number_of_cooled_hours" ["self"] (spCount CD) := ok_count TDo m24
    have h25 : MOk P w K mg base 3 CD "another_one" ["self"] (spAnother CD) := ok_another TDo (PySem.W.mg_none_of X G z3) m25 h1
    have h26 : KOk P w K mg base 1 CB "Baking" ["self", "windows", "hours", "baking_time"] (spBInit CB) := ok_binit TBo m26 (PySem.W.mg_of X G aB)
    have h27 : MOk P w K mg base 1 CB "all_doughs" ["self"] (spAll CB) := ok_all TBo m27
    have h28 : MOk P w K mg base 1 CB "begin_of_window" ["self", "i"] (spBeg CB) := ok_beg TBo m28
    have h29 : MOk P w K mg base 1 CB "end_of_window" ["self", "i"] (spEndW CB) := ok_endW TBo m29
    have h30 : MOk P w K mg base 2 CB "doughs_with_a_window" ["self"] (spWith CB) := ok_with TBo m30 h27
    have h31 : MOk P w K mg base 2 CB "doughs_without_a_window" ["self"] (spWithout CB) := ok_without TBo m31 h27
    have h32 : MOk P w K mg base 2 CB "earliest_start" ["self", "i", "free_from"] (spEarl CB) := ok_earl TBo m32 h28 h29
    have h33 : MOk P w K mg base 3 CB "times_of_order" ["self", "order"] (spTimesO CB) := ok_timesO TBo m33 h32
    have h34 : MOk P w K mg base 1 CB "finish_of_times" ["self", "times"] (spFinT CB) := ok_finT TBo m34
    have h35 : GOk P w K mg base 1 "number_of_sets" ["count"] spNum := ok_num m35
    have h36 : GOk P w K mg base 1 "doughs_of_set" ["set_number"] spSetOf := ok_setOf m36
    have h37 : KOk P w K mg base 1 CP "PlanSearch" ["self", "baking"] (spPInit CB CP) := ok_pinit TPo TBo m37 (PySem.W.mg_of X G aP)
    have h38 : MOk P w K mg base 10 CP "try_orders" ["self", "order", "free_from", "remaining"] (spTry CB CP 7) := ok_try TPo TBo m38 h32 7
    have h39 : MOk P w K mg base 11 CB "order_of_plan" ["self", "doughs"] (spPlanO CB) := ok_planO TPo TBo m39 h37 h38
    have h40 : MOk P w K mg base 12 CB "largest_set_with_a_plan" ["self"] (spLarge CB) := ok_large TBo m40 h35 h36 h39
    have h41 : MOk P w K mg base 4 CS "window" ["self", "i"] (spWin CS CD) := ok_win TSo TDo (PySem.W.mg_none_of X G z2) m41 h14 h6
    have h42 : MOk P w K mg base 2 CS "risen" ["self", "i", "t"] (spRisenS CS CD) := ok_risenS TSo TDo m42 h14 h0
    have h43 : MOk P w K mg base 4 CS "baking_of" ["self", "doughs"] (spBakeOf CS CD CB) := ok_bakeOf TSo TDo m43 h6 h26
    have h44 : MOk P w K mg base 2 CS "is_order" ["self", "order"] (spIsO CS) := ok_isO TSo (PySem.W.mg_none_of X G z2) (PySem.W.mg_none_of X G z5) (PySem.W.mg_none_of X G z6) m44 h14
    have h45 : MOk P w K mg base 5 CS "start_times" ["self", "order"] (spStartT CS CD) := ok_startT TSo TBo (PySem.W.mg_none_of X G z2) m45 h44 h43 h33
    have h46 : MOk P w K mg base 12 CS "plan_for" ["self", "doughs"] (spPlanFor CS CD) := ok_planFor TSo TBo m46 h43 h27 h39 h33 h34
    have h47 : MOk P w K mg base 13 CS "plan" ["self"] (spPlan CS CD) := ok_plan TSo m47 h46
    have h48 : MOk P w K mg base 13 CS "most_doughs" ["self"] (spMost CS CD) := ok_most TSo TBo (PySem.W.mg_none_of X G z2) m48 h43 h40 h39
    have h49 : MOk P w K mg base 12 CS "can_bake" ["self", "set_number"] (spCanB CS CD) := ok_canB TSo TBo (PySem.W.mg_none_of X G z2) m49 h35 h36 h43 h39
    have h50 : MOk P w K mg base 13 CS "plan_if_cooled" ["self", "i", "start", "to"] (spPlanIf CS CD) := ok_planIf TSo TDo (PySem.W.mg_none_of X G z2) (PySem.W.mg_none_of X G z3) m50 h20 h25 h2 h46
    have h51 : MOk P w K mg base 2 CS "describe" ["self"] (spDesc CS CD) := ok_desc TSo TDo (PySem.W.mg_none_of X G z2) m51 h24
    have h52 : MOk P w K mg base 5 CB "order_by_deadline" ["self"] (spDead CB [(PT, lamQ)]) := ok_dead TBo mDead TBa (List.mem_singleton.mpr rfl) (fun p hp _ => by rw [List.mem_singleton.mp hp]) h30 h31 h28 h29
    have h53 : MOk P w K mg base 6 CS "earliest_deadline" ["self"] (spEarlD CS CD [(PT, lamQ)]) := ok_earlD TSo TBo m52 h43 h52 h33
    have h54 : KOk P w K mg base 1 CR "Request" ["self"] (spRInit CR) := ok_rinit TRo m53 (PySem.W.mg_of X G aR)
    have h55 : MOk P w K mg base 3 CR "create" ["self", "h", "p"] (spCreate CR CS CD) := ok_create TRo m54 h7 h8 h15
    have h56 : GOk P w K mg base 5 "answer_of_change" ["schedule", "call"] (spChg CS CD) := ok_chg TSo TCo m56 h16 h17 h18 h19 h21 h22 h23
    have h57 : GOk P w K mg base 14 "answer_of_query" ["schedule", "call"] (spQry CS CD [(PT, lamQ)]) := ok_qry TSo TCo m57 h41 h42 h45 h47 h48 h53 h49 h50 h51
    have h58 : MOk P w K mg base 15 CR "answer" ["self", "call"] (spAnswer CR CS CD [(PT, lamQ)]) := ok_answer TRo m55 h55 (by decide) (h56.mono (by decide)) h57
    exact ok_answers TRo (fun_mk lx cx kx) h54 h12 (by decide) h58
end Bk
open PySem PySem.W PyProof.Rows
local macro_rules | `(tactic| o_headS ($f $k $a $e)) => `(tactic| o_headS (PySem.W.kmHook $k $a $e [139]))
set_option maxRecDepth 100000 in
set_option maxHeartbeats 0 in
theorem PySem.Challenge.cw_bakehours_s01_answers_holds : PySem.Challenge.rw_bakehours_s01_answers.Holds := by
  w_on; k_headS; (case hw => exact ⟨[.list [.int 12]], by decide +kernel, by decide +kernel⟩)
  k_fillS
  refine Bk.walk_one (r := PySem.Challenge.rw_bakehours_s01_answers) (k := 16) (ps := ["calls"]) (c := 141) (PT := 139) (sp := fun K => Bk.spAnswers K [(139, Bk.lamQ)]) (by decide +kernel) rfl ⟨rfl, by decide, by decide⟩ (fun w h Y => ⟨PySem.W.km_in_of Y, PySem.W.km_tabs_of Y 139 (List.mem_singleton.mpr rfl)⟩) ?F ?S
  case S =>
    intro K H0 xs a hO hs hwi hask hx
    cases hx with
    | cons h1 h2 =>
      cases h2
      cases h1 with
      | lst hs1 ha =>
        have e := L2.ints_dw a.1 _ ha
        subst e
        refine ⟨_, a.1, rfl, hs.seq hs1, fun p hp => ?_, hask, fun H' p hp => .lst (L2.SqL.of hp) (L2.dw_ints _)⟩
        rw [List.mem_singleton.mp hp]
        exact LamX.TabS.nil L2.upd_same
  case F =>
     intro w mg fa h KX G hmg
     refine ⟨by kernel_rfl, ?_⟩
     refine' Bk.all_mk KX G hmg ?aD ?pgD ?hdD ?poD ?saD ?nD0 ?nD1 ?nD2 ?nD3 ?aB ?pgB ?hdB ?poB ?saB ?nB0 ?nB1 ?nB2 ?aP ?pgP ?hdP ?poP ?saP ?nP0 ?nP1 ?nP2 ?aS ?pgS ?hdS ?poS ?saS ?nS0 ?nS1 ?nS2 ?nS3 ?aR ?pgR ?hdR ?poR ?saR ?nR0 ?k0 ?k1 ?k2 ?k3 ?k4 ?k5 ?k6 ?k7 ?k8 ?k9 ?k10 ?k11 ?k12 ?k13 ?k14 ?k15 ?k16 ?k17 ?k18 ?k19 ?k20 ?k21 ?k22 ?k23 ?k24 ?k25 ?k26 ?k27 ?z0 ?z1 ?z2 ?z3 ?z4 ?z5 ?z6 ?tw ?m0 ?m1 ?m2 ?m3 ?m4 ?m5 ?m6 ?m7 ?m8 ?m9 ?m10 ?m11 ?m12 ?m13 ?m14 ?m15 ?m16 ?m17 ?m18 ?m19 ?m20 ?m21 ?m22 ?m23 ?m24 ?m25 ?m26 ?m27 ?m28 ?m29 ?m30 ?m31 ?m32 ?m33 ?m34 ?m35 ?m36 ?m37 ?m38 ?m39 ?m40 ?m41 ?m42 ?m43 ?m44 ?m45 ?m46 ?m47 ?m48 ?m49 ?m50 ?m51 ?mDead ?m52 ?m53 ?m54 ?m55 ?m56 ?m57 ?ax ?lx ?cx ?kx ?hcdX
     (case aD => k_is)
     (case pgD => k_is)
     (case hdD => k_is)
     (case poD => k_is)
     (case saD => k_is)
     (case nD0 => k_is)
     (case nD1 => k_is)
     (case nD2 => k_is)
     (case nD3 => k_is)
     (case aB => k_is)
     (case pgB => k_is)
     (case hdB => k_is)
     (case poB => k_is)
     (case saB => k_is)
     (case nB0 => k_is)
     (case nB1 => k_is)
     (case nB2 => k_is)
     (case aP => k_is)
     (case pgP => k_is)
     (case hdP => k_is)
     (case poP => k_is)
     (case saP => k_is)
     (case nP0 => k_is)
     (case nP1 => k_is)
     (case nP2 => k_is)
     (case aS => k_is)
     (case pgS => k_is)
     (case hdS => k_is)
     (case poS => k_is)
     (case saS => k_is)
     (case nS0 => k_is)
     (case nS1 => k_is)
     (case nS2 => k_is)
     (case nS3 => k_is)
     (case aR => k_is)
     (case pgR => k_is)
     (case hdR => k_is)
     (case poR => k_is)
     (case saR => k_is)
     (case nR0 => k_is)
     (case k0 => refine' Bk.const_mk KX G ?a; (case a => k_is))
     (case k1 => refine' Bk.const_mk KX G ?a; (case a => k_is))
     (case k2 => refine' Bk.const_mk KX G ?a; (case a => k_is))
     (case k3 => refine' Bk.const_mk KX G ?a; (case a => k_is))
     (case k4 => refine' Bk.const_mk KX G ?a; (case a => k_is))
     (case k5 => refine' Bk.const_mk KX G ?a; (case a => k_is))
     (case k6 => refine' Bk.const_mk KX G ?a; (case a => k_is))
     (case k7 => refine' Bk.const_mk KX G ?a; (case a => k_is))
     (case k8 => refine' Bk.const_mk KX G ?a; (case a => k_is))
     (case k9 => refine' Bk.const_mk KX G ?a; (case a => k_is))
     (case k10 => refine' Bk.const_mk KX G ?a; (case a => k_is))
     (case k11 => refine' Bk.const_mk KX G ?a; (case a => k_is))
     (case k12 => refine' Bk.const_mk KX G ?a; (case a => k_is))
     (case k13 => refine' Bk.const_mk KX G ?a; (case a => k_is))
     (case k14 => refine' Bk.const_mk KX G ?a; (case a => k_is))
     (case k15 => refine' Bk.const_mk KX G ?a; (case a => k_is))
     (case k16 => refine' Bk.const_mk KX G ?a; (case a => k_is))
     (case k17 => refine' Bk.const_mk KX G ?a; (case a => k_is))
     (case k18 => refine' Bk.const_mk KX G ?a; (case a => k_is))
     (case k19 => refine' Bk.const_mk KX G ?a; (case a => k_is))
     (case k20 => refine' Bk.const_mk KX G ?a; (case a => k_is))
     (case k21 => refine' Bk.const_mk KX G ?a; (case a => k_is))
     (case k22 => refine' Bk.const_mk KX G ?a; (case a => k_is))
     (case k23 => refine' Bk.const_mk KX G ?a; (case a => k_is))
     (case k24 => refine' Bk.const_mk KX G ?a; (case a => k_is))
     (case k25 => refine' Bk.const_mk KX G ?a; (case a => k_is))
     (case k26 => refine' Bk.const_mk KX G ?a; (case a => k_is))
     (case k27 => refine' Bk.const_mk KX G ?a; (case a => k_is))
     (case z0 => k_is)
     (case z1 => k_is)
     (case z2 => k_is)
     (case z3 => k_is)
     (case z4 => k_is)
     (case z5 => k_is)
     (case z6 => k_is)
     (case tw => refine' Bk.tup_mk KX G ?ta ?tb ?tc ?td ?te ?tf; (case ta => k_is); (case tb => k_is); (case tc => rfl); (case td => rfl); (case te => decide); (case tf => exact Bk.vals_nats rfl (by intro i n u hn hu; match i, hn, hu with | 0, hn, hu => (cases hn; cases hu; exact ⟨_, rfl⟩) | 1, hn, hu => (cases hn; cases hu; exact ⟨_, rfl⟩) | 2, hn, hu => (cases hn; cases hu; exact ⟨_, rfl⟩) | 3, hn, hu => (cases hn; cases hu; exact ⟨_, rfl⟩) | 4, hn, hu => (cases hn; cases hu; exact ⟨_, rfl⟩) | 5, hn, hu => (cases hn; cases hu; exact ⟨_, rfl⟩) | 6, hn, hu => (cases hn; cases hu; exact ⟨_, rfl⟩) | 7, hn, hu => (cases hn; cases hu; exact ⟨_, rfl⟩) | 8, hn, hu => (cases hn; cases hu; exact ⟨_, rfl⟩) | 9, hn, hu => (cases hn; cases hu; exact ⟨_, rfl⟩) | 10, hn, hu => (cases hn; cases hu; exact ⟨_, rfl⟩) | 11, hn, hu => (cases hn; cases hu; exact ⟨_, rfl⟩) | 12, hn, hu => (cases hn; cases hu; exact ⟨_, rfl⟩) | 13, hn, hu => (cases hn; cases hu; exact ⟨_, rfl⟩) | 14, hn, hu => (cases hn; cases hu; exact ⟨_, rfl⟩) | 15, hn, hu => (cases hn; cases hu; exact ⟨_, rfl⟩) | 16, hn, hu => (cases hn; cases hu; exact ⟨_, rfl⟩) | i + 17, hn, _ => cases hn)))
     (case m0 => refine' Bk.mfun_mk ?a ?i ?l ?c ?k; (case a => k_is); (case i => k_is); (case l => k_is); (case c => k_is); (case k => k_is))
     (case m1 => refine' Bk.kfun_mk ?a ?i ?l ?c ?k ?mk ?kc; (case a => k_is); (case i => k_is); (case l => k_is); (case c => k_is); (case k => k_is); (case mk => k_is); (case kc => k_is))
     (case m2 => refine' Bk.mfun_mk ?a ?i ?l ?c ?k; (case a => k_is); (case i => k_is); (case l => k_is); (case c => k_is); (case k => k_is))
     (case m3 => refine' Bk.mfun_mk ?a ?i ?l ?c ?k; (case a => k_is); (case i => k_is); (case l => k_is); (case c => k_is); (case k => k_is))
     (case m4 => refine' Bk.mfun_mk ?a ?i ?l ?c ?k; (case a => k_is); (case i => k_is); (case l => k_is); (case c => k_is); (case k => k_is))
     (case m5 => refine' Bk.mfun_mk ?a ?i ?l ?c ?k; (case a => k_is); (case i => k_is); (case l => k_is); (case c => k_is); (case k => k_is))
     (case m6 => refine' Bk.mfun_mk ?a ?i ?l ?c ?k; (case a => k_is); (case i => k_is); (case l => k_is); (case c => k_is); (case k => k_is))
     (case m7 => refine' Bk.gfun_mk KX G ?a ?l ?c ?k; (case a => k_is); (case l => k_is); (case c => k_is); (case k => k_is))
     (case m8 => refine' Bk.gfun_mk KX G ?a ?l ?c ?k; (case a => k_is); (case l => k_is); (case c => k_is); (case k => k_is))
     (case m9 => refine' Bk.gfun_mk KX G ?a ?l ?c ?k; (case a => k_is); (case l => k_is); (case c => k_is); (case k => k_is))
     (case m10 => refine' Bk.gfun_mk KX G ?a ?l ?c ?k; (case a => k_is); (case l => k_is); (case c => k_is); (case k => k_is))
     (case m11 => refine' Bk.gfun_mk KX G ?a ?l ?c ?k; (case a => k_is); (case l => k_is); (case c => k_is); (case k => k_is))
     (case m12 => refine' Bk.gfun_mk KX G ?a ?l ?c ?k; (case a => k_is); (case l => k_is); (case c => k_is); (case k => k_is))
     (case m13 => refine' Bk.mfun_mk ?a ?i ?l ?c ?k; (case a => k_is); (case i => k_is); (case l => k_is); (case c => k_is); (case k => k_is))
     (case m14 => refine' Bk.mfun_mk ?a ?i ?l ?c ?k; (case a => k_is); (case i => k_is); (case l => k_is); (case c => k_is); (case k => k_is))
     (case m15 => refine' Bk.kfun_mk ?a ?i ?l ?c ?k ?mk ?kc; (case a => k_is); (case i => k_is); (case l => k_is); (case c => k_is); (case k => k_is); (case mk => k_is); (case kc => k_is))
     (case m16 => refine' Bk.mfun_mk ?a ?i ?l ?c ?k; (case a => k_is); (case i => k_is); (case l => k_is); (case c => k_is); (case k => k_is))
     (case m17 => refine' Bk.mfun_mk ?a ?i ?l ?c ?k; (case a => k_is); (case i => k_is); (case l => k_is); (case c => k_is); (case k => k_is))
     (case m18 => refine' Bk.mfun_mk ?a ?i ?l ?c ?k; (case a => k_is); (case i => k_is); (case l => k_is); (case c => k_is); (case k => k_is))
     (case m19 => refine' Bk.mfun_mk ?a ?i ?l ?c ?k; (case a => k_is); (case i => k_is); (case l => k_is); (case c => k_is); (case k => k_is))
     (case m20 => refine' Bk.mfun_mk ?a ?i ?l ?c ?k; (case a => k_is); (case i => k_is); (case l => k_is); (case c => k_is); (case k => k_is))
     (case m21 => refine' Bk.mfun_mk ?a ?i ?l ?c ?k; (case a => k_is); (case i => k_is); (case l => k_is); (case c => k_is); (case k => k_is))
     (case m22 => refine' Bk.mfun_mk ?a ?i ?l ?c ?k; (case a => k_is); (case i => k_is); (case l => k_is); (case c => k_is); (case k => k_is))
     (case m23 => refine' Bk.mfun_mk ?a ?i ?l ?c ?k; (case a => k_is); (case i => k_is); (case l => k_is); (case c => k_is); (case k => k_is))
     (case m24 => refine' Bk.mfun_mk ?a ?i ?l ?c ?k; (case a => k_is); (case i => k_is); (case l => k_is); (case c => k_is); (case k => k_is))
     (case m25 => refine' Bk.mfun_mk ?a ?i ?l ?c ?k; (case a => k_is); (case i => k_is); (case l => k_is); (case c => k_is); (case k => k_is))
     (case m26 => refine' Bk.kfun_mk ?a ?i ?l ?c ?k ?mk ?kc; (case a => k_is); (case i => k_is); (case l => k_is); (case c => k_is); (case k => k_is); (case mk => k_is); (case kc => k_is))
     (case m27 => refine' Bk.mfun_mk ?a ?i ?l ?c ?k; (case a => k_is); (case i => k_is); (case l => k_is); (case c => k_is); (case k => k_is))
     (case m28 => refine' Bk.mfun_mk ?a ?i ?l ?c ?k; (case a => k_is); (case i => k_is); (case l => k_is); (case c => k_is); (case k => k_is))
     (case m29 => refine' Bk.mfun_mk ?a ?i ?l ?c ?k; (case a => k_is); (case i => k_is); (case l => k_is); (case c => k_is); (case k => k_is))
     (case m30 => refine' Bk.mfun_mk ?a ?i ?l ?c ?k; (case a => k_is); (case i => k_is); (case l => k_is); (case c => k_is); (case k => k_is))
     (case m31 => refine' Bk.mfun_mk ?a ?i ?l ?c ?k; (case a => k_is); (case i => k_is); (case l => k_is); (case c => k_is); (case k => k_is))
     (case m32 => refine' Bk.mfun_mk ?a ?i ?l ?c ?k; (case a => k_is); (case i => k_is); (case l => k_is); (case c => k_is); (case k => k_is))
     (case m33 => refine' Bk.mfun_mk ?a ?i ?l ?c ?k; (case a => k_is); (case i => k_is); (case l => k_is); (case c => k_is); (case k => k_is))
     (case m34 => refine' Bk.mfun_mk ?a ?i ?l ?c ?k; (case a => k_is); (case i => k_is); (case l => k_is); (case c => k_is); (case k => k_is))
     (case m35 => refine' Bk.gfun_mk KX G ?a ?l ?c ?k; (case a => k_is); (case l => k_is); (case c => k_is); (case k => k_is))
     (case m36 => refine' Bk.gfun_mk KX G ?a ?l ?c ?k; (case a => k_is); (case l => k_is); (case c => k_is); (case k => k_is))
     (case m37 => refine' Bk.kfun_mk ?a ?i ?l ?c ?k ?mk ?kc; (case a => k_is); (case i => k_is); (case l => k_is); (case c => k_is); (case k => k_is); (case mk => k_is); (case kc => k_is))
     (case m38 => refine' Bk.mfun_mk ?a ?i ?l ?c ?k; (case a => k_is); (case i => k_is); (case l => k_is); (case c => k_is); (case k => k_is))
     (case m39 => refine' Bk.mfun_mk ?a ?i ?l ?c ?k; (case a => k_is); (case i => k_is); (case l => k_is); (case c => k_is); (case k => k_is))
     (case m40 => refine' Bk.mfun_mk ?a ?i ?l ?c ?k; (case a => k_is); (case i => k_is); (case l => k_is); (case c => k_is); (case k => k_is))
     (case m41 => refine' Bk.mfun_mk ?a ?i ?l ?c ?k; (case a => k_is); (case i => k_is); (case l => k_is); (case c => k_is); (case k => k_is))
     (case m42 => refine' Bk.mfun_mk ?a ?i ?l ?c ?k; (case a => k_is); (case i => k_is); (case l => k_is); (case c => k_is); (case k => k_is))
     (case m43 => refine' Bk.mfun_mk ?a ?i ?l ?c ?k; (case a => k_is); (case i => k_is); (case l => k_is); (case c => k_is); (case k => k_is))
     (case m44 => refine' Bk.mfun_mk ?a ?i ?l ?c ?k; (case a => k_is); (case i => k_is); (case l => k_is); (case c => k_is); (case k => k_is))
     (case m45 => refine' Bk.mfun_mk ?a ?i ?l ?c ?k; (case a => k_is); (case i => k_is); (case l => k_is); (case c => k_is); (case k => k_is))
     (case m46 => refine' Bk.mfun_mk ?a ?i ?l ?c ?k; (case a => k_is); (case i => k_is); (case l => k_is); (case c => k_is); (case k => k_is))
     (case m47 => refine' Bk.mfun_mk ?a ?i ?l ?c ?k; (case a => k_is); (case i => k_is); (case l => k_is); (case c => k_is); (case k => k_is))
     (case m48 => refine' Bk.mfun_mk ?a ?i ?l ?c ?k; (case a => k_is); (case i => k_is); (case l => k_is); (case c => k_is); (case k => k_is))
     (case m49 => refine' Bk.mfun_mk ?a ?i ?l ?c ?k; (case a => k_is); (case i => k_is); (case l => k_is); (case c => k_is); (case k => k_is))
     (case m50 => refine' Bk.mfun_mk ?a ?i ?l ?c ?k; (case a => k_is); (case i => k_is); (case l => k_is); (case c => k_is); (case k => k_is))
     (case m51 => refine' Bk.mfun_mk ?a ?i ?l ?c ?k; (case a => k_is); (case i => k_is); (case l => k_is); (case c => k_is); (case k => k_is))
     (case mDead => refine' Bk.mfunC_mk ?a ?i ?l ?c ?k; (case a => k_is); (case i => k_is); (case l => k_is); (case c => k_is); (case k => k_is))
     (case m52 => refine' Bk.mfun_mk ?a ?i ?l ?c ?k; (case a => k_is); (case i => k_is); (case l => k_is); (case c => k_is); (case k => k_is))
     (case m53 => refine' Bk.kfun_mk ?a ?i ?l ?c ?k ?mk ?kc; (case a => k_is); (case i => k_is); (case l => k_is); (case c => k_is); (case k => k_is); (case mk => k_is); (case kc => k_is))
     (case m54 => refine' Bk.mfun_mk ?a ?i ?l ?c ?k; (case a => k_is); (case i => k_is); (case l => k_is); (case c => k_is); (case k => k_is))
     (case m55 => refine' Bk.mfun_mk ?a ?i ?l ?c ?k; (case a => k_is); (case i => k_is); (case l => k_is); (case c => k_is); (case k => k_is))
     (case m56 => refine' Bk.gfun_mk KX G ?a ?l ?c ?k; (case a => k_is); (case l => k_is); (case c => k_is); (case k => k_is))
     (case m57 => refine' Bk.gfun_mk KX G ?a ?l ?c ?k; (case a => k_is); (case l => k_is); (case c => k_is); (case k => k_is))
     (case ax => k_is); (case lx => k_is); (case cx => k_is); (case kx => k_is)
     (case hcdX => kernel_rfl)
#print axioms PySem.Challenge.cw_bakehours_s01_answers_holds
