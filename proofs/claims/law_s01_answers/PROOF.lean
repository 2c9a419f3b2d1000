import PyProof.Rows.All
import Wide.All
import OpenK.AllK
import Wide.FinOn
import Open.SpecLaws
import KE.OsGo
import HandS.ForSpec
import HandS.Comp
import HandS.SortKw
import HandS.Walk
import KE.DatumOrd
import PySem.Challenge.RW_carriedover_s01_answers
set_option Elab.async false
set_option maxRecDepth 100000
set_option maxHeartbeats 4000000
set_option linter.unusedSimpArgs false
/-! The mathematics: plain Lean over the specification's own functions. -/
namespace Co
open Kp266 (digitsOf carried timesOf)

theorem half {p r f : Nat} (hp : 2 ≤ p) (h : r < 2 ^ (f + 1)) : r / p < 2 ^ f := by
  rw [Nat.pow_succ] at h
  refine (Nat.div_lt_iff_lt_mul (by omega)).2 ?_
  exact Nat.lt_of_lt_of_le h (Nat.mul_le_mul_left _ hp)

/-! ### digits -/
theorem dig_zero (p f : Nat) : digitsOf p f 0 = [] := by cases f <;> rfl
theorem dig_succ {p f r : Nat} (h : r ≠ 0) : digitsOf p (f + 1) r = r % p :: digitsOf p f (r / p) := by
  show (if r = 0 then [] else r % p :: digitsOf p f (r / p)) = _
  rw [if_neg h]
/-- between two turns of the loop: what is found so far, what is left -/
def DigAt (p n : Nat) (done : List Nat) (r : Nat) : Prop := ∃ f, digitsOf p 24 n = done ++ digitsOf p f r ∧ r < 2 ^ f ∧ done.length + f = 24
theorem digAt_start {p n : Nat} (h : n < 2 ^ 24) : DigAt p n [] n := ⟨24, rfl, h, rfl⟩
theorem digAt_turn {p n r : Nat} {done : List Nat} (hp : 2 ≤ p) (h : DigAt p n done r) (hr : 0 < r) : DigAt p n (done ++ [r % p]) (r / p) ∧ done.length < 24 := by
  obtain ⟨f, e, hlt, hl⟩ := h
  cases f with
  | zero => rw [Nat.pow_zero] at hlt; omega
  | succ f =>
    refine ⟨⟨f, ?_, half hp hlt, ?_⟩, by omega⟩
    · rw [e, dig_succ (by omega), List.append_assoc]; rfl
    · rw [List.length_append]; show done.length + 1 + f = 24; omega
theorem digAt_end {p n : Nat} {done : List Nat} (h : DigAt p n done 0) : done = Kp266.digits p n := by
  obtain ⟨f, e, _, _⟩ := h
  rw [dig_zero, List.append_nil] at e
  exact e.symm
theorem dig_len : ∀ (f p n : Nat), (digitsOf p f n).length ≤ f
  | 0, _, _ => Nat.le_refl _
  | f + 1, p, n => by
    by_cases h : n = 0
    · rw [h, dig_zero]; exact Nat.zero_le _
    · rw [dig_succ h]; exact Nat.succ_le_succ (dig_len f p (n / p))
theorem digits_len (p n : Nat) : (Kp266.digits p n).length ≤ 24 := dig_len 24 p n
/-- Kp266's sum is List.sum, over Int too -/
theorem sum_from : ∀ (l : List Nat) (a : Nat), l.foldl (fun (a d : Nat) => a + d) a = a + l.sum
  | [], a => by simp
  | x :: r, a => by rw [List.foldl_cons, sum_from r, List.sum_cons]; omega
theorem sum_eq (l : List Nat) : Kp266.sum l = l.sum := by
  unfold Kp266.sum; rw [sum_from, Nat.zero_add]
theorem sum_int : ∀ (l : List Nat), (l.map fun (x : Nat) => (x : Int)).sum = (l.sum : Int)
  | [] => rfl
  | x :: r => by rw [List.map_cons, List.sum_cons, sum_int r, List.sum_cons]; omega

/-! ### carries -/
theorem car_zero (p f i c : Nat) : carried p f i c 0 0 = [] := by cases f <;> rfl
theorem car_succ {p f i c a b : Nat} (h : 0 < a ∨ 0 < b) : carried p (f + 1) i c a b = if p ≤ a % p + b % p + c then i :: carried p f (i + 1) 1 (a / p) (b / p) else carried p f (i + 1) 0 (a / p) (b / p) := by
  show (if a = 0 ∧ b = 0 then [] else if p ≤ a % p + b % p + c then i :: carried p f (i + 1) 1 (a / p) (b / p) else carried p f (i + 1) 0 (a / p) (b / p)) = _
  rw [if_neg (by omega)]
/-- between two turns: where it was carried so far, the place, what is carried, what is left of both -/
def CarAt (p a0 b0 : Nat) (done : List Nat) (i c a b : Nat) : Prop := ∃ f, carried p 24 0 0 a0 b0 = done ++ carried p f i c a b ∧ a < 2 ^ f ∧ b < 2 ^ f ∧ i + f = 24 ∧ done.length ≤ i
theorem carAt_start {p a b : Nat} (ha : a < 2 ^ 24) (hb : b < 2 ^ 24) : CarAt p a b [] 0 0 a b := ⟨24, rfl, ha, hb, rfl, Nat.le_refl _⟩
theorem carAt_less {p a0 b0 i c a b : Nat} {done : List Nat} (h : CarAt p a0 b0 done i c a b) (hr : 0 < a ∨ 0 < b) : i < 24 ∧ done.length ≤ i := by
  obtain ⟨f, e, h1, h2, h3, h4⟩ := h
  cases f with
  | zero => rw [Nat.pow_zero] at h1 h2; omega
  | succ f => omega
theorem carAt_yes {p a0 b0 i c a b : Nat} {done : List Nat} (hp : 2 ≤ p) (h : CarAt p a0 b0 done i c a b) (hr : 0 < a ∨ 0 < b) (hs : p ≤ a % p + b % p + c) : CarAt p a0 b0 (done ++ [i]) (i + 1) 1 (a / p) (b / p) := by
  obtain ⟨f, e, h1, h2, h3, h4⟩ := h
  cases f with
  | zero => rw [Nat.pow_zero] at h1 h2; omega
  | succ f =>
    refine ⟨f, ?_, half hp h1, half hp h2, by omega, ?_⟩
    · rw [e, car_succ hr, if_pos hs, List.append_assoc]; rfl
    · rw [List.length_append]; show done.length + 1 ≤ i + 1; omega
theorem carAt_no {p a0 b0 i c a b : Nat} {done : List Nat} (hp : 2 ≤ p) (h : CarAt p a0 b0 done i c a b) (hr : 0 < a ∨ 0 < b) (hs : ¬ p ≤ a % p + b % p + c) : CarAt p a0 b0 done (i + 1) 0 (a / p) (b / p) := by
  obtain ⟨f, e, h1, h2, h3, h4⟩ := h
  cases f with
  | zero => rw [Nat.pow_zero] at h1 h2; omega
  | succ f =>
    refine ⟨f, ?_, half hp h1, half hp h2, by omega, by omega⟩
    rw [e, car_succ hr, if_neg hs]
theorem carAt_end {p a0 b0 i c a b : Nat} {done : List Nat} (h : CarAt p a0 b0 done i c a b) (hr : ¬ (0 < a ∨ 0 < b)) : done = Kp266.places p a0 b0 := by
  obtain ⟨f, e, _⟩ := h
  have ha : a = 0 := by omega
  have hb : b = 0 := by omega
  rw [ha, hb, car_zero, List.append_nil] at e
  exact e.symm
theorem car_len : ∀ (f p i c a b : Nat), (carried p f i c a b).length ≤ f
  | 0, _, _, _, _, _ => Nat.le_refl _
  | f + 1, p, i, c, a, b => by
    by_cases h : 0 < a ∨ 0 < b
    · rw [car_succ h]
      by_cases hs : p ≤ a % p + b % p + c
      · rw [if_pos hs]; exact Nat.succ_le_succ (car_len f p _ _ _ _)
      · rw [if_neg hs]; exact Nat.le_succ_of_le (car_len f p _ _ _ _)
    · have ha : a = 0 := by omega
      have hb : b = 0 := by omega
      rw [ha, hb, car_zero]; exact Nat.zero_le _
theorem places_len (p a b : Nat) : (Kp266.places p a b).length ≤ 24 := car_len 24 p 0 0 a b

/-! ### how often the prime divides -/
theorem tim_succ {p f r : Nat} (h : 0 < r) : timesOf p (f + 1) r = if r % p = 0 then timesOf p f (r / p) + 1 else 0 := by
  show (if r = 0 then 0 else if r % p = 0 then timesOf p f (r / p) + 1 else 0) = _
  rw [if_neg (by omega)]
def TimAt (p n k r : Nat) : Prop := ∃ f, timesOf p 24 n = k + timesOf p f r ∧ 0 < r ∧ r < 2 ^ f ∧ k + f = 24
theorem timAt_start {p n : Nat} (h0 : 0 < n) (h : n < 2 ^ 24) : TimAt p n 0 n := ⟨24, (Nat.zero_add _).symm, h0, h, rfl⟩
theorem timAt_pos {p n k r : Nat} (h : TimAt p n k r) : 0 < r ∧ r < 2 ^ 24 ∧ k ≤ 24 := by
  obtain ⟨f, _, h1, h2, h3⟩ := h
  exact ⟨h1, Nat.lt_of_lt_of_le h2 (Nat.pow_le_pow_right (by omega) (by omega)), by omega⟩
theorem timAt_turn {p n k r : Nat} (hp : 2 ≤ p) (h : TimAt p n k r) (hr : r % p = 0) : TimAt p n (k + 1) (r / p) := by
  obtain ⟨f, e, h1, h2, h3⟩ := h
  cases f with
  | zero => rw [Nat.pow_zero] at h2; omega
  | succ f =>
    refine ⟨f, ?_, ?_, half hp h2, by omega⟩
    · rw [e, tim_succ h1, if_pos hr]; omega
    · refine Nat.div_pos ?_ (by omega)
      exact Nat.le_of_dvd h1 (Nat.dvd_of_mod_eq_zero hr)
theorem timAt_end {p n k r : Nat} (h : TimAt p n k r) (hr : ¬ r % p = 0) : k = Kp266.times p n := by
  obtain ⟨f, e, h1, h2, h3⟩ := h
  cases f with
  | zero => rw [Nat.pow_zero] at h2; omega
  | succ f =>
    rw [tim_succ h1, if_neg hr] at e
    exact e.symm

/-! ### primes -/
theorem okP_low {n : Nat} (h : n < 2) : Kp266.okP n = false := by
  unfold Kp266.okP Kp266.isPrime
  rw [decide_eq_false (show ¬ 2 ≤ n by omega)]; simp
theorem okP_high {n : Nat} (h : 99 < n) : Kp266.okP n = false := by
  unfold Kp266.okP
  rw [decide_eq_false (show ¬ n < 100 by omega)]; rfl
theorem okP_found {n d : Nat} (h1 : 2 ≤ d) (h2 : d < n) (h : n % d = 0) : Kp266.okP n = false := by
  unfold Kp266.okP Kp266.isPrime
  have : (List.range n).all (fun d => decide (d < 2) || n % d != 0) = false := by
    rw [List.all_eq_false]
    refine ⟨d, List.mem_range.2 h2, ?_⟩
    rw [decide_eq_false (show ¬ d < 2 by omega), h]; decide
  rw [this]; simp
theorem okP_none {n : Nat} (h1 : 2 ≤ n) (h2 : n < 100) (h : ∀ d, 2 ≤ d → d < n → n % d ≠ 0) : Kp266.okP n = true := by
  unfold Kp266.okP Kp266.isPrime
  rw [decide_eq_true h1, decide_eq_true h2]
  show (List.range n).all _ = true
  rw [List.all_eq_true]
  intro d hd
  have := List.mem_range.1 hd
  by_cases c : d < 2
  · rw [decide_eq_true c]; rfl
  · rw [decide_eq_false c]
    simp only [Bool.false_or, bne_iff_ne]
    exact h d (by omega) this
theorem okP_bounds {n : Nat} (h : Kp266.okP n = true) : 2 ≤ n ∧ n < 100 := by
  unfold Kp266.okP Kp266.isPrime at h
  simp only [Bool.and_eq_true, decide_eq_true_eq] at h
  exact ⟨h.2.1, h.1⟩

/-! ### the calls in the list -/
open Kp266 (Call State)
def num : Call → Nat
  | .begin_ _ => 0 | .prime _ => 1 | .digits _ => 2 | .cross _ => 3 | .carries _ _ => 4 | .places _ _ => 5 | .three _ _ _ => 6 | .times _ => 7
  | .next _ => 8 | .ways _ _ => 9 | .most _ => 10 | .like _ => 11 | .from_ _ _ _ _ => 12 | .without _ _ => 13 | .told => 14
def args : Call → List Nat
  | .begin_ p => [p] | .prime p => [p] | .digits n => [n] | .cross n => [n] | .carries a b => [a, b] | .places a b => [a, b] | .three a b c => [a, b, c] | .times n => [n]
  | .next n => [n] | .ways n c => [n, c] | .most n => [n] | .like n => [n] | .from_ a b c d => [a, b, c, d] | .without a b => [a, b] | .told => []
def natInts (l : List Nat) : List Int := l.map fun (x : Nat) => (x : Int)
def Small (c : Call) : Prop := ∀ x ∈ args c, x < 4294967296
theorem whole_id (c : List (List Int)) : PyKp266.whole c = c := by
  unfold PyKp266.whole
  split <;> rfl
theorem wholes_id (cs : List (List (List Int))) : cs.map PyKp266.whole = cs := by
  have : PyKp266.whole = id := funext whole_id
  rw [this, List.map_id]
/-- one call as the list holds it -/
def code (c : Call) : List Int := (num c : Int) :: natInts (args c)
theorem nat_of {a : Int} (h : Kp266Neutral.natural a = true) : ∃ n : Nat, a = (n : Int) ∧ n < 4294967296 := by
  unfold Kp266Neutral.natural at h
  rw [Bool.and_eq_true, decide_eq_true_eq, decide_eq_true_eq] at h
  exact ⟨a.toNat, by omega, by omega⟩
theorem call_of {x : List (List Int)} (h : Kp266Neutral.asked1 x = true) : ∃ c : Call, x = [code c] ∧ Small c ∧ Kp266Neutral.callOf x = some c := by
  unfold Kp266Neutral.asked1 at h
  split at h
  case h_1 a => obtain ⟨n, rfl, hn⟩ := nat_of h; exact ⟨.begin_ n, rfl, by simp [Small, args, hn], rfl⟩
  case h_2 a => obtain ⟨n, rfl, hn⟩ := nat_of h; exact ⟨.prime n, rfl, by simp [Small, args, hn], rfl⟩
  case h_3 a => obtain ⟨n, rfl, hn⟩ := nat_of h; exact ⟨.digits n, rfl, by simp [Small, args, hn], rfl⟩
  case h_4 a => obtain ⟨n, rfl, hn⟩ := nat_of h; exact ⟨.cross n, rfl, by simp [Small, args, hn], rfl⟩
  case h_5 a b =>
    rw [Bool.and_eq_true] at h
    obtain ⟨n, rfl, hn⟩ := nat_of h.1; obtain ⟨m, rfl, hm⟩ := nat_of h.2
    exact ⟨.carries n m, rfl, by simp [Small, args, hn, hm], rfl⟩
  case h_6 a b =>
    rw [Bool.and_eq_true] at h
    obtain ⟨n, rfl, hn⟩ := nat_of h.1; obtain ⟨m, rfl, hm⟩ := nat_of h.2
    exact ⟨.places n m, rfl, by simp [Small, args, hn, hm], rfl⟩
  case h_7 a b c =>
    rw [Bool.and_eq_true, Bool.and_eq_true] at h
    obtain ⟨n, rfl, hn⟩ := nat_of h.1; obtain ⟨m, rfl, hm⟩ := nat_of h.2.1; obtain ⟨k, rfl, hk⟩ := nat_of h.2.2
    exact ⟨.three n m k, rfl, by simp [Small, args, hn, hm, hk], rfl⟩
  case h_8 a => obtain ⟨n, rfl, hn⟩ := nat_of h; exact ⟨.times n, rfl, by simp [Small, args, hn], rfl⟩
  case h_9 a => obtain ⟨n, rfl, hn⟩ := nat_of h; exact ⟨.next n, rfl, by simp [Small, args, hn], rfl⟩
  case h_10 a b =>
    rw [Bool.and_eq_true] at h
    obtain ⟨n, rfl, hn⟩ := nat_of h.1; obtain ⟨m, rfl, hm⟩ := nat_of h.2
    exact ⟨.ways n m, rfl, by simp [Small, args, hn, hm], rfl⟩
  case h_11 a => obtain ⟨n, rfl, hn⟩ := nat_of h; exact ⟨.most n, rfl, by simp [Small, args, hn], rfl⟩
  case h_12 a => obtain ⟨n, rfl, hn⟩ := nat_of h; exact ⟨.like n, rfl, by simp [Small, args, hn], rfl⟩
  case h_13 a b c d =>
    rw [Bool.and_eq_true, Bool.and_eq_true, Bool.and_eq_true] at h
    obtain ⟨n, rfl, hn⟩ := nat_of h.1; obtain ⟨m, rfl, hm⟩ := nat_of h.2.1; obtain ⟨k, rfl, hk⟩ := nat_of h.2.2.1; obtain ⟨j, rfl, hj⟩ := nat_of h.2.2.2
    exact ⟨.from_ n m k j, rfl, by simp [Small, args, hn, hm, hk, hj], rfl⟩
  case h_14 a b =>
    rw [Bool.and_eq_true] at h
    obtain ⟨n, rfl, hn⟩ := nat_of h.1; obtain ⟨m, rfl, hm⟩ := nat_of h.2
    exact ⟨.without n m, rfl, by simp [Small, args, hn, hm], rfl⟩
  case h_15 => exact ⟨.told, rfl, by simp [Small, args], rfl⟩
  case h_16 => cases h
/-- what one call answers -/
def said (s : State) (c : Call) : List Int := (Kp266.step s c).2.num :: (Kp266.step s c).2.nums
def after (s : State) (c : Call) : State := (Kp266.step s c).1
/-- the rest of the list, from a call's beginning on: the calls that it holds -/
inductive Holds : List Int → List Call → Prop where
  | nil : Holds [] []
  | cons {c : Call} {l : List Int} {cs : List Call} : Small c → Holds l cs → Holds (code c ++ l) (c :: cs)
def play : State → List Call → List Int
  | _, [] => []
  | s, c :: r => ((said s c).length : Int) :: said s c ++ play (after s c) r
theorem shape_if {c : Prop} [Decidable c] {x : Option (Nat × Nat)} {n m k : Nat} (h : (if c then some (m, 0) else x) = some (n, k)) (hx : x = some (n, k) → k = 0) : k = 0 := by
  by_cases hc : c
  · rw [if_pos hc] at h
    exact (congrArg Prod.snd (Option.some.inj h)).symm
  · rw [if_neg hc] at h
    exact hx h
theorem shape_rows {p : Int} {n k : Nat} (h : PyKp266.shape p = some (n, k)) : k = 0 :=
  shape_if h fun h => shape_if h fun h => shape_if h fun h => shape_if h fun h => shape_if h fun h => shape_if h fun h => shape_if h fun h => shape_if h fun h =>
  shape_if h fun h => shape_if h fun h => shape_if h fun h => shape_if h fun h => shape_if h fun h => shape_if h fun h => shape_if h fun h => nomatch h
theorem calls_holds : ∀ (f : Nat) (l : List Int) (raw : List (List (List Int))), PyFlat.calls PyKp266.shape f l = some raw → raw.all Kp266Neutral.asked1 = true →
    ∃ cs : List Call, Holds l cs ∧ cs.length = raw.length ∧ ∀ s : State, PyFlat.told (PyFlat.played Kp266Neutral.step s raw) = play s cs
  | f, [], raw, h, _ => by
    have : raw = [] := by cases f <;> (cases h; rfl)
    subst this
    exact ⟨[], .nil, rfl, fun _ => rfl⟩
  | 0, _ :: _, raw, h, _ => by cases h
  | f + 1, p :: r, raw, h, ha => by
    unfold PyFlat.calls at h
    cases hc : PyFlat.call PyKp266.shape (p :: r) with
    | none => rw [hc] at h; cases h
    | some ct =>
      obtain ⟨c, t⟩ := ct
      rw [hc] at h
      dsimp only at h
      cases hcs : PyFlat.calls PyKp266.shape f t with
      | none => rw [hcs] at h; cases h
      | some cs =>
        rw [hcs] at h
        cases h
        rw [List.all_cons, Bool.and_eq_true] at ha
        obtain ⟨ks, h1, h2, h3⟩ := calls_holds f t cs hcs ha.2
        obtain ⟨k, e, hk, hco⟩ := call_of ha.1
        -- the list is the call's numbers, then the rest
        have el : p :: r = code k ++ t := by
          unfold PyFlat.call at hc
          dsimp only at hc
          cases hs : PyKp266.shape p with
          | none => rw [hs] at hc; cases hc
          | some nk =>
            obtain ⟨n, m⟩ := nk
            have hm := shape_rows hs
            subst hm
            rw [hs] at hc
            dsimp only at hc
            split at hc
            · cases hc
            · next hlt =>
              unfold PyFlat.rows at hc
              dsimp only at hc
              have hc' := Option.some.inj hc
              have e1 : [p :: r.take n] = c := congrArg Prod.fst hc'
              have e2 : r.drop n = t := congrArg Prod.snd hc'
              rw [← e1] at e
              have e3 : p :: r.take n = code k := by
                have := List.cons.inj e
                exact this.1
              rw [← e3, ← e2, List.cons_append, List.take_append_drop]
        refine ⟨k :: ks, ?_, by simp [h2], fun s => ?_⟩
        · rw [el]; exact .cons hk h1
        · show PyFlat.told ((Kp266Neutral.step s c).2 :: PyFlat.played Kp266Neutral.step (Kp266Neutral.step s c).1 cs) = _
          have es : Kp266Neutral.step s c = (after s k, said s k) := by
            unfold Kp266Neutral.step
            rw [hco]
            rfl
          rw [es]
          unfold PyFlat.told
          rw [List.flatMap_cons]
          have := h3 (after s k)
          unfold PyFlat.told at this
          rw [this]
          rfl
theorem asked_holds {l : List Int} (h : PyKp266.answers_asked l = true) : ∃ cs : List Call, Holds l cs ∧ PyKp266.answers l = play none cs ∧ (play none cs).length ≤ 10000000 ∧ cs.length ≤ 80 := by
  unfold PyKp266.answers_asked at h
  cases hr : PyFlat.calls PyKp266.shape l.length l with
  | none => rw [hr] at h; cases h
  | some raw =>
    rw [hr] at h
    dsimp only at h
    rw [wholes_id] at h
    simp only [Bool.and_eq_true] at h
    obtain ⟨⟨⟨⟨_, h80⟩, _⟩, hask⟩, hsh⟩ := h
    unfold Kp266Neutral.asked at hask
    simp only [Bool.and_eq_true] at hask
    obtain ⟨cs, h1, h2, h3⟩ := calls_holds _ l raw hr hask.2.2
    have ea : PyKp266.answers l = play none cs := by
      unfold PyKp266.answers PyKp266.calls
      rw [hr]
      dsimp only
      rw [wholes_id]
      exact h3 none
    refine ⟨cs, h1, ea, ?_, ?_⟩
    · rw [← ea]
      unfold PyFlat.short at hsh
      exact of_decide_eq_true hsh
    · rw [h2]
      unfold PyFlat.atMost at h80
      exact of_decide_eq_true h80
/-! ### for the calls that walk over many numbers -/
theorem filter_more (f : Nat → Bool) (k : Nat) : (List.range (k + 1)).filter f = (List.range k).filter f ++ (if f k = true then [k] else []) := by
  rw [List.range_succ, List.filter_append]
  congr 1
  by_cases h : f k = true
  · rw [if_pos h, List.filter_cons_of_pos h]; rfl
  · rw [if_neg h, List.filter_cons_of_neg h]; rfl
theorem filter_yes {f : Nat → Bool} {k : Nat} (h : f k = true) : (List.range (k + 1)).filter f = (List.range k).filter f ++ [k] := by rw [filter_more, if_pos h]
theorem filter_no {f : Nat → Bool} {k : Nat} (h : f k = false) : (List.range (k + 1)).filter f = (List.range k).filter f := by rw [filter_more, if_neg (by rw [h]; exact Bool.false_ne_true), List.append_nil]
theorem filter_len (f : Nat → Bool) (k : Nat) : ((List.range k).filter f).length ≤ k := by
  have := List.length_filter_le f (List.range k)
  rw [List.length_range] at this
  exact this
theorem fold_more {α : Type} (g : α → Nat → α) (a : α) (k : Nat) : (List.range (k + 1)).foldl g a = g ((List.range k).foldl g a) k := by
  rw [List.range_succ, List.foldl_append]; rfl
theorem find_none {f : Nat → Bool} {n : Nat} (h : ∀ j, j < 2000 → f (n + 1 + j) = false) : ((List.range 2000).map fun i => n + 1 + i).find? f = none := by
  rw [List.find?_eq_none]
  intro x hx
  rw [List.mem_map] at hx
  obtain ⟨i, hi, rfl⟩ := hx
  rw [h i (List.mem_range.1 hi)]
  exact Bool.false_ne_true
theorem find_first {α : Type} {f : α → Bool} : ∀ {l : List α} {i : Nat} {x : α}, l[i]? = some x → f x = true → (∀ j y, j < i → l[j]? = some y → f y = false) → l.find? f = some x
  | [], _, _, h, _, _ => by simp at h
  | a :: l, 0, x, h, hx, _ => by
    have e : a = x := Option.some.inj h
    subst e
    rw [List.find?_cons_of_pos hx]
  | a :: l, i + 1, x, h, hx, hb => by
    have ha : f a = false := hb 0 a (Nat.succ_pos _) rfl
    rw [List.find?_cons_of_neg (by rw [ha]; exact Bool.false_ne_true)]
    exact find_first (l := l) (i := i) h hx fun j y hj hy => hb (j + 1) y (Nat.succ_lt_succ hj) hy
theorem like_none {p n : Nat} (h : ∀ j, j < 2000 → Kp266.cross p (n + 1 + j) ≠ Kp266.cross p n) : Kp266.likeAfter p n = none := by
  unfold Kp266.likeAfter
  exact find_none fun j hj => beq_eq_false_iff_ne.2 (h j hj)
theorem like_some {p n i : Nat} (hi : i < 2000) (h : ∀ j, j < i → Kp266.cross p (n + 1 + j) ≠ Kp266.cross p n) (e : Kp266.cross p (n + 1 + i) = Kp266.cross p n) : Kp266.likeAfter p n = some (n + 1 + i) := by
  unfold Kp266.likeAfter
  refine find_first (i := i) ?_ (beq_iff_eq.2 e) fun j y hj hy => ?_
  · rw [List.getElem?_map, List.getElem?_range hi]; rfl
  · rw [List.getElem?_map, List.getElem?_range (Nat.lt_trans hj hi)] at hy
    have ey : n + 1 + j = y := Option.some.inj hy
    rw [← ey]
    exact beq_eq_false_iff_ne.2 (h j hj)
/-! ### what is refused, and what is answered else -/
/-- the highest number that a call takes -/
def bound (p : Nat) : Call → Nat
  | .next _ => 999999 | .ways _ _ => 60 | .most _ => 60 | .like _ => 1000 | .from_ _ _ _ _ => p - 1 | _ => 1000000
/-- the numbers that are held against it -/
def held : Call → List Nat
  | .ways n _ => [n] | c => args c
def early : Call → Bool
  | .begin_ p => !Kp266.okP p | .prime p => !Kp266.okP p | .times n => n.beq 0 | _ => false
def plainCall : Call → Bool
  | .begin_ _ => false | .prime _ => false | _ => true
def refused (p : Nat) (c : Call) : Bool := early c || (plainCall c && (held c).any fun x => (bound p c).blt x)
theorem said_none {c : Call} (h : num c ≠ 0) : said none c = [-11] ∧ after none c = none := by
  cases c
  case begin_ p => exact absurd rfl h
  all_goals exact ⟨rfl, rfl⟩
theorem said_begin {st : State} {p : Nat} (h : Kp266.okP p = true) : said st (.begin_ p) = [(p : Int)] ∧ after st (.begin_ p) = some p := by
  have e : Kp266.step st (.begin_ p) = (some p, Kp266.say (p : Int)) := by
    show (if Kp266.okP p then (some p, Kp266.say (p : Int)) else (st, Kp266.say (-22))) = _
    rw [if_pos h]
  unfold said after
  rw [e]
  exact ⟨rfl, rfl⟩
theorem said_begin_no {st : State} {p : Nat} (h : Kp266.okP p = false) : said st (.begin_ p) = [-22] ∧ after st (.begin_ p) = st := by
  have e : Kp266.step st (.begin_ p) = (st, Kp266.say (-22)) := by
    show (if Kp266.okP p then (some p, Kp266.say (p : Int)) else (st, Kp266.say (-22))) = _
    rw [if_neg (by rw [h]; exact Bool.false_ne_true)]
  unfold said after
  rw [e]
  exact ⟨rfl, rfl⟩
theorem said_prime {q p : Nat} (h : Kp266.okP p = true) : said (some q) (.prime p) = [(q : Int)] ∧ after (some q) (.prime p) = some p := by
  have e : Kp266.step (some q) (.prime p) = (some p, Kp266.say (q : Int)) := by
    show (if Kp266.okP p then (some p, Kp266.say (q : Int)) else (some q, Kp266.say (-22))) = _
    rw [if_pos h]
  unfold said after
  rw [e]
  exact ⟨rfl, rfl⟩
theorem said_prime_no {q p : Nat} (h : Kp266.okP p = false) : said (some q) (.prime p) = [-22] ∧ after (some q) (.prime p) = some q := by
  have e : Kp266.step (some q) (.prime p) = (some q, Kp266.say (-22)) := by
    show (if Kp266.okP p then (some p, Kp266.say (q : Int)) else (some q, Kp266.say (-22))) = _
    rw [if_neg (by rw [h]; exact Bool.false_ne_true)]
  unfold said after
  rw [e]
  exact ⟨rfl, rfl⟩
theorem told_if {c : Prop} [Decidable c] {x : Kp266.Ans} {s : State} {f : State × Kp266.Ans} (e : f = (s, if c then Kp266.say (-22) else x)) (h : c) : f.2.num :: f.2.nums = [-22] ∧ f.1 = s := by
  rw [e, if_pos h]; exact ⟨rfl, rfl⟩
theorem told_else {c : Prop} [Decidable c] {x : Kp266.Ans} {s : State} {f : State × Kp266.Ans} (e : f = (s, if c then Kp266.say (-22) else x)) (h : ¬ c) : f.2.num :: f.2.nums = x.num :: x.nums ∧ f.1 = s := by
  rw [e, if_neg h]; exact ⟨rfl, rfl⟩
theorem MOST_is : Kp266.MOST = 1000000 := rfl
/-- what is answered if it isn't refused -/
def tells (p : Nat) : Call → Kp266.Ans
  | .begin_ q => Kp266.say (q : Int)
  | .prime _ => Kp266.say (p : Int)
  | .digits n => Kp266.tellAll (Kp266.digits p n)
  | .cross n => Kp266.say (Kp266.cross p n : Int)
  | .carries a b => Kp266.say ((Kp266.places p a b).length : Int)
  | .places a b => Kp266.tellAll (Kp266.places p a b)
  | .three a b c => ⟨((Kp266.places p a b).length + (Kp266.places p (a + b) c).length : Nat), Kp266.ints [(Kp266.places p a b).length, (Kp266.places p b c).length]⟩
  | .times n => Kp266.say (Kp266.times p n : Int)
  | .next n => ⟨(Kp266.cross p (n + 1) : Int), Kp266.ints [(Kp266.places p n 1).length]⟩
  | .ways n c => Kp266.tellAll (Kp266.ways p n c)
  | .most n => Kp266.say (Kp266.mostCarries p n : Int)
  | .like n => match Kp266.likeAfter p n with
    | some m => Kp266.say (m : Int)
    | none => Kp266.say (-33)
  | .from_ a b c d => Kp266.say ((a + p * (b + p * (c + p * d)) : Nat) : Int)
  | .without a b => if a < b then Kp266.say (-33) else ⟨((a - b : Nat) : Int), Kp266.ints [(Kp266.places p (a - b) b).length]⟩
  | .told => Kp266.say (p : Int)
def line (x : Kp266.Ans) : List Int := x.num :: x.nums
theorem said_refused {p : Nat} {c : Call} (hp : 2 ≤ p) (h : refused p c = true) : said (some p) c = [-22] ∧ after (some p) c = some p := by
  cases c
  case begin_ q => exact said_begin_no (by simpa [refused, early, plainCall] using h)
  case prime q => exact said_prime_no (by simpa [refused, early, plainCall] using h)
  case told => simp [refused, early, plainCall, held, args] at h
  all_goals
    simp only [refused, early, plainCall, held, args, bound, Bool.or_eq_true, Nat.blt_eq, Nat.beq_eq, List.any_cons, List.any_nil, Bool.or_false, Bool.true_and, Bool.false_or] at h
    refine told_if rfl ?_
    first | (rw [MOST_is]; omega) | omega
theorem said_else {p : Nat} {c : Call} (hp : 2 ≤ p) (hc : plainCall c = true) (h : refused p c = false) : said (some p) c = line (tells p c) ∧ after (some p) c = some p := by
  cases c
  case begin_ q => exact absurd hc Bool.false_ne_true
  case prime q => exact absurd hc Bool.false_ne_true
  case told => exact ⟨rfl, rfl⟩
  all_goals
    replace h := (Bool.not_eq_true _).mpr h
    simp only [refused, early, plainCall, held, args, bound, Bool.or_eq_true, Nat.blt_eq, Nat.beq_eq, List.any_cons, List.any_nil, Bool.or_false, Bool.true_and, Bool.false_or] at h
    refine told_else rfl ?_
    first | (rw [MOST_is]; omega) | omega
/-- most: the fold is the greatest of what it walks over -/
theorem fold_max (f : Nat → Nat) : ∀ (l : List Nat) (m : Nat), (l.foldl (fun m a => max m (f a)) m = m ∨ ∃ a ∈ l, l.foldl (fun m a => max m (f a)) m = f a) ∧ m ≤ l.foldl (fun m a => max m (f a)) m ∧ ∀ a ∈ l, f a ≤ l.foldl (fun m a => max m (f a)) m
  | [], m => ⟨.inl rfl, Nat.le_refl _, fun _ h => nomatch h⟩
  | x :: l, m => by
    obtain ⟨h1, h2, h3⟩ := fold_max f l (max m (f x))
    rw [List.foldl_cons]
    have k1 := Nat.le_max_left m (f x)
    have k2 := Nat.le_max_right m (f x)
    refine ⟨?_, by omega, fun a ha => ?_⟩
    · rcases h1 with h1 | ⟨a, ha, h1⟩
      · rw [h1]
        by_cases c : m ≤ f x
        · exact .inr ⟨x, List.mem_cons_self, Nat.max_eq_right c⟩
        · exact .inl (Nat.max_eq_left (by omega))
      · exact .inr ⟨a, List.mem_cons_of_mem _ ha, h1⟩
    · rcases List.mem_cons.1 ha with rfl | ha
      · omega
      · exact h3 a ha
/-- how often it's carried, for each part -/
def parts (p n : Nat) : List Nat := (List.range (n + 1)).map fun a => (Kp266.places p a (n - a)).length
theorem parts_len (p n : Nat) : (parts p n).length = n + 1 := by unfold parts; rw [List.length_map, List.length_range]
theorem parts_at {p n i : Nat} (h : i < n + 1) : (parts p n)[i]? = some (Kp266.places p i (n - i)).length := by
  unfold parts
  rw [List.getElem?_map, List.getElem?_range h]; rfl
theorem most_is {p n : Nat} {m : Int} (h1 : m ∈ (parts p n).map fun (x : Nat) => (x : Int)) (h2 : ∀ y ∈ (parts p n).map (fun (x : Nat) => (x : Int)), y ≤ m) : m = (Kp266.mostCarries p n : Int) := by
  obtain ⟨k1, k2, k3⟩ := fold_max (fun a => (Kp266.places p a (n - a)).length) (List.range (n + 1)) 0
  have e : (List.range (n + 1)).foldl (fun m a => max m (Kp266.places p a (n - a)).length) 0 = Kp266.mostCarries p n := rfl
  rw [e] at k1 k2 k3
  obtain ⟨x, hx, rfl⟩ := List.mem_map.1 h1
  obtain ⟨a, ha, rfl⟩ := List.mem_map.1 hx
  have u1 := k3 a ha
  have big : ∀ b ∈ List.range (n + 1), (Kp266.places p b (n - b)).length ≤ (Kp266.places p a (n - a)).length := fun b hb => by
    have := h2 _ (List.mem_map.2 ⟨_, List.mem_map.2 ⟨b, hb, rfl⟩, rfl⟩)
    exact Int.ofNat_le.1 this
  have u2 : Kp266.mostCarries p n ≤ (Kp266.places p a (n - a)).length := by
    rcases k1 with k1 | ⟨b, hb, k1⟩
    · rw [k1]; exact Nat.zero_le _
    · rw [k1]; exact big b hb
  show ((Kp266.places p a (n - a)).length : Int) = _
  rw [Nat.le_antisymm u1 u2]
/-- digits put together, the first digit last -/
def valOf (p : Nat) (l : List Nat) : Nat := l.foldr (fun d n => n * p + d) 0
theorem val_four (p a b c d : Nat) : valOf p [a, b, c, d] = a + p * (b + p * (c + p * d)) := by
  show (((0 * p + d) * p + c) * p + b) * p + a = _
  rw [Nat.zero_mul, Nat.zero_add, Nat.add_comm _ a, Nat.mul_comm _ p, Nat.add_comm _ b, Nat.mul_comm _ p, Nat.add_comm _ c, Nat.mul_comm d p]
theorem val_lt {p : Nat} (hp : 0 < p) : ∀ {l : List Nat}, (∀ d ∈ l, d < p) → valOf p l < p ^ l.length
  | [], _ => by show 0 < 1; decide
  | d :: l, h => by
    have ih := val_lt hp (l := l) fun x hx => h x (List.mem_cons_of_mem _ hx)
    have hd := h d List.mem_cons_self
    show valOf p l * p + d < p ^ (l.length + 1)
    rw [Nat.pow_succ]
    have : (valOf p l + 1) * p ≤ p ^ l.length * p := Nat.mul_le_mul_right p ih
    rw [Nat.add_mul] at this
    omega
end Co
namespace Co
open PySem PySem.Spec PyProof.Rows L2
open Kp266 (Call State)
/-! ### max(xs, default=d) of a list of whole numbers -/
theorem best_of : ∀ (ys : List Int) (y : Int), (PySem.W.maxOf y ys = y ∨ PySem.W.maxOf y ys ∈ ys) ∧ y ≤ PySem.W.maxOf y ys ∧ ∀ z ∈ ys, z ≤ PySem.W.maxOf y ys
  | [], y => ⟨.inl rfl, Int.le_refl _, fun _ h => nomatch h⟩
  | x :: ys, y => by
    have e : PySem.W.maxOf y (x :: ys) = PySem.W.maxOf (if decide (y < x) = true then x else y) ys := rfl
    obtain ⟨h1, h2, h3⟩ := best_of ys (if decide (y < x) = true then x else y)
    rw [e]
    by_cases c : y < x
    · rw [decide_eq_true c, if_pos rfl] at h1 h2 h3 ⊢
      refine ⟨.inr (h1.elim (fun z => by rw [z]; exact List.mem_cons_self) fun z => List.mem_cons_of_mem _ z), by omega, fun z hz => ?_⟩
      rcases List.mem_cons.1 hz with rfl | hz
      · exact h2
      · exact h3 z hz
    · rw [decide_eq_false c, if_neg Bool.false_ne_true] at h1 h2 h3 ⊢
      refine ⟨h1.elim .inl fun z => .inr (List.mem_cons_of_mem _ z), h2, fun z hz => ?_⟩
      rcases List.mem_cons.1 hz with rfl | hz
      · omega
      · exact h3 z hz
/-- the greatest, or d where there is none -/
def BestOr (d : Int) (ns : List Int) (m : Int) : Prop := (ns = [] ∧ m = d) ∨ (m ∈ ns ∧ ∀ y ∈ ns, y ≤ m)
def rMaxDef (K : PySem.W.Frag) : List V → List V → Hp → VK → Prop := fun vs zs H Q => ∃ (a : Addr) (ns : List Int) (d : Int), vs = [V.ref a] ∧ zs = [V.int d] ∧ SqL K H a (ns.map V.int) ∧ ∀ m, BestOr d ns m → Q (.int m) H
theorem hold_ints {h : Heap} : ∀ {its : List Value} {ns : List Int}, Vals (ns.map V.int) its → PySem.W.HoldAll h its ns
  | _, [], r => by cases r; exact ⟨_, .nil⟩
  | _, n :: ns, r => by
    cases r with
    | cons r1 r2 =>
      obtain ⟨t, rfl⟩ := r1
      exact PySem.W.HoldAll.cons (PySem.W.holds_int n t) (hold_ints r2)
theorem cr_maxDef {X : Cx} (hc : X.calm = true) (hu : X.A.units + 64 < cLine) : CallRK X (.builtin "max") [Str.ofString "default"] (rMaxDef X.K) := by
  intro pins s σ H vs zs us ws Q I r rz h
  obtain ⟨a, ns, d, rfl, rfl, hs, q⟩ := h
  obtain rfl := Vals.ref1 r
  obtain ⟨w1, rfl, e1⟩ := vals1 rz
  obtain ⟨its, rv, hl, _⟩ := I.list hs
  have hd : PySem.W.Datum.depth Int ≤ 10 := by decide
  have hu' : X.A.units + 1 + PySem.W.Datum.depth Int < cLine := by omega
  refine PySem.W.max_list_datum_default (xs := ns) (I.ok.hd hc) hl.isList (hold_ints rv) hu' (fun e h' tk hk => ⟨.int d, H, I.kept hk, e1, q d (.inl ⟨e, rfl⟩)⟩) fun y ys i v h' tk e hi hv hk => ?_
  obtain ⟨t, rfl⟩ := PySem.W.int_of_holds hv
  refine ⟨.int _, H, I.kept hk, ⟨_, rfl⟩, q _ (.inr ?_)⟩
  obtain ⟨h1, h2, h3⟩ := best_of ys y
  subst e
  refine ⟨h1.elim (fun z => by rw [z]; exact List.mem_cons_self) fun z => List.mem_cons_of_mem _ z, fun z hz => ?_⟩
  rcases List.mem_cons.1 hz with rfl | hz
  · exact h2
  · exact h3 z hz
def top (i : Nat) : Stmt := PySem.Challenge.pw_carriedover_s01_answers.main.body.getD i (.Pass ⟨0, 0, 0, 0⟩)
abbrev s_is_prime_below_100 : Stmt := top 1
abbrev s_digits_of : Stmt := top 2
abbrev s_number_from : Stmt := top 3
abbrev s_cross_sum : Stmt := top 4
abbrev s_next_alike : Stmt := top 5
abbrev s_carried_places : Stmt := top 6
abbrev s_count_carries : Stmt := top 7
abbrev s_carries_of_parts : Stmt := top 8
abbrev s_count_divisions : Stmt := top 9
abbrev s_Adder_Init : Stmt := inClass (top 30) 0
abbrev s_Adder_answer : Stmt := inClass (top 30) 1
abbrev s_Adder_begin : Stmt := inClass (top 30) 2
abbrev s_Adder_change_prime : Stmt := inClass (top 30) 3
abbrev s_is_refused : Stmt := top 31
abbrev s_highest_allowed : Stmt := top 32
abbrev s_computed : Stmt := top 33
abbrev s_with_count : Stmt := top 34
abbrev s_three_added : Stmt := top 35
abbrev s_one_added : Stmt := top 36
abbrev s_parts_carried : Stmt := top 37
abbrev s_first_alike : Stmt := top 38
abbrev s_taken_away : Stmt := top 39
abbrev s_answers : Stmt := top 40
theorem sc_is_prime_below_100 : FnScope ["number", "divisor"] ["number"] (defScope s_is_prime_below_100) := ⟨rfl, rfl, rfl, by decide +kernel, rfl, by decide +kernel, by decide +kernel⟩
theorem sc_digits_of : FnScope ["number", "prime", "found", "rest"] ["number", "prime"] (defScope s_digits_of) := ⟨rfl, rfl, rfl, by decide +kernel, rfl, by decide +kernel, by decide +kernel⟩
theorem sc_number_from : FnScope ["digits", "prime", "number", "digit"] ["digits", "prime"] (defScope s_number_from) := ⟨rfl, rfl, rfl, by decide +kernel, rfl, by decide +kernel, by decide +kernel⟩
theorem sc_cross_sum : FnScope ["number", "prime"] ["number", "prime"] (defScope s_cross_sum) := ⟨rfl, rfl, rfl, by decide +kernel, rfl, by decide +kernel, by decide +kernel⟩
theorem sc_next_alike : FnScope ["number", "prime", "within", "wanted", "other"] ["number", "prime", "within"] (defScope s_next_alike) := ⟨rfl, rfl, rfl, by decide +kernel, rfl, by decide +kernel, by decide +kernel⟩
theorem sc_carried_places : FnScope ["first", "second", "prime", "found", "place", "carried", "rest", "other", "together"] ["first", "second", "prime"] (defScope s_carried_places) := ⟨rfl, rfl, rfl, by decide +kernel, rfl, by decide +kernel, by decide +kernel⟩
theorem sc_count_carries : FnScope ["first", "second", "prime"] ["first", "second", "prime"] (defScope s_count_carries) := ⟨rfl, rfl, rfl, by decide +kernel, rfl, by decide +kernel, by decide +kernel⟩
theorem sc_carries_of_parts : FnScope ["number", "prime", "part"] ["number", "prime"] (defScope s_carries_of_parts) := ⟨rfl, rfl, rfl, by decide +kernel, rfl, by decide +kernel, by decide +kernel⟩
theorem sc_count_divisions : FnScope ["number", "prime", "often", "rest"] ["number", "prime"] (defScope s_count_divisions) := ⟨rfl, rfl, rfl, by decide +kernel, rfl, by decide +kernel, by decide +kernel⟩
theorem sc_Adder_Init : FnScope ["self"] ["self"] (defScope s_Adder_Init) := ⟨rfl, rfl, rfl, by decide +kernel, rfl, by decide +kernel, by decide +kernel⟩
theorem sc_Adder_answer : FnScope ["self", "call", "numbers"] ["self", "call", "numbers"] (defScope s_Adder_answer) := ⟨rfl, rfl, rfl, by decide +kernel, rfl, by decide +kernel, by decide +kernel⟩
theorem sc_Adder_begin : FnScope ["self", "prime"] ["self", "prime"] (defScope s_Adder_begin) := ⟨rfl, rfl, rfl, by decide +kernel, rfl, by decide +kernel, by decide +kernel⟩
theorem sc_Adder_change_prime : FnScope ["self", "prime", "before"] ["self", "prime"] (defScope s_Adder_change_prime) := ⟨rfl, rfl, rfl, by decide +kernel, rfl, by decide +kernel, by decide +kernel⟩
theorem sc_is_refused : FnScope ["call", "numbers", "prime", "bounded"] ["call", "numbers", "prime"] (defScope s_is_refused) := ⟨rfl, rfl, rfl, by decide +kernel, rfl, by decide +kernel, by decide +kernel⟩
theorem sc_highest_allowed : FnScope ["call", "prime"] ["call", "prime"] (defScope s_highest_allowed) := ⟨rfl, rfl, rfl, by decide +kernel, rfl, by decide +kernel, by decide +kernel⟩
theorem sc_computed : FnScope ["call", "numbers", "prime"] ["call", "numbers", "prime"] (defScope s_computed) := ⟨rfl, rfl, rfl, by decide +kernel, rfl, by decide +kernel, by decide +kernel⟩
theorem sc_with_count : FnScope ["numbers"] ["numbers"] (defScope s_with_count) := ⟨rfl, rfl, rfl, by decide +kernel, rfl, by decide +kernel, by decide +kernel⟩
theorem sc_three_added : FnScope ["first", "second", "third", "prime", "first_two", "last_two", "behind"] ["first", "second", "third", "prime"] (defScope s_three_added) := ⟨rfl, rfl, rfl, by decide +kernel, rfl, by decide +kernel, by decide +kernel⟩
theorem sc_one_added : FnScope ["number", "prime"] ["number", "prime"] (defScope s_one_added) := ⟨rfl, rfl, rfl, by decide +kernel, rfl, by decide +kernel, by decide +kernel⟩
theorem sc_parts_carried : FnScope ["number", "often", "prime", "part", "carried"] ["number", "often", "prime"] (defScope s_parts_carried) := ⟨rfl, rfl, rfl, by decide +kernel, rfl, by decide +kernel, by decide +kernel⟩
theorem sc_first_alike : FnScope ["number", "prime", "found"] ["number", "prime"] (defScope s_first_alike) := ⟨rfl, rfl, rfl, by decide +kernel, rfl, by decide +kernel, by decide +kernel⟩
theorem sc_taken_away : FnScope ["number", "less", "prime", "left"] ["number", "less", "prime"] (defScope s_taken_away) := ⟨rfl, rfl, rfl, by decide +kernel, rfl, by decide +kernel, by decide +kernel⟩
theorem sc_answers : FnScope ["calls", "adder", "given", "at", "call", "end", "answered"] ["calls"] (defScope s_answers) := ⟨rfl, rfl, rfl, by decide +kernel, rfl, by decide +kernel, by decide +kernel⟩
/-- where all stands -/
structure Ad where
  C_Adder : Addr
  S_SIZES : Addr
  f_is_prime_below_100 : Addr
  d_is_prime_below_100 : FuncData
  f_digits_of : Addr
  d_digits_of : FuncData
  f_number_from : Addr
  d_number_from : FuncData
  f_cross_sum : Addr
  d_cross_sum : FuncData
  f_next_alike : Addr
  d_next_alike : FuncData
  f_carried_places : Addr
  d_carried_places : FuncData
  f_count_carries : Addr
  d_count_carries : FuncData
  f_carries_of_parts : Addr
  d_carries_of_parts : FuncData
  f_count_divisions : Addr
  d_count_divisions : FuncData
  f_Adder_Init : Addr
  d_Adder_Init : FuncData
  f_Adder_answer : Addr
  d_Adder_answer : FuncData
  f_Adder_begin : Addr
  d_Adder_begin : FuncData
  f_Adder_change_prime : Addr
  d_Adder_change_prime : FuncData
  f_is_refused : Addr
  d_is_refused : FuncData
  f_highest_allowed : Addr
  d_highest_allowed : FuncData
  f_computed : Addr
  d_computed : FuncData
  f_with_count : Addr
  d_with_count : FuncData
  f_three_added : Addr
  d_three_added : FuncData
  f_one_added : Addr
  d_one_added : FuncData
  f_parts_carried : Addr
  d_parts_carried : FuncData
  f_first_alike : Addr
  d_first_alike : FuncData
  f_taken_away : Addr
  d_taken_away : FuncData
  f_answers : Addr
  d_answers : FuncData
def tup_SIZES : List V := [.int 1, .int 1, .int 1, .int 1, .int 2, .int 2, .int 3, .int 1, .int 1, .int 2, .int 1, .int 1, .int 4, .int 2, .int 0]
/-- what the top has written -/
structure Txt (K : PySem.W.Frag) (mg : Str → Option Value) (A : Ad) : Prop where
  cl_Adder : Cls K A.C_Adder
  n_Adder_prime : NoAttr K A.C_Adder "prime"
  g_Adder : mg "Adder" = some (.ref A.C_Adder)
  mk_Adder : Mk K A.C_Adder A.f_Adder_Init
  c_BEGIN : ∃ u, mg "BEGIN" = some u ∧ RelV (.int 0) u
  c_PRIME : ∃ u, mg "PRIME" = some u ∧ RelV (.int 1) u
  c_DIGITS : ∃ u, mg "DIGITS" = some u ∧ RelV (.int 2) u
  c_CROSS : ∃ u, mg "CROSS" = some u ∧ RelV (.int 3) u
  c_CARRIES : ∃ u, mg "CARRIES" = some u ∧ RelV (.int 4) u
  c_PLACES : ∃ u, mg "PLACES" = some u ∧ RelV (.int 5) u
  c_THREE : ∃ u, mg "THREE" = some u ∧ RelV (.int 6) u
  c_TIMES : ∃ u, mg "TIMES" = some u ∧ RelV (.int 7) u
  c_NEXT : ∃ u, mg "NEXT" = some u ∧ RelV (.int 8) u
  c_WAYS : ∃ u, mg "WAYS" = some u ∧ RelV (.int 9) u
  c_MOST : ∃ u, mg "MOST" = some u ∧ RelV (.int 10) u
  c_LIKE : ∃ u, mg "LIKE" = some u ∧ RelV (.int 11) u
  c_NUMBER_OF : ∃ u, mg "NUMBER_OF" = some u ∧ RelV (.int 12) u
  c_TOLD : ∃ u, mg "TOLD" = some u ∧ RelV (.int 14) u
  c_HIGHEST : ∃ u, mg "HIGHEST" = some u ∧ RelV (.int 1000000) u
  c_HIGHEST_IN_PARTS : ∃ u, mg "HIGHEST_IN_PARTS" = some u ∧ RelV (.int 60) u
  c_HIGHEST_LIKE : ∃ u, mg "HIGHEST_LIKE" = some u ∧ RelV (.int 1000) u
  c_LIKE_WITHIN : ∃ u, mg "LIKE_WITHIN" = some u ∧ RelV (.int 2000) u
  c_SIZES : ∃ u, mg "SIZES" = some u ∧ RelV (.ref A.S_SIZES) u
  t_SIZES : ∀ H : Hp, SqT K H A.S_SIZES tup_SIZES
  z_enumerate : mg "enumerate" = none
  z_len : mg "len" = none
  z_max : mg "max" = none
  z_range : mg "range" = none
  z_reversed : mg "reversed" = none
  z_sum : mg "sum" = none
  F_is_prime_below_100 : Fun K "is_prime_below_100" "is_prime_below_100" s_is_prime_below_100 A.f_is_prime_below_100 A.d_is_prime_below_100
  b_is_prime_below_100 : Binds K A.d_is_prime_below_100 ["number"] []
  g_is_prime_below_100 : mg "is_prime_below_100" = some (.ref A.f_is_prime_below_100)
  F_digits_of : Fun K "digits_of" "digits_of" s_digits_of A.f_digits_of A.d_digits_of
  b_digits_of : Binds K A.d_digits_of ["number", "prime"] []
  g_digits_of : mg "digits_of" = some (.ref A.f_digits_of)
  F_number_from : Fun K "number_from" "number_from" s_number_from A.f_number_from A.d_number_from
  b_number_from : Binds K A.d_number_from ["digits", "prime"] []
  g_number_from : mg "number_from" = some (.ref A.f_number_from)
  F_cross_sum : Fun K "cross_sum" "cross_sum" s_cross_sum A.f_cross_sum A.d_cross_sum
  b_cross_sum : Binds K A.d_cross_sum ["number", "prime"] []
  g_cross_sum : mg "cross_sum" = some (.ref A.f_cross_sum)
  F_next_alike : Fun K "next_alike" "next_alike" s_next_alike A.f_next_alike A.d_next_alike
  b_next_alike : Binds K A.d_next_alike ["number", "prime", "within"] []
  g_next_alike : mg "next_alike" = some (.ref A.f_next_alike)
  F_carried_places : Fun K "carried_places" "carried_places" s_carried_places A.f_carried_places A.d_carried_places
  b_carried_places : Binds K A.d_carried_places ["first", "second", "prime"] []
  g_carried_places : mg "carried_places" = some (.ref A.f_carried_places)
  F_count_carries : Fun K "count_carries" "count_carries" s_count_carries A.f_count_carries A.d_count_carries
  b_count_carries : Binds K A.d_count_carries ["first", "second", "prime"] []
  g_count_carries : mg "count_carries" = some (.ref A.f_count_carries)
  F_carries_of_parts : Fun K "carries_of_parts" "carries_of_parts" s_carries_of_parts A.f_carries_of_parts A.d_carries_of_parts
  b_carries_of_parts : Binds K A.d_carries_of_parts ["number", "prime"] []
  g_carries_of_parts : mg "carries_of_parts" = some (.ref A.f_carries_of_parts)
  F_count_divisions : Fun K "count_divisions" "count_divisions" s_count_divisions A.f_count_divisions A.d_count_divisions
  b_count_divisions : Binds K A.d_count_divisions ["number", "prime"] []
  g_count_divisions : mg "count_divisions" = some (.ref A.f_count_divisions)
  F_Adder_Init : Fun K "__init__" "Adder.__init__" s_Adder_Init A.f_Adder_Init A.d_Adder_Init
  b_Adder_Init : Binds K A.d_Adder_Init ["self"] []
  F_Adder_answer : Fun K "answer" "Adder.answer" s_Adder_answer A.f_Adder_answer A.d_Adder_answer
  b_Adder_answer : Binds K A.d_Adder_answer ["self", "call", "numbers"] []
  m_Adder_answer : Meth K A.C_Adder "answer" A.f_Adder_answer
  F_Adder_begin : Fun K "begin" "Adder.begin" s_Adder_begin A.f_Adder_begin A.d_Adder_begin
  b_Adder_begin : Binds K A.d_Adder_begin ["self", "prime"] []
  m_Adder_begin : Meth K A.C_Adder "begin" A.f_Adder_begin
  F_Adder_change_prime : Fun K "change_prime" "Adder.change_prime" s_Adder_change_prime A.f_Adder_change_prime A.d_Adder_change_prime
  b_Adder_change_prime : Binds K A.d_Adder_change_prime ["self", "prime"] []
  m_Adder_change_prime : Meth K A.C_Adder "change_prime" A.f_Adder_change_prime
  F_is_refused : Fun K "is_refused" "is_refused" s_is_refused A.f_is_refused A.d_is_refused
  b_is_refused : Binds K A.d_is_refused ["call", "numbers", "prime"] []
  g_is_refused : mg "is_refused" = some (.ref A.f_is_refused)
  F_highest_allowed : Fun K "highest_allowed" "highest_allowed" s_highest_allowed A.f_highest_allowed A.d_highest_allowed
  b_highest_allowed : Binds K A.d_highest_allowed ["call", "prime"] []
  g_highest_allowed : mg "highest_allowed" = some (.ref A.f_highest_allowed)
  F_computed : Fun K "computed" "computed" s_computed A.f_computed A.d_computed
  b_computed : Binds K A.d_computed ["call", "numbers", "prime"] []
  g_computed : mg "computed" = some (.ref A.f_computed)
  F_with_count : Fun K "with_count" "with_count" s_with_count A.f_with_count A.d_with_count
  b_with_count : Binds K A.d_with_count ["numbers"] []
  g_with_count : mg "with_count" = some (.ref A.f_with_count)
  F_three_added : Fun K "three_added" "three_added" s_three_added A.f_three_added A.d_three_added
  b_three_added : Binds K A.d_three_added ["first", "second", "third", "prime"] []
  g_three_added : mg "three_added" = some (.ref A.f_three_added)
  F_one_added : Fun K "one_added" "one_added" s_one_added A.f_one_added A.d_one_added
  b_one_added : Binds K A.d_one_added ["number", "prime"] []
  g_one_added : mg "one_added" = some (.ref A.f_one_added)
  F_parts_carried : Fun K "parts_carried" "parts_carried" s_parts_carried A.f_parts_carried A.d_parts_carried
  b_parts_carried : Binds K A.d_parts_carried ["number", "often", "prime"] []
  g_parts_carried : mg "parts_carried" = some (.ref A.f_parts_carried)
  F_first_alike : Fun K "first_alike" "first_alike" s_first_alike A.f_first_alike A.d_first_alike
  b_first_alike : Binds K A.d_first_alike ["number", "prime"] []
  g_first_alike : mg "first_alike" = some (.ref A.f_first_alike)
  F_taken_away : Fun K "taken_away" "taken_away" s_taken_away A.f_taken_away A.d_taken_away
  b_taken_away : Binds K A.d_taken_away ["number", "less", "prime"] []
  g_taken_away : mg "taken_away" = some (.ref A.f_taken_away)
  F_answers : Fun K "answers" "answers" s_answers A.f_answers A.d_answers
  b_answers : Binds K A.d_answers ["calls"] []
  g_answers : mg "answers" = some (.ref A.f_answers)
theorem pe_const {X : Cx} {x : Str} {v : V} {pos : Pos} (hg : Gl X x) (h : ∃ u, X.mg x = some u ∧ RelV v u) (hd : (x == ("__debug__" : Str)) = false := by decide) : PE X (.Name x pos) (tC v) := by
  obtain ⟨u, hm, r⟩ := h
  exact pe_glob hg hm r hd
abbrev nV (n : Nat) : V := .int (n : Int)
theorem ifd {c : Prop} [Decidable c] {A B : Prop} (h1 : c → A) (h2 : ¬ c → B) : if decide c = true then A else B := by
  by_cases h : c
  · rw [decide_eq_true h, if_pos rfl]; exact h1 h
  · rw [decide_eq_false h, if_neg Bool.false_ne_true]; exact h2 h
/-- a value comes back; all that was tracked stands -/
def Gives (H : Hp) (Q : VK) (v : V) : Prop := ∀ H' : Hp, Same H H' → Q v H'
/-- a new list comes back; all that was tracked stands -/
def GivesL (H : Hp) (Q : VK) (xs : List V) : Prop := ∀ (H' : Hp) (q : Addr), Same H H' → H q = none → H' q = some (.lst xs) → Q (.ref q) H'
def sp_is_prime_below_100 : Sp := fun vs H Q _ => ∃ n : Nat, vs = [nV n] ∧ n < 4294967296 ∧ Gives H Q (.bl (Kp266.okP n))
theorem Same.put {H H' : Hp} {l : Addr} {o : HO} (s : Same H H') (h : H l = none) : Same H (upd H' l o) := fun b u e => by
  rw [upd_ne (ne_of_none e h)]
  exact s b u e
theorem mod_nat (a b : Nat) : V.int ((a : Int) % (b : Int)) = nV (a % b) := by rw [nV, Int.natCast_emod]
theorem div_nat (a b : Nat) : V.int ((a : Int) / (b : Int)) = nV (a / b) := by rw [nV, Int.natCast_ediv]
theorem maps_nV (l : List Nat) : l.map nV = (l.map fun (x : Nat) => (x : Int)).map V.int := by rw [List.map_map]; rfl
def sp_digits_of : Sp := fun vs H Q _ => ∃ n p : Nat, vs = [nV n, nV p] ∧ n < 2 ^ 24 ∧ 2 ≤ p ∧ p < 100 ∧ GivesL H Q ((Kp266.digits p n).map nV)
def sp_cross_sum : Sp := fun vs H Q _ => ∃ n p : Nat, vs = [nV n, nV p] ∧ n < 2 ^ 24 ∧ 2 ≤ p ∧ p < 100 ∧ Gives H Q (nV (Kp266.cross p n))
def sp_carried_places : Sp := fun vs H Q _ => ∃ a b p : Nat, vs = [nV a, nV b, nV p] ∧ a < 2 ^ 24 ∧ b < 2 ^ 24 ∧ 2 ≤ p ∧ p < 100 ∧ GivesL H Q ((Kp266.places p a b).map nV)
def sp_count_carries : Sp := fun vs H Q _ => ∃ a b p : Nat, vs = [nV a, nV b, nV p] ∧ a < 2 ^ 24 ∧ b < 2 ^ 24 ∧ 2 ≤ p ∧ p < 100 ∧ Gives H Q (nV (Kp266.places p a b).length)
def sp_count_divisions : Sp := fun vs H Q _ => ∃ n p : Nat, vs = [nV n, nV p] ∧ 0 < n ∧ n < 2 ^ 24 ∧ 2 ≤ p ∧ p < 100 ∧ Gives H Q (nV (Kp266.times p n))
theorem or_gt {x y i j : Nat} {σ : L2.St} {H : Hp} {Q : Bool → Hp → Prop} (hx : σ[i]? = some (some (nV x))) (hy : σ[j]? = some (some (nV y))) (h : Q (decide (0 < x ∨ 0 < y)) H) :
    tOr (tTest (tOp (rI0 fun i j => V.bl (decide (j < i))) (tVar i) (tC (.int 0)))) (tTest (tOp (rI0 fun i j => V.bl (decide (j < i))) (tVar j) (tC (.int 0)))) σ H Q := by
  refine ⟨_, hx, _, _, rfl, rfl, _, rfl, ifd (fun c => ?_) fun c => ?_⟩
  · rw [decide_eq_true (.inl (by omega))] at h; exact h
  · refine ⟨_, hy, _, _, rfl, rfl, _, rfl, ?_⟩
    have e : decide ((0 : Int) < (y : Int)) = decide (0 < x ∨ 0 < y) := by
      by_cases hy0 : 0 < y
      · rw [decide_eq_true (show (0 : Int) < (y : Int) by omega), decide_eq_true (.inr hy0)]
      · rw [decide_eq_false (show ¬ (0 : Int) < (y : Int) by omega), decide_eq_false (by omega)]
    rw [e]; exact h
/-! ### the object -/
def aF (st : State) : List (Str × V) := [("prime", nV (st.getD 0))]
def AdderAt (C : Addr) (H : Hp) (a : Addr) (st : State) : Prop := ∃ dx, H a = some (.ins C dx (aF st))
def Good (st : State) : Prop := ∀ p, st = some p → Kp266.okP p = true
theorem good_none : Good none := fun _ h => nomatch h
theorem good_after {st : State} (g : Good st) (c : Call) : Good (after st c) := by
  unfold after
  cases st with
  | none =>
    cases c
    case begin_ p =>
      show Good (if Kp266.okP p then (some p, Kp266.say (p : Int)) else (none, Kp266.say (-22))).1
      by_cases h : Kp266.okP p = true
      · rw [if_pos h]; intro q e; cases e; exact h
      · rw [if_neg h]; exact g
    all_goals exact g
  | some q =>
    cases c
    case begin_ p =>
      show Good (if Kp266.okP p then (some p, Kp266.say (p : Int)) else (some q, Kp266.say (-22))).1
      by_cases h : Kp266.okP p = true
      · rw [if_pos h]; intro q e; cases e; exact h
      · rw [if_neg h]; exact g
    case prime p =>
      show Good (if Kp266.okP p then (some p, Kp266.say (q : Int)) else (some q, Kp266.say (-22))).1
      by_cases h : Kp266.okP p = true
      · rw [if_pos h]; intro q e; cases e; exact h
      · rw [if_neg h]; exact g
    all_goals exact g
def sp_Adder_Init (C : Addr) : Sp := fun vs H Q _ => ∃ (p dx : Addr), vs = [.ref p] ∧ H p = some (.ins C dx []) ∧
  ∀ H' : Hp, AdderAt C H' p none → (∀ b o, H b = some o → b ≠ p → H' b = some o) → Q .non H'
def sp_Adder_answer (C : Addr) : Sp := fun vs H Q _ => ∃ (a q : Addr) (st : State) (c : Call), vs = [.ref a, nV (num c), .ref q] ∧ AdderAt C H a st ∧ Good st ∧ Small c ∧ H q = some (.lst ((args c).map nV)) ∧
  ∀ (H' : Hp) (r : Addr), H r = none → H' r = some (.lst ((said st c).map V.int)) → AdderAt C H' a (after st c) → (∀ b o, H b = some o → b ≠ a → H' b = some o) → Q (.ref r) H'
def sp_answers (K : PySem.W.Frag) : Sp := fun vs H Q _ => ∃ (a : Addr) (ns : List Int), vs = [.ref a] ∧ SqL K H a (ns.map V.int) ∧ PyKp266.answers_asked ns = true ∧
  ∀ (H' : Hp) (p : Addr), H' p = some (.lst ((PyKp266.answers ns).map V.int)) → Q (.ref p) H'
theorem cut_mid {pre mid post : List V} {i j : Int} (hi : i = (pre.length : Int)) (hj : j = ((pre.length + mid.length : Nat) : Int)) : cutV (pre ++ mid ++ post) (some i) (some j) = mid := by
  subst hi hj
  unfold cutV
  rw [HT.sIx_nat, HT.sIx_nat, List.append_assoc, List.length_append, List.length_append, Nat.min_eq_left (by omega), Nat.min_eq_left (by omega), List.drop_left, Nat.add_sub_cancel_left, List.take_left]
theorem ints_map (c : Call) : (code c).map V.int = nV (num c) :: (args c).map nV := by
  unfold code natInts
  rw [List.map_cons, List.map_map]; rfl
theorem if_is {a b : Int} {A B : Prop} (h : (a == b) = true) (x : A) : if decide (V.int a = V.int b) = true then A else B := by
  rw [decide_eq_true (show V.int a = V.int b by rw [eq_of_beq h]), if_pos rfl]; exact x
theorem if_not {a b : Int} {A B : Prop} (h : (a == b) = false) (x : B) : if decide (V.int a = V.int b) = true then A else B := by
  rw [decide_eq_false (show ¬ V.int a = V.int b from fun z => beq_eq_false_iff_ne.1 h (V.int.inj z)), if_neg Bool.false_ne_true]; exact x
theorem if_tt {A B : Prop} (x : A) : if true = true then A else B := by rw [if_pos rfl]; exact x
theorem if_ff {A B : Prop} (x : B) : if false = true then A else B := by rw [if_neg Bool.false_ne_true]; exact x
theorem dec_is {a b : Int} (h : (a == b) = true) : decide (V.int a = V.int b) = true := decide_eq_true (by rw [eq_of_beq h])
theorem dec_not {a b : Int} (h : (a == b) = false) : decide (V.int a = V.int b) = false := decide_eq_false fun z => beq_eq_false_iff_ne.1 h (V.int.inj z)
/-- what is new is given back -/
theorem GivesL.new {H H' : Hp} {Q : VK} {xs : List V} (k : GivesL H Q xs) (s : Same H H') {l : Addr} (h : H' l = none) : Q (.ref l) (upd H' l (.lst xs)) :=
  k _ l (Same.put s (s.free h)) (s.free h) upd_same
def tell (x : Kp266.Ans) : List V := (line x).map V.int
def sp_with_count : Sp := fun vs H Q _ => ∃ (q : Addr) (xs : List Nat), vs = [.ref q] ∧ H q = some (.lst (xs.map nV)) ∧ xs.length ≤ 100 ∧ GivesL H Q (tell (Kp266.tellAll xs))
def sp_three_added : Sp := fun vs H Q _ => ∃ a b c p : Nat, vs = [nV a, nV b, nV c, nV p] ∧ a ≤ 1000000 ∧ b ≤ 1000000 ∧ c ≤ 1000000 ∧ 2 ≤ p ∧ p < 100 ∧ GivesL H Q (tell (tells p (.three a b c)))
def sp_one_added : Sp := fun vs H Q _ => ∃ n p : Nat, vs = [nV n, nV p] ∧ n < 1000000 ∧ 2 ≤ p ∧ p < 100 ∧ GivesL H Q (tell (tells p (.next n)))
def sp_taken_away : Sp := fun vs H Q _ => ∃ a b p : Nat, vs = [nV a, nV b, nV p] ∧ a ≤ 1000000 ∧ b ≤ 1000000 ∧ 2 ≤ p ∧ p < 100 ∧ GivesL H Q (tell (tells p (.without a b)))
def sp_number_from : Sp := fun vs H Q _ => ∃ (q : Addr) (ds : List Nat) (p : Nat), vs = [.ref q, nV p] ∧ H q = some (.lst (ds.map nV)) ∧ ds.length = 4 ∧ (∀ d ∈ ds, d < p) ∧ 2 ≤ p ∧ p < 100 ∧ Gives H Q (nV (valOf p ds))
def sp_next_alike : Sp := fun vs H Q _ => ∃ n p : Nat, vs = [nV n, nV p, nV 2000] ∧ n ≤ 1000 ∧ 2 ≤ p ∧ p < 100 ∧ Gives H Q (nV ((Kp266.likeAfter p n).getD 0))
def sp_carries_of_parts : Sp := fun vs H Q _ => ∃ n p : Nat, vs = [nV n, nV p] ∧ n ≤ 60 ∧ 2 ≤ p ∧ p < 100 ∧ GivesL H Q ((parts p n).map nV)
def sp_parts_carried : Sp := fun vs H Q _ => ∃ n k p : Nat, vs = [nV n, nV k, nV p] ∧ n ≤ 60 ∧ 2 ≤ p ∧ p < 100 ∧ GivesL H Q ((Kp266.ways p n k).map nV)
def sp_first_alike : Sp := fun vs H Q _ => ∃ n p : Nat, vs = [nV n, nV p] ∧ n ≤ 1000 ∧ 2 ≤ p ∧ p < 100 ∧ GivesL H Q (tell (tells p (.like n)))
def sp_highest_allowed : Sp := fun vs H Q _ => ∃ (c : Call) (p : Nat), vs = [nV (num c), nV p] ∧ 2 ≤ p ∧ Gives H Q (nV (bound p c))
def sp_is_refused : Sp := fun vs H Q _ => ∃ (q : Addr) (c : Call) (p : Nat), vs = [nV (num c), .ref q, nV p] ∧ H q = some (.lst ((args c).map nV)) ∧ Small c ∧ (plainCall c = true → 2 ≤ p) ∧ Gives H Q (.bl (refused p c))
def sp_computed : Sp := fun vs H Q _ => ∃ (q : Addr) (c : Call) (p : Nat), vs = [nV (num c), .ref q, nV p] ∧ H q = some (.lst ((args c).map nV)) ∧ plainCall c = true ∧ c ≠ .told ∧ refused p c = false ∧ 2 ≤ p ∧ p < 100 ∧ GivesL H Q (tell (tells p c))
def sp_Adder_begin (C : Addr) : Sp := fun vs H Q _ => ∃ (a : Addr) (st : State) (p : Nat), vs = [.ref a, nV p] ∧ AdderAt C H a st ∧
  ∀ (H' : Hp) (r : Addr), H r = none → H' r = some (.lst [nV p]) → AdderAt C H' a (some p) → (∀ b o, H b = some o → b ≠ a → H' b = some o) → Q (.ref r) H'
def sp_Adder_change_prime (C : Addr) : Sp := fun vs H Q _ => ∃ (a : Addr) (st : State) (p : Nat), vs = [.ref a, nV p] ∧ AdderAt C H a st ∧
  ∀ (H' : Hp) (r : Addr), H r = none → H' r = some (.lst [nV (st.getD 0)]) → AdderAt C H' a (some p) → (∀ b o, H b = some o → b ≠ a → H' b = some o) → Q (.ref r) H'
theorem best_any {ns : List Nat} {b : Nat} {m : Int} (h : BestOr 0 (ns.map fun (x : Nat) => (x : Int)) m) : decide ((b : Int) < m) = ns.any fun x => b.blt x := by
  rcases h with ⟨h1, h2⟩ | ⟨h1, h2⟩
  · have e : ns = [] := List.map_eq_nil_iff.1 h1
    subst e h2
    exact decide_eq_false (by omega)
  · obtain ⟨x, hx, rfl⟩ := List.mem_map.1 h1
    by_cases c : b < x
    · rw [decide_eq_true (by omega)]
      exact (List.any_eq_true.2 ⟨x, hx, (Nat.blt_eq ..).mpr c⟩).symm
    · rw [decide_eq_false (by omega)]
      refine (Bool.eq_false_iff.2 fun z => ?_).symm
      obtain ⟨y, hy, hb⟩ := List.any_eq_true.1 z
      have hb' : b < y := (Nat.blt_eq ..).mp hb
      have := h2 _ (List.mem_map.2 ⟨y, hy, rfl⟩)
      omega
section
variable {P : Program} {w : World} {K : PySem.W.Frag} {mg : Str → Option Value} {base : Heap} {A : Ad}
theorem ok_is_prime_below_100 (T : Txt K mg A) : FnOk P w K mg base CX0 1 A.f_is_prime_below_100 A.d_is_prime_below_100 ["number"] sp_is_prime_below_100 := by
  refine T.F_is_prime_below_100.ok sc_is_prime_below_100 (fun vs H Q E h => ?_) (fun cdv A0 outer s H vs Q E hr h => ⟨_,
    (pss_cons (ps_if (PW.pt (pw_or (pt_cmpR op_lt (pv 0) pe_int (nomark _)) (pw_or1 (pt_cmpR op_gt (pv 0) pe_int (nomark _)))))
    (pss_one (ps_ret pe_bl)) pss_nil)
    (pss_cons (ps_for PassesOwn.never rfl (pi_range2 (by rfl) T.z_range (pa_cons pe_int (pa_cons (pv 0) pa_nil))) (pg_name (i := 1) sc_is_prime_below_100.nd rfl (Or.inl rfl))
    (pss_one (ps_if (pt_cmpR op_eq (pe_op op_mod (pv 0) (pv 1)) pe_int (nomark _))
    (pss_one (ps_ret pe_bl)) pss_nil)))
    (pss_one (ps_ret pe_bl)))), ?_⟩)
  · obtain ⟨n, rfl, _⟩ := h; rfl
  obtain ⟨n, rfl, hn, k⟩ := h
  refine ⟨_, rfl, _, _, rfl, rfl, _, rfl, ifd (fun c => ?_) fun c => ?_⟩
  · rw [okP_low (by omega)] at k
    exact k H (Same.refl H)
  refine ⟨_, rfl, _, _, rfl, rfl, _, rfl, ifd (fun c => ?_) fun c' => ?_⟩
  · rw [okP_high (by omega)] at k
    exact k H (Same.refl H)
  have en : (((n : Int) - 2).toNat) = n - 2 := by omega
  refine ⟨_, rfl, 2, (n : Int), rfl, ⟨by decide, by decide, by omega, by omega⟩, ?_⟩
  refine for_range (lo := 2) (n := ((n : Int) - 2).toNat) (fun i σ H' => (∃ v : Option V, σ = [some (nV n), v]) ∧ Same H H' ∧ ∀ d, 2 ≤ d → d < 2 + i → n % d ≠ 0) ⟨⟨none, rfl⟩, Same.refl H, fun d h1 h2 => by omega⟩ ?_ ?_
  · rintro i σ H' hi ⟨⟨v, rfl⟩, sm, hd⟩
    refine ⟨_, rfl, _, rfl, _, _, rfl, rfl, (by show (0 : Int) < 2 + i; omega), rfl, _, rfl, ifd (fun c => ?_) fun c => ?_⟩
    · have e : ((n : Int) % ((2 + i : Nat) : Int)) = 0 := by
        have := V.int.inj c
        rw [← this]; congr 1
      rw [okP_found (n := n) (d := 2 + i) (by omega) (by omega) (by omega)] at k
      exact k H' sm
    · refine ⟨⟨_, rfl⟩, sm, fun d h1 h2 => ?_⟩
      by_cases hlt : d < 2 + i
      · exact hd d h1 hlt
      · have ed : d = 2 + i := by omega
        subst ed
        intro z
        apply c
        show V.int ((n : Int) % (2 + (i : Int))) = V.int 0
        congr 1
        have : ((n % (2 + i) : Nat) : Int) = 0 := by rw [z]; rfl
        rw [← this]; norm_cast
  · rintro σ H' ⟨⟨v, rfl⟩, sm, hd⟩
    rw [okP_none (by omega) (by omega) fun d h1 h2 => hd d h1 (by omega)] at k
    exact k H' sm
theorem ok_digits_of (T : Txt K mg A) : FnOk P w K mg base CX0 1 A.f_digits_of A.d_digits_of ["number", "prime"] sp_digits_of := by
  refine T.F_digits_of.ok sc_digits_of (fun vs H Q E h => ?_) (fun cdv A0 outer s H vs Q E hr h => ⟨_,
    (pss_cons (ps_set (i := 2) sc_digits_of.nd rfl (Or.inl rfl) (pe_lst pa_nil))
    (pss_cons (ps_set (i := 3) sc_digits_of.nd rfl (Or.inl rfl) (pv 0))
    (pss_cons (ps_while PassesOwn.never (pt_cmpR op_gt (pv 3) pe_int (nomark _))
    (pss_cons (ps_expr (pe_bm PySem.F.plainAttrs_list PySem.F.slot_list_append PySem.F.type_list_append mt_append (pv 2) (pa_cons (pe_op op_mod (pv 3) (pv 1)) pa_nil)))
    (pss_one (ps_set (i := 3) sc_digits_of.nd rfl (Or.inl rfl) (pe_op op_fdiv (pv 3) (pv 1))))))
    (pss_one (ps_ret (pv 2)))))), ?_⟩)
  · obtain ⟨n, p, rfl, _⟩ := h; rfl
  obtain ⟨n, p, rfl, hn, hp, hp', k⟩ := h
  refine ⟨by show 0 ≤ sizeLine; decide, fun l hl => ⟨_, rfl, ?_⟩⟩
  refine ⟨fun m σ H' => ∃ (done : List Nat) (r : Nat), σ = [some (nV n), some (nV p), some (.ref l), some (nV r)] ∧ Same H H' ∧ H' l = some (.lst (done.map nV)) ∧ DigAt p n done r ∧ r = m,
    ⟨n, [], n, rfl, Same.put (Same.refl H) hl, upd_same, digAt_start hn, rfl⟩, ?_⟩
  rintro m σ H' ⟨done, r, rfl, sm, h1, d, rfl⟩
  refine ⟨_, rfl, _, _, rfl, rfl, _, rfl, ifd (fun c => ?_) fun c => ?_⟩
  · have hr0 : 0 < r := by omega
    obtain ⟨d', hlen⟩ := digAt_turn hp d hr0
    refine ⟨fun σ' H' => ∃ m', m' < r ∧ _, fun _ _ z => z, ?_⟩
    refine ⟨_, rfl, .inl ⟨rfl, _, SqL.of h1⟩, _, rfl, _, rfl, _, _, rfl, rfl, (by show (0 : Int) < p; omega), l, _, _, rfl, rfl, h1, (by rw [List.length_map]; exact Nat.lt_trans hlen (by decide)), ?_⟩
    refine ⟨_, rfl, _, rfl, _, _, rfl, rfl, ⟨by show (0 : Int) < p; omega, by show (p : Int) < 1073741824; omega⟩, ?_⟩
    refine ⟨r / p, Nat.div_lt_self hr0 (by omega), done ++ [r % p], r / p, ?_, Same.put sm hl, ?_, d', rfl⟩
    · show [some (nV n), some (nV p), some (V.ref l), some (V.int ((r : Int) / (p : Int)))] = _
      rw [div_nat]
    · rw [upd_same, List.map_append]
      show some (HO.lst (done.map nV ++ [V.int ((r : Int) % (p : Int))])) = _
      rw [mod_nat]; rfl
  · have e : r = 0 := by omega
    subst e
    rw [← digAt_end d] at k
    exact ⟨_, rfl, k H' l sm hl h1⟩
theorem ok_cross_sum (T : Txt K mg A) : FnOk P w K mg base CX0 2 A.f_cross_sum A.d_cross_sum ["number", "prime"] sp_cross_sum := by
  have G_digits_of : FnOk P w K mg base CX0 1 A.f_digits_of A.d_digits_of ["number", "prime"] sp_digits_of := ok_digits_of T
  refine T.F_cross_sum.ok sc_cross_sum (fun vs H Q E h => ?_) (fun cdv A0 outer s H vs Q E hr h => ⟨_,
    (pss_one (ps_ret (pe_callB (cr_sum rfl) (by rfl) T.z_sum (by decide +kernel) (pa_cons (pe_call G_digits_of (hr.mono (by decide)) rfl T.g_digits_of T.F_digits_of.kp T.b_digits_of .nil pass0 (pa_cons (pv 0) (pa_cons (pv 1) pa_nil))) pa_nil)))), ?_⟩)
  · obtain ⟨n, p, rfl, _⟩ := h; rfl
  obtain ⟨n, p, rfl, hn, hp, hp', k⟩ := h
  refine ⟨_, rfl, _, rfl, n, p, rfl, hn, hp, hp', fun H' q sm hq hl => ?_⟩
  refine ⟨q, (Kp266.digits p n).map fun (x : Nat) => (x : Int), rfl, SqL.of (by rw [hl, maps_nV]), ?_⟩
  rw [sum_int, ← sum_eq]
  exact k H' sm
theorem ok_carried_places (T : Txt K mg A) : FnOk P w K mg base CX0 1 A.f_carried_places A.d_carried_places ["first", "second", "prime"] sp_carried_places := by
  refine T.F_carried_places.ok sc_carried_places (fun vs H Q E h => ?_) (fun cdv A0 outer s H vs Q E hr h => ⟨_,
    (pss_cons (ps_set (i := 3) sc_carried_places.nd rfl (Or.inl rfl) (pe_lst pa_nil))
    (pss_cons (ps_set (i := 4) sc_carried_places.nd rfl (Or.inl rfl) pe_int)
    (pss_cons (ps_set (i := 5) sc_carried_places.nd rfl (Or.inl rfl) pe_int)
    (pss_cons (ps_set (i := 6) sc_carried_places.nd rfl (Or.inl rfl) (pv 0))
    (pss_cons (ps_set (i := 7) sc_carried_places.nd rfl (Or.inl rfl) (pv 1))
    (pss_cons (ps_while PassesOwn.never (PW.pt (pw_or (pt_cmpR op_gt (pv 6) pe_int (nomark _)) (pw_or1 (pt_cmpR op_gt (pv 7) pe_int (nomark _)))))
    (pss_cons (ps_set (i := 8) sc_carried_places.nd rfl (Or.inl rfl) (pe_op op_add (pe_op op_add (pe_op op_mod (pv 6) (pv 2)) (pe_op op_mod (pv 7) (pv 2))) (pv 5)))
    (pss_cons (ps_set (i := 5) sc_carried_places.nd rfl (Or.inl rfl) pe_int)
    (pss_cons (ps_if (pt_cmpR op_ge (pv 8) (pv 2) (nomark _))
    (pss_cons (ps_set (i := 5) sc_carried_places.nd rfl (Or.inl rfl) pe_int)
    (pss_one (ps_expr (pe_bm PySem.F.plainAttrs_list PySem.F.slot_list_append PySem.F.type_list_append mt_append (pv 3) (pa_cons (pv 4) pa_nil))))) pss_nil)
    (pss_cons (ps_set (i := 6) sc_carried_places.nd rfl (Or.inl rfl) (pe_op op_fdiv (pv 6) (pv 2)))
    (pss_cons (ps_set (i := 7) sc_carried_places.nd rfl (Or.inl rfl) (pe_op op_fdiv (pv 7) (pv 2)))
    (pss_one (ps_set (i := 4) sc_carried_places.nd rfl (Or.inl rfl) (pe_op op_add (pv 4) pe_int)))))))))
    (pss_one (ps_ret (pv 3))))))))), ?_⟩)
  · obtain ⟨a, b, p, rfl, _⟩ := h; rfl
  obtain ⟨a0, b0, p, rfl, ha, hb, hp, hp', k⟩ := h
  have pp : (0 : Int) < p := by omega
  have pq : (p : Int) < 1073741824 := by omega
  refine ⟨by show 0 ≤ sizeLine; decide, fun l hl => ⟨_, rfl, _, rfl, ?_⟩⟩
  refine ⟨fun m σ H' => ∃ (done : List Nat) (i c a b : Nat) (v : Option V), σ = [some (nV a0), some (nV b0), some (nV p), some (.ref l), some (nV i), some (nV c), some (nV a), some (nV b), v] ∧ Same H H' ∧ H' l = some (.lst (done.map nV)) ∧ CarAt p a0 b0 done i c a b ∧ a + b = m,
    ⟨_, [], 0, 0, a0, b0, none, rfl, Same.put (Same.refl H) hl, upd_same, carAt_start ha hb, rfl⟩, ?_⟩
  rintro m σ H' ⟨done, i, c, a, b, v, rfl, sm, h1, d, rfl⟩
  refine or_gt rfl rfl (ifd (fun cc => ?_) fun cc => ?_)
  · obtain ⟨hi, hlen⟩ := carAt_less d cc
    have hlt : a / p + b / p < a + b := by
      rcases cc with cc | cc
      · have := Nat.div_lt_self cc (show 1 < p by omega)
        have := Nat.div_le_self b p
        omega
      · have := Nat.div_lt_self cc (show 1 < p by omega)
        have := Nat.div_le_self a p
        omega
    refine ⟨fun σ' H' => ∃ m', m' < a + b ∧ _, fun _ _ z => z, ?_⟩
    refine ⟨_, rfl, _, rfl, _, _, rfl, rfl, pp, _, rfl, _, rfl, _, _, rfl, rfl, pp, _, _, rfl, rfl, _, rfl, _, _, rfl, rfl, ?_⟩
    refine ⟨_, rfl, _, rfl, _, _, rfl, rfl, _, rfl, ifd (fun ct => ?_) fun ct => ?_⟩
    · have hs : p ≤ a % p + b % p + c := by
        have q : (p : Int) ≤ (a : Int) % (p : Int) + (b : Int) % (p : Int) + (c : Int) := ct
        omega
      refine ⟨_, rfl, .inl ⟨rfl, _, SqL.of h1⟩, _, rfl, l, _, _, rfl, rfl, h1, (by rw [List.length_map]; exact Nat.lt_of_le_of_lt hlen (Nat.lt_trans hi (by decide))), ?_⟩
      refine ⟨_, rfl, _, rfl, _, _, rfl, rfl, ⟨pp, pq⟩, _, rfl, _, rfl, _, _, rfl, rfl, ⟨pp, pq⟩, _, rfl, _, _, rfl, rfl, ?_⟩
      refine ⟨a / p + b / p, hlt, done ++ [i], i + 1, 1, a / p, b / p, some (V.int ((a : Int) % (p : Int) + (b : Int) % (p : Int) + (c : Int))), ?_, Same.put sm hl, ?_, carAt_yes hp d cc hs, rfl⟩
      · show [some (nV a0), some (nV b0), some (nV p), some (V.ref l), some (V.int ((i : Int) + 1)), some (V.int 1), some (V.int ((a : Int) / (p : Int))), some (V.int ((b : Int) / (p : Int))), _] = _
        rw [div_nat, div_nat]; rfl
      · rw [upd_same, List.map_append]; rfl
    · have hs : ¬ p ≤ a % p + b % p + c := by
        have q : ¬ (p : Int) ≤ (a : Int) % (p : Int) + (b : Int) % (p : Int) + (c : Int) := ct
        omega
      refine ⟨_, rfl, _, rfl, _, _, rfl, rfl, ⟨pp, pq⟩, _, rfl, _, rfl, _, _, rfl, rfl, ⟨pp, pq⟩, _, rfl, _, _, rfl, rfl, ?_⟩
      refine ⟨a / p + b / p, hlt, done, i + 1, 0, a / p, b / p, some (V.int ((a : Int) % (p : Int) + (b : Int) % (p : Int) + (c : Int))), ?_, sm, h1, carAt_no hp d cc hs, rfl⟩
      show [some (nV a0), some (nV b0), some (nV p), some (V.ref l), some (V.int ((i : Int) + 1)), some (V.int 0), some (V.int ((a : Int) / (p : Int))), some (V.int ((b : Int) / (p : Int))), _] = _
      rw [div_nat, div_nat]; rfl
  · rw [← carAt_end d cc] at k
    exact ⟨_, rfl, k H' l sm hl h1⟩
theorem ok_count_carries (T : Txt K mg A) : FnOk P w K mg base CX0 2 A.f_count_carries A.d_count_carries ["first", "second", "prime"] sp_count_carries := by
  have G_carried_places : FnOk P w K mg base CX0 1 A.f_carried_places A.d_carried_places ["first", "second", "prime"] sp_carried_places := ok_carried_places T
  refine T.F_count_carries.ok sc_count_carries (fun vs H Q E h => ?_) (fun cdv A0 outer s H vs Q E hr h => ⟨_,
    (pss_one (ps_ret (pe_callB call_len_seq (by rfl) T.z_len (by decide +kernel) (pa_cons (pe_call G_carried_places (hr.mono (by decide)) rfl T.g_carried_places T.F_carried_places.kp T.b_carried_places .nil pass0 (pa_cons (pv 0) (pa_cons (pv 1) (pa_cons (pv 2) pa_nil)))) pa_nil)))), ?_⟩)
  · obtain ⟨a, b, p, rfl, _⟩ := h; rfl
  obtain ⟨a, b, p, rfl, ha, hb, hp, hp', k⟩ := h
  refine ⟨_, rfl, _, rfl, _, rfl, a, b, p, rfl, ha, hb, hp, hp', fun H' q sm hq hl => ?_⟩
  refine ⟨q, _, rfl, .inl (SqL.of hl), ?_⟩
  rw [List.length_map]
  exact k H' sm
theorem ok_count_divisions (T : Txt K mg A) : FnOk P w K mg base CX0 1 A.f_count_divisions A.d_count_divisions ["number", "prime"] sp_count_divisions := by
  refine T.F_count_divisions.ok sc_count_divisions (fun vs H Q E h => ?_) (fun cdv A0 outer s H vs Q E hr h => ⟨_,
    (pss_cons (ps_set (i := 2) sc_count_divisions.nd rfl (Or.inl rfl) pe_int)
    (pss_cons (ps_set (i := 3) sc_count_divisions.nd rfl (Or.inl rfl) (pv 0))
    (pss_cons (ps_while PassesOwn.never (pt_cmpR op_eq (pe_op op_mod (pv 3) (pv 1)) pe_int (nomark _))
    (pss_cons (ps_set (i := 3) sc_count_divisions.nd rfl (Or.inl rfl) (pe_op op_fdiv (pv 3) (pv 1)))
    (pss_one (ps_set (i := 2) sc_count_divisions.nd rfl (Or.inl rfl) (pe_op op_add (pv 2) pe_int)))))
    (pss_one (ps_ret (pv 2)))))), ?_⟩)
  · obtain ⟨n, p, rfl, _⟩ := h; rfl
  obtain ⟨n, p, rfl, hn0, hn, hp, hp', k⟩ := h
  have pp : (0 : Int) < p := by omega
  have pq : (p : Int) < 1073741824 := by omega
  refine ⟨_, rfl, ?_⟩
  refine ⟨fun m σ H' => ∃ (j r : Nat), σ = [some (nV n), some (nV p), some (nV j), some (nV r)] ∧ Same H H' ∧ TimAt p n j r ∧ r = m, ⟨n, 0, n, rfl, Same.refl H, timAt_start hn0 hn, rfl⟩, ?_⟩
  rintro m σ H' ⟨j, r, rfl, sm, d, rfl⟩
  refine ⟨_, rfl, _, rfl, _, _, rfl, rfl, pp, rfl, _, rfl, ifd (fun c => ?_) fun c => ?_⟩
  · have hr0 : r % p = 0 := by
      have := V.int.inj c
      have q : (r : Int) % (p : Int) = 0 := this
      omega
    refine ⟨fun σ' H' => ∃ m', m' < r ∧ _, fun _ _ z => z, ?_⟩
    refine ⟨_, rfl, _, rfl, _, _, rfl, rfl, ⟨pp, pq⟩, _, rfl, _, _, rfl, rfl, ?_⟩
    refine ⟨r / p, Nat.div_lt_self (timAt_pos d).1 (by omega), j + 1, r / p, ?_, sm, timAt_turn hp d hr0, rfl⟩
    show [some (nV n), some (nV p), some (V.int ((j : Int) + 1)), some (V.int ((r : Int) / (p : Int)))] = _
    rw [div_nat]; rfl
  · have hr0 : ¬ r % p = 0 := fun z => c (by
      show V.int ((r : Int) % (p : Int)) = V.int 0
      rw [mod_nat, z]; rfl)
    rw [← timAt_end d hr0] at k
    exact ⟨_, rfl, k H' sm⟩
theorem ok_Adder_Init (T : Txt K mg A) : FnOk P w K mg base CX0 1 A.f_Adder_Init A.d_Adder_Init ["self"] (sp_Adder_Init A.C_Adder) := by
  refine T.F_Adder_Init.ok sc_Adder_Init (fun vs H Q E h => ?_) (fun cdv A0 outer s H vs Q E hr h => ⟨_,
    (pss_one (ps_fld (pv 0) pe_int rfl)), ?_⟩)
  · obtain ⟨p, dx, rfl, _⟩ := h; rfl
  obtain ⟨p, dx, rfl, hp, k⟩ := h
  refine ⟨_, rfl, p, A.C_Adder, dx, [], rfl, hp, T.cl_Adder, T.n_Adder_prime, (by show 0 < 1000; decide), ?_⟩
  exact k _ ⟨dx, upd_same⟩ fun b o e hb => by rw [upd_ne hb]; exact e
theorem ok_with_count (T : Txt K mg A) : FnOk P w K mg base CX0 1 A.f_with_count A.d_with_count ["numbers"] sp_with_count := by
  refine T.F_with_count.ok sc_with_count (fun vs H Q E h => ?_) (fun cdv A0 outer s H vs Q E hr h => ⟨_,
    (pss_one (ps_ret (pe_op op_cat (pe_lst (pa_cons (pe_callB call_len_seq (by rfl) T.z_len (by decide +kernel) (pa_cons (pv 0) pa_nil)) pa_nil)) (pv 0)))), ?_⟩)
  · obtain ⟨q, xs, rfl, _⟩ := h; rfl
  obtain ⟨q, xs, rfl, hq, hz, k⟩ := h
  refine ⟨_, rfl, q, _, rfl, .inl (SqL.of hq), by show 1 ≤ sizeLine; decide, fun l hl => ?_⟩
  have ql : q ≠ l := ne_of_none hq hl
  refine ⟨_, rfl, l, q, _, _, rfl, rfl, upd_same, (by rw [upd_ne ql]; exact hq), (by rw [List.length_map]; show 1 + xs.length ≤ sizeLine; exact Nat.le_trans (Nat.add_le_add_left hz 1) (by decide)), fun r hr => ?_⟩
  have e : [V.int (((xs.map nV).length : Nat) : Int)] ++ xs.map nV = tell (Kp266.tellAll xs) := by
    unfold tell line Kp266.tellAll Kp266.ints
    rw [List.length_map, List.map_cons, ← maps_nV]; rfl
  have s1 : Same H (upd H l (.lst [V.int (((xs.map nV).length : Nat) : Int)])) := Same.put (Same.refl H) hl
  rw [e]
  exact k.new s1 hr
theorem ok_three_added (T : Txt K mg A) : FnOk P w K mg base CX0 3 A.f_three_added A.d_three_added ["first", "second", "third", "prime"] sp_three_added := by
  have G_count_carries : FnOk P w K mg base CX0 2 A.f_count_carries A.d_count_carries ["first", "second", "prime"] sp_count_carries := ok_count_carries T
  refine T.F_three_added.ok sc_three_added (fun vs H Q E h => ?_) (fun cdv A0 outer s H vs Q E hr h => ⟨_,
    (pss_cons (ps_set (i := 4) sc_three_added.nd rfl (Or.inl rfl) (pe_call G_count_carries (hr.mono (by decide)) rfl T.g_count_carries T.F_count_carries.kp T.b_count_carries .nil pass0 (pa_cons (pv 0) (pa_cons (pv 1) (pa_cons (pv 3) pa_nil)))))
    (pss_cons (ps_set (i := 5) sc_three_added.nd rfl (Or.inl rfl) (pe_call G_count_carries (hr.mono (by decide)) rfl T.g_count_carries T.F_count_carries.kp T.b_count_carries .nil pass0 (pa_cons (pv 1) (pa_cons (pv 2) (pa_cons (pv 3) pa_nil)))))
    (pss_cons (ps_set (i := 6) sc_three_added.nd rfl (Or.inl rfl) (pe_call G_count_carries (hr.mono (by decide)) rfl T.g_count_carries T.F_count_carries.kp T.b_count_carries .nil pass0 (pa_cons (pe_op op_add (pv 0) (pv 1)) (pa_cons (pv 2) (pa_cons (pv 3) pa_nil)))))
    (pss_one (ps_ret (pe_lst (pa_cons (pe_op op_add (pv 4) (pv 6)) (pa_cons (pv 4) (pa_cons (pv 5) pa_nil))))))))), ?_⟩)
  · obtain ⟨a, b, c, p, rfl, _⟩ := h; rfl
  obtain ⟨a, b, c, p, rfl, ha, hb, hc, hp, hp', k⟩ := h
  refine ⟨_, rfl, _, rfl, _, rfl, a, b, p, rfl, by omega, by omega, hp, hp', fun H1 s1 => ?_⟩
  refine ⟨_, rfl, _, rfl, _, rfl, b, c, p, rfl, by omega, by omega, hp, hp', fun H2 s2 => ?_⟩
  refine ⟨_, rfl, _, rfl, _, _, rfl, rfl, _, rfl, _, rfl, a + b, c, p, rfl, by omega, by omega, hp, hp', fun H3 s3 => ?_⟩
  refine ⟨_, rfl, _, rfl, _, _, rfl, rfl, _, rfl, _, rfl, by show 3 ≤ sizeLine; decide, fun l hl => ?_⟩
  exact k.new (s1.trans (s2.trans s3)) hl
theorem ok_one_added (T : Txt K mg A) : FnOk P w K mg base CX0 3 A.f_one_added A.d_one_added ["number", "prime"] sp_one_added := by
  have G_count_carries : FnOk P w K mg base CX0 2 A.f_count_carries A.d_count_carries ["first", "second", "prime"] sp_count_carries := ok_count_carries T
  have G_cross_sum : FnOk P w K mg base CX0 2 A.f_cross_sum A.d_cross_sum ["number", "prime"] sp_cross_sum := ok_cross_sum T
  refine T.F_one_added.ok sc_one_added (fun vs H Q E h => ?_) (fun cdv A0 outer s H vs Q E hr h => ⟨_,
    (pss_one (ps_ret (pe_lst (pa_cons (pe_call G_cross_sum (hr.mono (by decide)) rfl T.g_cross_sum T.F_cross_sum.kp T.b_cross_sum .nil pass0 (pa_cons (pe_op op_add (pv 0) pe_int) (pa_cons (pv 1) pa_nil))) (pa_cons (pe_call G_count_carries (hr.mono (by decide)) rfl T.g_count_carries T.F_count_carries.kp T.b_count_carries .nil pass0 (pa_cons (pv 0) (pa_cons pe_int (pa_cons (pv 1) pa_nil)))) pa_nil))))), ?_⟩)
  · obtain ⟨n, p, rfl, _⟩ := h; rfl
  obtain ⟨n, p, rfl, hn, hp, hp', k⟩ := h
  refine ⟨_, rfl, _, _, rfl, rfl, _, rfl, n + 1, p, rfl, by omega, hp, hp', fun H1 s1 => ?_⟩
  refine ⟨_, rfl, _, rfl, n, 1, p, rfl, by omega, by omega, hp, hp', fun H2 s2 => ?_⟩
  refine ⟨by show 2 ≤ sizeLine; decide, fun l hl => ?_⟩
  exact k.new (s1.trans s2) hl
theorem ok_taken_away (T : Txt K mg A) : FnOk P w K mg base CX0 3 A.f_taken_away A.d_taken_away ["number", "less", "prime"] sp_taken_away := by
  have G_count_carries : FnOk P w K mg base CX0 2 A.f_count_carries A.d_count_carries ["first", "second", "prime"] sp_count_carries := ok_count_carries T
  refine T.F_taken_away.ok sc_taken_away (fun vs H Q E h => ?_) (fun cdv A0 outer s H vs Q E hr h => ⟨_,
    (pss_cons (ps_if (pt_cmpR op_lt (pv 0) (pv 1) (nomark _))
    (pss_one (ps_ret (pe_lst (pa_cons (pe_un un_neg pe_int) pa_nil)))) pss_nil)
    (pss_cons (ps_set (i := 3) sc_taken_away.nd rfl (Or.inl rfl) (pe_op op_sub (pv 0) (pv 1)))
    (pss_one (ps_ret (pe_lst (pa_cons (pv 3) (pa_cons (pe_call G_count_carries (hr.mono (by decide)) rfl T.g_count_carries T.F_count_carries.kp T.b_count_carries .nil pass0 (pa_cons (pv 3) (pa_cons (pv 1) (pa_cons (pv 2) pa_nil)))) pa_nil))))))), ?_⟩)
  · obtain ⟨a, b, p, rfl, _⟩ := h; rfl
  obtain ⟨a, b, p, rfl, ha, hb, hp, hp', k⟩ := h
  refine ⟨_, rfl, _, rfl, _, _, rfl, rfl, _, rfl, ifd (fun c => ?_) fun c => ?_⟩
  · refine ⟨_, rfl, by show 1 ≤ sizeLine; decide, fun l hl => ?_⟩
    have e : tells p (.without a b) = Kp266.say (-33) := if_pos (by omega)
    rw [e] at k
    exact k.new (Same.refl H) hl
  · have e : tells p (.without a b) = ⟨((a - b : Nat) : Int), Kp266.ints [(Kp266.places p (a - b) b).length]⟩ := if_neg (by omega)
    rw [e] at k
    have ed : V.int ((a : Int) - (b : Int)) = nV (a - b) := by rw [nV]; congr 1; omega
    refine ⟨_, rfl, _, rfl, _, _, rfl, rfl, ?_⟩
    refine ⟨_, rfl, _, rfl, _, rfl, _, rfl, a - b, b, p, (by show [V.int ((a : Int) - (b : Int)), nV b, nV p] = _; rw [ed]), by omega, by omega, hp, hp', fun H1 s1 => ?_⟩
    refine ⟨by show 2 ≤ sizeLine; decide, fun l hl => ?_⟩
    have k' := k.new s1 hl
    have e2 : tell ⟨((a - b : Nat) : Int), Kp266.ints [(Kp266.places p (a - b) b).length]⟩ = [V.int ((a : Int) - (b : Int)), nV (Kp266.places p (a - b) b).length] := by rw [ed]; rfl
    rw [e2] at k'
    exact k'
theorem ok_highest_allowed (T : Txt K mg A) : FnOk P w K mg base CX0 1 A.f_highest_allowed A.d_highest_allowed ["call", "prime"] sp_highest_allowed := by
  refine T.F_highest_allowed.ok sc_highest_allowed (fun vs H Q E h => ?_) (fun cdv A0 outer s H vs Q E hr h => ⟨_,
    (pss_cons (ps_if (pt_cmpR op_eq (pv 0) (pe_const (by rfl) T.c_NEXT) (nomark _))
    (pss_one (ps_ret (pe_op op_sub (pe_const (by rfl) T.c_HIGHEST) pe_int))) pss_nil)
    (pss_cons (ps_if (PW.pt (pw_or (pt_cmpR op_eq (pv 0) (pe_const (by rfl) T.c_WAYS) (nomark _)) (pw_or1 (pt_cmpR op_eq (pv 0) (pe_const (by rfl) T.c_MOST) (nomark _)))))
    (pss_one (ps_ret (pe_const (by rfl) T.c_HIGHEST_IN_PARTS))) pss_nil)
    (pss_cons (ps_if (pt_cmpR op_eq (pv 0) (pe_const (by rfl) T.c_LIKE) (nomark _))
    (pss_one (ps_ret (pe_const (by rfl) T.c_HIGHEST_LIKE))) pss_nil)
    (pss_cons (ps_if (pt_cmpR op_eq (pv 0) (pe_const (by rfl) T.c_NUMBER_OF) (nomark _))
    (pss_one (ps_ret (pe_op op_sub (pv 1) pe_int))) pss_nil)
    (pss_one (ps_ret (pe_const (by rfl) T.c_HIGHEST))))))), ?_⟩)
  · obtain ⟨c, p, rfl, _⟩ := h; rfl
  obtain ⟨c, p, rfl, hp, k⟩ := h
  cases c
  case next n =>
    refine ⟨_, rfl, rfl, _, rfl, if_is rfl ⟨_, _, rfl, rfl, k H (Same.refl H)⟩⟩
  case ways n m =>
    refine ⟨_, rfl, rfl, _, rfl, if_not rfl ⟨_, rfl, rfl, _, rfl, if_is rfl (if_tt (k H (Same.refl H)))⟩⟩
  case most n =>
    refine ⟨_, rfl, rfl, _, rfl, if_not rfl ⟨_, rfl, rfl, _, rfl, if_not rfl ⟨_, rfl, rfl, _, rfl, if_is rfl (k H (Same.refl H))⟩⟩⟩
  case like n =>
    refine ⟨_, rfl, rfl, _, rfl, if_not rfl ⟨_, rfl, rfl, _, rfl, if_not rfl ⟨_, rfl, rfl, _, rfl, if_not rfl ⟨_, rfl, rfl, _, rfl, if_is rfl (k H (Same.refl H))⟩⟩⟩⟩
  case from_ a b c d =>
    refine ⟨_, rfl, rfl, _, rfl, if_not rfl ⟨_, rfl, rfl, _, rfl, if_not rfl ⟨_, rfl, rfl, _, rfl, if_not rfl ⟨_, rfl, rfl, _, rfl, if_not rfl ⟨_, rfl, rfl, _, rfl, if_is rfl ⟨_, rfl, _, _, rfl, rfl, ?_⟩⟩⟩⟩⟩⟩
    have e : V.int ((p : Int) - 1) = nV (bound p (.from_ a b c d)) := by show _ = V.int ((p - 1 : Nat) : Int); congr 1; omega
    have k' := k H (Same.refl H)
    rw [← e] at k'
    exact k'
  all_goals
    exact ⟨_, rfl, rfl, _, rfl, if_not rfl ⟨_, rfl, rfl, _, rfl, if_not rfl ⟨_, rfl, rfl, _, rfl, if_not rfl ⟨_, rfl, rfl, _, rfl, if_not rfl ⟨_, rfl, rfl, _, rfl, if_not rfl (k H (Same.refl H))⟩⟩⟩⟩⟩
theorem ok_Adder_begin (T : Txt K mg A) : FnOk P w K mg base CX0 1 A.f_Adder_begin A.d_Adder_begin ["self", "prime"] (sp_Adder_begin A.C_Adder) := by
  refine T.F_Adder_begin.ok sc_Adder_begin (fun vs H Q E h => ?_) (fun cdv A0 outer s H vs Q E hr h => ⟨_,
    (pss_cons (ps_fld (pv 0) (pv 1) rfl)
    (pss_one (ps_ret (pe_lst (pa_cons (pv 1) pa_nil))))), ?_⟩)
  · obtain ⟨a, st, p, rfl, _⟩ := h; rfl
  obtain ⟨a, st, p, rfl, ⟨dx, ha⟩, k⟩ := h
  refine ⟨_, rfl, _, rfl, a, A.C_Adder, dx, _, rfl, ha, T.cl_Adder, T.n_Adder_prime, (by show 1 < 1000; decide), ?_⟩
  refine ⟨_, rfl, by show 1 ≤ sizeLine; decide, fun l hl => ?_⟩
  have al : a ≠ l := ne_of_none upd_same hl
  have nl : H l = none := by rw [upd_ne al.symm] at hl; exact hl
  refine k _ l nl upd_same ⟨dx, by rw [upd_ne al]; exact upd_same⟩ fun b o hb ba => ?_
  rw [upd_ne (ne_of_none hb nl), upd_ne ba]; exact hb
theorem ok_Adder_change_prime (T : Txt K mg A) : FnOk P w K mg base CX0 1 A.f_Adder_change_prime A.d_Adder_change_prime ["self", "prime"] (sp_Adder_change_prime A.C_Adder) := by
  refine T.F_Adder_change_prime.ok sc_Adder_change_prime (fun vs H Q E h => ?_) (fun cdv A0 outer s H vs Q E hr h => ⟨_,
    (pss_cons (ps_set (i := 2) sc_Adder_change_prime.nd rfl (Or.inl rfl) (pe_fld (pv 0) rfl))
    (pss_cons (ps_fld (pv 0) (pv 1) rfl)
    (pss_one (ps_ret (pe_lst (pa_cons (pv 2) pa_nil)))))), ?_⟩)
  · obtain ⟨a, st, p, rfl, _⟩ := h; rfl
  obtain ⟨a, st, p, rfl, ⟨dx, ha⟩, k⟩ := h
  refine ⟨_, rfl, a, A.C_Adder, dx, _, _, rfl, ha, T.cl_Adder, T.n_Adder_prime, rfl, ?_⟩
  refine ⟨_, rfl, _, rfl, a, A.C_Adder, dx, _, rfl, ha, T.cl_Adder, T.n_Adder_prime, (by show 1 < 1000; decide), ?_⟩
  refine ⟨_, rfl, by show 1 ≤ sizeLine; decide, fun l hl => ?_⟩
  have al : a ≠ l := ne_of_none upd_same hl
  have nl : H l = none := by rw [upd_ne al.symm] at hl; exact hl
  refine k _ l nl upd_same ⟨dx, by rw [upd_ne al]; exact upd_same⟩ fun b o hb ba => ?_
  rw [upd_ne (ne_of_none hb nl), upd_ne ba]; exact hb
theorem yes_if {σ : L2.St} {H : Hp} {B C : Hp → Prop} (x : B H) : tYes σ H (fun b H3 => if b = true then B H3 else C H3) := by
  show if true = true then B H else C H
  rw [if_pos rfl]; exact x
theorem ok_number_from (T : Txt K mg A) : FnOk P w K mg base CX0 1 A.f_number_from A.d_number_from ["digits", "prime"] sp_number_from := by
  refine T.F_number_from.ok sc_number_from (fun vs H Q E h => ?_) (fun cdv A0 outer s H vs Q E hr h => ⟨_,
    (pss_cons (ps_set (i := 2) sc_number_from.nd rfl (Or.inl rfl) pe_int)
    (pss_cons (ps_for PassesOwn.never rfl (pi_reversed (by rfl) T.z_reversed (pa_cons (pv 0) pa_nil)) (pg_name (i := 3) sc_number_from.nd rfl (Or.inl rfl))
    (pss_one (ps_set (i := 2) sc_number_from.nd rfl (Or.inl rfl) (pe_op op_add (pe_op op_mul (pv 2) (pv 1)) (pv 3)))))
    (pss_one (ps_ret (pv 2))))), ?_⟩)
  · obtain ⟨q, ds, p, rfl, _⟩ := h; rfl
  obtain ⟨q, ds, p, rfl, hq, hl, hd, hp, hp', k⟩ := h
  refine ⟨_, rfl, q, _, rfl, SqL.of hq, ?_⟩
  refine for_it walk_rev (fun i σ H' => (∃ v : Option V, σ = [some (.ref q), some (nV p), some (nV (valOf p (ds.drop (4 - i)))), v]) ∧ H' = H) ⟨⟨none, ?_⟩, rfl⟩ (fun _ _ _ _ z => by rw [z.2]; exact SqL.of hq) ?_ ?_
  · have e : ds.drop (4 - 0) = [] := List.drop_eq_nil_of_le (by omega)
    rw [e]; rfl
  · rintro i x σ H1 H2 hi ⟨⟨v, rfl⟩, rfl⟩ ⟨rfl, hx⟩
    rw [List.length_map] at hi hx
    have hj : 3 - i < ds.length := by omega
    have hx' : x = nV ds[3 - i] := by
      have e3 : ds.length - 1 - i = 3 - i := by omega
      rw [e3, List.getElem?_map, List.getElem?_eq_getElem hj] at hx
      exact (Option.some.inj hx).symm
    have ev : valOf p (ds.drop (4 - (i + 1))) = valOf p (ds.drop (4 - i)) * p + ds[3 - i] := by
      have e4 : 4 - (i + 1) = 3 - i := by omega
      have e5 : 4 - i = 3 - i + 1 := by omega
      rw [e4, e5, List.drop_eq_getElem_cons hj]; rfl
    have hb : valOf p (ds.drop (4 - i)) < 100 ^ 4 := by
      have h1 := val_lt (p := p) (by omega) (l := ds.drop (4 - i)) fun d hm => hd d (List.mem_of_mem_drop hm)
      have h2 : p ^ (ds.drop (4 - i)).length ≤ 100 ^ 4 := Nat.le_trans (Nat.pow_le_pow_left (by omega) _) (Nat.pow_le_pow_right (by decide) (by rw [List.length_drop]; omega))
      omega
    subst hx'
    refine ⟨_, rfl, _, rfl, _, _, rfl, rfl, .inl ⟨by omega, by omega⟩, _, rfl, _, _, rfl, rfl, ⟨some (nV ds[3 - i]), ?_⟩, rfl⟩
    rw [ev]
    rfl
  · rintro σ H1 ⟨⟨v, rfl⟩, rfl⟩
    have e : ds.drop (4 - (ds.map nV).length) = ds := by rw [List.length_map, hl]; rfl
    rw [e]
    exact ⟨_, rfl, k _ (Same.refl _)⟩
theorem ok_next_alike (T : Txt K mg A) : FnOk P w K mg base CX0 3 A.f_next_alike A.d_next_alike ["number", "prime", "within"] sp_next_alike := by
  have G_cross_sum : FnOk P w K mg base CX0 2 A.f_cross_sum A.d_cross_sum ["number", "prime"] sp_cross_sum := ok_cross_sum T
  refine T.F_next_alike.ok sc_next_alike (fun vs H Q E h => ?_) (fun cdv A0 outer s H vs Q E hr h => ⟨_,
    (pss_cons (ps_set (i := 3) sc_next_alike.nd rfl (Or.inl rfl) (pe_call G_cross_sum (hr.mono (by decide)) rfl T.g_cross_sum T.F_cross_sum.kp T.b_cross_sum .nil pass0 (pa_cons (pv 0) (pa_cons (pv 1) pa_nil))))
    (pss_cons (ps_for PassesOwn.never rfl (pi_range2 (by rfl) T.z_range (pa_cons (pe_op op_add (pv 0) pe_int) (pa_cons (pe_op op_add (pe_op op_add (pv 0) (pv 2)) pe_int) pa_nil))) (pg_name (i := 4) sc_next_alike.nd rfl (Or.inl rfl))
    (pss_one (ps_if (pt_cmpR op_eq (pe_call G_cross_sum (hr.mono (by decide)) rfl T.g_cross_sum T.F_cross_sum.kp T.b_cross_sum .nil pass0 (pa_cons (pv 4) (pa_cons (pv 1) pa_nil))) (pv 3) (nomark _))
    (pss_one (ps_ret (pv 4))) pss_nil)))
    (pss_one (ps_ret pe_int)))), ?_⟩)
  · obtain ⟨n, p, rfl, _⟩ := h; rfl
  obtain ⟨n, p, rfl, hn, hp, hp', k⟩ := h
  refine ⟨_, rfl, _, rfl, n, p, rfl, by omega, hp, hp', fun H1 s1 => ?_⟩
  have ew : (((n : Int) + 2000 + 1) - ((n : Int) + 1)).toNat = 2000 := by omega
  refine ⟨_, rfl, _, _, rfl, rfl, _, rfl, _, rfl, _, _, rfl, rfl, _, _, rfl, rfl, (n : Int) + 1, (n : Int) + 2000 + 1, rfl, ⟨by omega, by omega, by omega, by omega⟩, ?_⟩
  refine for_range (lo := (n : Int) + 1) (n := (((n : Int) + 2000 + 1) - ((n : Int) + 1)).toNat) (fun i σ H' => (∃ v : Option V, σ = [some (nV n), some (nV p), some (nV 2000), some (nV (Kp266.cross p n)), v]) ∧ Same H H' ∧ ∀ j, j < i → Kp266.cross p (n + 1 + j) ≠ Kp266.cross p n) ⟨⟨none, rfl⟩, s1, fun j hj => by omega⟩ ?_ ?_
  · rintro i σ H2 hi ⟨⟨v, rfl⟩, s2, hd⟩
    rw [ew] at hi
    refine ⟨_, rfl, _, rfl, n + 1 + i, p, rfl, by omega, hp, hp', fun H3 s3 => ?_⟩
    refine ⟨_, rfl, rfl, _, rfl, ifd (fun c => ?_) fun c => ?_⟩
    · have e : Kp266.cross p (n + 1 + i) = Kp266.cross p n := Int.ofNat.inj (V.int.inj c)
      rw [like_some hi hd e] at k
      exact ⟨_, rfl, k H3 (s2.trans s3)⟩
    · refine ⟨⟨_, rfl⟩, s2.trans s3, fun j hj => ?_⟩
      by_cases hlt : j < i
      · exact hd j hlt
      · have ej : j = i := by omega
        subst ej
        intro z
        exact c (by rw [z])
  · rintro σ H2 ⟨⟨v, rfl⟩, s2, hd⟩
    rw [ew] at hd
    rw [like_none hd] at k
    exact k H2 s2
theorem ok_carries_of_parts (T : Txt K mg A) : FnOk P w K mg base CX0 3 A.f_carries_of_parts A.d_carries_of_parts ["number", "prime"] sp_carries_of_parts := by
  have G_count_carries : FnOk P w K mg base CX0 2 A.f_count_carries A.d_count_carries ["first", "second", "prime"] sp_count_carries := ok_count_carries T
  refine T.F_carries_of_parts.ok sc_carries_of_parts (fun vs H Q E h => ?_) (fun cdv A0 outer s H vs Q E hr h => ⟨_,
    (pss_one (ps_ret (pe_lc (own := [("part", 2)]) (g := (gName 2)) (tt := tYes) rfl sc_carries_of_parts.nd (pi_range1 (by rfl) T.z_range (pa_cons (pe_op op_add (pv 0) pe_int) pa_nil)) (blkOk_by (own := [("part", 2)]) (N := ["number", "prime", "part"]) (sc := defScope s_carries_of_parts) (by decide +kernel)) (fun _ _ _ _ _ => pg_name (i := 2) sc_carries_of_parts.nd rfl (Or.inl rfl)) (fun _ _ _ _ _ => pts_nil) (fun _ _ _ _ _ => (pe_call G_count_carries (hr.mono (by decide)) rfl T.g_count_carries T.F_count_carries.kp T.b_count_carries .nil pass0 (pa_cons (pv 2) (pa_cons (pe_op op_sub (pv 0) (pv 2)) (pa_cons (pv 1) pa_nil)))))))), ?_⟩)
  · obtain ⟨n, p, rfl, _⟩ := h; rfl
  obtain ⟨n, p, rfl, hn, hp, hp', k⟩ := h
  have en : ((n : Int) + 1).toNat = n + 1 := by omega
  refine ⟨_, rfl, _, _, rfl, rfl, (n : Int) + 1, rfl, by omega, by omega, fun D hD => ?_⟩
  refine lc_range (lo := 0) (n := ((n : Int) + 1).toNat) (fun i H' => Same H H' ∧ H' D = some (.lst (((List.range i).map fun a => (Kp266.places p a (n - a)).length).map nV))) ⟨Same.put (Same.refl H) hD, upd_same⟩ ?_ ?_
  · rintro i H1 hi ⟨s1, h1⟩
    rw [en] at hi
    refine ⟨rfl, yes_if ?_⟩
    refine ⟨_, rfl, _, rfl, _, rfl, _, _, rfl, rfl, _, rfl, i, n - i, p, ?_, by omega, by omega, hp, hp', fun H2 s2 => ?_⟩
    · have e1 : (0 : Int) + (i : Int) = ((i : Nat) : Int) := by omega
      have e2 : (n : Int) - (i : Int) = ((n - i : Nat) : Int) := by omega
      show [V.int ((0 : Int) + (i : Int)), V.int ((n : Int) - ((0 : Int) + (i : Int))), nV p] = _
      rw [e1, e2]
    · refine ⟨_, s2 D _ h1, (by rw [List.length_map, List.length_map, List.length_range]; exact Nat.lt_of_le_of_lt (show i ≤ 1000 by omega) (by decide)), Same.put (s1.trans s2) hD, ?_⟩
      rw [upd_same, List.range_succ, List.map_append, List.map_append]; rfl
  · rintro H1 ⟨s1, h1⟩
    rw [en] at h1
    exact k H1 D s1 hD h1
theorem ok_parts_carried (T : Txt K mg A) : FnOk P w K mg base CX0 4 A.f_parts_carried A.d_parts_carried ["number", "often", "prime"] sp_parts_carried := by
  have G_carries_of_parts : FnOk P w K mg base CX0 3 A.f_carries_of_parts A.d_carries_of_parts ["number", "prime"] sp_carries_of_parts := ok_carries_of_parts T
  refine T.F_parts_carried.ok sc_parts_carried (fun vs H Q E h => ?_) (fun cdv A0 outer s H vs Q E hr h => ⟨_,
    (pss_one (ps_ret (pe_lc (own := [("part", 3), ("carried", 4)]) (g := (gTup K 2 (gCons (gName 3) (gCons (gName 4) gNil)))) rfl sc_parts_carried.nd (pi_enum (by rfl) T.z_enumerate (pa_cons (pe_call G_carries_of_parts (hr.mono (by decide)) rfl T.g_carries_of_parts T.F_carries_of_parts.kp T.b_carries_of_parts .nil pass0 (pa_cons (pv 0) (pa_cons (pv 2) pa_nil))) pa_nil)) (blkOk_by (own := [("part", 3), ("carried", 4)]) (N := ["number", "often", "prime", "part", "carried"]) (sc := defScope s_parts_carried) (by decide +kernel)) (fun _ _ _ _ _ => pg_tup rfl (pgs_cons (pg_name (i := 3) sc_parts_carried.nd rfl (Or.inl rfl)) (pgs_cons (pg_name (i := 4) sc_parts_carried.nd rfl (Or.inl rfl)) pgs_nil))) (fun _ _ _ _ _ => (pts_one (pt_cmpR op_eq (pv 4) (pv 1) (nomark _)))) (fun _ _ _ _ _ => (pv 3))))), ?_⟩)
  · obtain ⟨n, m, p, rfl, _⟩ := h; rfl
  obtain ⟨n, m, p, rfl, hn, hp, hp', k⟩ := h
  refine ⟨_, rfl, _, rfl, n, p, rfl, hn, hp, hp', fun H1 q s1 hq h1 => ?_⟩
  refine ⟨q, _, rfl, SqL.of h1, fun D hD => ?_⟩
  have qD : q ≠ D := ne_of_none h1 hD
  refine lc_it walk_enum (fun i H' => Same H1 H' ∧ H' D = some (.lst (((List.range i).filter fun a => (Kp266.places p a (n - a)).length == m).map nV))) ⟨Same.put (Same.refl H1) hD, upd_same⟩ (fun _ H' _ z => SqL.of (z.1 q _ h1)) ?_ ?_
  · rintro i x H2 H3 hi ⟨s2, h2⟩ ⟨t, x1, x2, rfl, ht, rfl, ex1, ex2⟩
    rw [List.length_map, parts_len] at hi
    have e1 : x1 = nV i := (Option.some.inj ex1).symm
    have e2 : x2 = nV (Kp266.places p i (n - i)).length := by
      have ex2 : ((parts p n).map nV)[i]? = some x2 := ex2
      rw [List.getElem?_map, parts_at hi] at ex2
      exact (Option.some.inj ex2).symm
    subst e1 e2
    have Dt : D ≠ t := ne_of_none h2 ht
    have s3 : Same H1 (upd H2 t (.tup [nV i, nV (Kp266.places p i (n - i)).length])) := fun b o hb => by rw [upd_ne (ne_of_none (s2 b o hb) ht)]; exact s2 b o hb
    refine ⟨t, _, rfl, SqT.of upd_same, rfl, _, _, rfl, _, _, rfl, rfl, rfl, ?_⟩
    refine ⟨_, rfl, _, rfl, rfl, _, rfl, ifd (fun c => ?_) fun c => ?_⟩
    · have ec : ((Kp266.places p i (n - i)).length == m) = true := beq_iff_eq.2 (Int.ofNat.inj (V.int.inj c))
      refine ⟨_, rfl, _, (by rw [upd_ne Dt]; exact h2), (by rw [List.length_map]; exact Nat.lt_of_le_of_lt (Nat.le_trans (filter_len _ i) (show i ≤ 1000 by omega)) (by decide)), Same.put s3 hD, ?_⟩
      rw [upd_same, filter_yes (f := fun a => (Kp266.places p a (n - a)).length == m) ec, List.map_append]; rfl
    · have ec : ((Kp266.places p i (n - i)).length == m) = false := beq_eq_false_iff_ne.2 fun z => c (by rw [z])
      refine ⟨s3, ?_⟩
      rw [upd_ne Dt, filter_no (f := fun a => (Kp266.places p a (n - a)).length == m) ec]
      exact h2
  · rintro H2 ⟨s2, h2⟩
    rw [List.length_map, parts_len] at h2
    exact k H2 D (s1.trans s2) (s1.free hD) h2
theorem ok_first_alike (T : Txt K mg A) : FnOk P w K mg base CX0 4 A.f_first_alike A.d_first_alike ["number", "prime"] sp_first_alike := by
  have G_next_alike : FnOk P w K mg base CX0 3 A.f_next_alike A.d_next_alike ["number", "prime", "within"] sp_next_alike := ok_next_alike T
  refine T.F_first_alike.ok sc_first_alike (fun vs H Q E h => ?_) (fun cdv A0 outer s H vs Q E hr h => ⟨_,
    (pss_cons (ps_set (i := 2) sc_first_alike.nd rfl (Or.inl rfl) (pe_call G_next_alike (hr.mono (by decide)) rfl T.g_next_alike T.F_next_alike.kp T.b_next_alike .nil pass0 (pa_cons (pv 0) (pa_cons (pv 1) (pa_cons (pe_const (by rfl) T.c_LIKE_WITHIN) pa_nil)))))
    (pss_cons (ps_if (pt_cmpR op_eq (pv 2) pe_int (nomark _))
    (pss_one (ps_ret (pe_lst (pa_cons (pe_un un_neg pe_int) pa_nil)))) pss_nil)
    (pss_one (ps_ret (pe_lst (pa_cons (pv 2) pa_nil)))))), ?_⟩)
  · obtain ⟨n, p, rfl, _⟩ := h; rfl
  obtain ⟨n, p, rfl, hn, hp, hp', k⟩ := h
  refine ⟨_, rfl, _, rfl, n, p, rfl, hn, hp, hp', fun H1 s1 => ?_⟩
  have el : tells p (.like n) = match Kp266.likeAfter p n with
    | some m => Kp266.say (m : Int)
    | none => Kp266.say (-33) := rfl
  rw [el] at k
  cases e : Kp266.likeAfter p n with
  | none =>
    rw [e] at k
    refine ⟨_, rfl, rfl, _, rfl, if_is rfl ?_⟩
    refine ⟨_, rfl, by show 1 ≤ sizeLine; decide, fun l hl => ?_⟩
    exact k.new s1 hl
  | some m =>
    rw [e] at k
    have hm : m ≠ 0 := by
      have := List.mem_of_find?_eq_some e
      obtain ⟨i, _, rfl⟩ := List.mem_map.1 this
      omega
    refine ⟨_, rfl, rfl, _, rfl, if_not (beq_eq_false_iff_ne.2 (show (m : Int) ≠ 0 by omega)) ?_⟩
    refine ⟨_, rfl, by show 1 ≤ sizeLine; decide, fun l hl => ?_⟩
    exact k.new s1 hl
theorem idx0 {a : V} {l : List V} : atI (a :: l) 0 = some a := atI_nat (j := 0) rfl
theorem ok_is_refused (T : Txt K mg A) : FnOk P w K mg base CX0 2 A.f_is_refused A.d_is_refused ["call", "numbers", "prime"] sp_is_refused := by
  have G_is_prime_below_100 : FnOk P w K mg base CX0 1 A.f_is_prime_below_100 A.d_is_prime_below_100 ["number"] sp_is_prime_below_100 := ok_is_prime_below_100 T
  have G_highest_allowed : FnOk P w K mg base CX0 1 A.f_highest_allowed A.d_highest_allowed ["call", "prime"] sp_highest_allowed := ok_highest_allowed T
  refine T.F_is_refused.ok sc_is_refused (fun vs H Q E h => ?_) (fun cdv A0 outer s H vs Q E hr h => ⟨_,
    (pss_cons (ps_if (PW.pt (pw_or (pt_cmpR op_eq (pv 0) (pe_const (by rfl) T.c_BEGIN) (nomark _)) (pw_or1 (pt_cmpR op_eq (pv 0) (pe_const (by rfl) T.c_PRIME) (nomark _)))))
    (pss_one (ps_ret (pe_not (pe_call G_is_prime_below_100 (hr.mono (by decide)) rfl T.g_is_prime_below_100 T.F_is_prime_below_100.kp T.b_is_prime_below_100 .nil pass0 (pa_cons (pe_ix ix_list (pv 1) pe_int (fun _ _ => rfl)) pa_nil))))) pss_nil)
    (pss_cons (ps_if (PW.pt (pw_and (pt_cmpR op_eq (pv 0) (pe_const (by rfl) T.c_TIMES) (nomark _)) (pw_and1 (pt_cmpR op_eq (pe_ix ix_list (pv 1) pe_int (fun _ _ => rfl)) pe_int (nomark _)))))
    (pss_one (ps_ret pe_bl)) pss_nil)
    (pss_cons (ps_set (i := 3) sc_is_refused.nd rfl (Or.inl rfl) (pe_ifExp (pt_cmpR op_eq (pv 0) (pe_const (by rfl) T.c_WAYS) (nomark _)) (pe_slice sl_list (pv 1) po_none (po_some pe_int)) (pv 1)))
    (pss_one (ps_ret (pe_cmpR op_gt (pe_callBK (cr_maxDef rfl hr.units) (by rfl) T.z_max (by decide +kernel) (pa_cons (pv 3) pa_nil) (pk_cons pe_int pk_nil)) (pe_call G_highest_allowed (hr.mono (by decide)) rfl T.g_highest_allowed T.F_highest_allowed.kp T.b_highest_allowed .nil pass0 (pa_cons (pv 0) (pa_cons (pv 2) pa_nil))) (nomark _))))))), ?_⟩)
  · obtain ⟨q, c, p, rfl, _⟩ := h; rfl
  obtain ⟨q, c, p, rfl, hq, hs, hp, k⟩ := h
  cases c
  case begin_ n =>
    have hn : n < 4294967296 := hs n (by simp [args])
    have e : refused p (.begin_ n) = !Kp266.okP n := by simp [refused, early, plainCall]
    rw [e] at k
    refine ⟨_, rfl, rfl, _, rfl, if_is rfl (if_tt ?_)⟩
    refine ⟨_, rfl, q, _, _, _, rfl, rfl, SqL.of hq, idx0, n, rfl, hn, fun H1 s1 => ?_⟩
    exact ⟨_, rfl, k H1 s1⟩
  case prime n =>
    have hn : n < 4294967296 := hs n (by simp [args])
    have e : refused p (.prime n) = !Kp266.okP n := by simp [refused, early, plainCall]
    rw [e] at k
    refine ⟨_, rfl, rfl, _, rfl, if_not rfl ⟨_, rfl, rfl, _, rfl, if_is rfl ?_⟩⟩
    refine ⟨_, rfl, q, _, _, _, rfl, rfl, SqL.of hq, idx0, n, rfl, hn, fun H1 s1 => ?_⟩
    exact ⟨_, rfl, k H1 s1⟩
  case times n =>
    refine ⟨_, rfl, rfl, _, rfl, if_not rfl ⟨_, rfl, rfl, _, rfl, if_not rfl ?_⟩⟩
    refine ⟨_, rfl, rfl, _, rfl, if_is rfl ⟨_, rfl, q, _, _, _, rfl, rfl, SqL.of hq, idx0, rfl, _, rfl, ifd (fun c => ?_) fun c => ?_⟩⟩
    · have hn : n = 0 := Int.ofNat.inj (V.int.inj c)
      have e : refused p (.times n) = true := by rw [hn]; rfl
      rw [e] at k
      exact k H (Same.refl H)
    · have hn : n ≠ 0 := fun z => c (by rw [z]; rfl)
      have e : refused p (.times n) = (held (.times n)).any fun x => (bound p (.times n)).blt x := by
        have e0 : n.beq 0 = false := Bool.eq_false_iff.2 fun z => hn (Nat.eq_of_beq_eq_true z)
        show (n.beq 0 || (true && _)) = _
        rw [e0]; rfl
      rw [e] at k
      refine ⟨_, rfl, rfl, _, rfl, if_not rfl ⟨_, rfl, ?_⟩⟩
      refine ⟨_, rfl, q, [(n : Int)], 0, rfl, rfl, SqL.of hq, fun m hm => ?_⟩
      refine ⟨_, rfl, _, rfl, .times n, p, rfl, hp rfl, fun H1 s1 => ⟨_, _, rfl, rfl, ?_⟩⟩
      have eb := best_any (ns := held (.times n)) (b := bound p (.times n)) hm
      rw [← eb] at k
      exact k H1 s1
  case ways n j =>
    refine ⟨_, rfl, rfl, _, rfl, if_not rfl ⟨_, rfl, rfl, _, rfl, if_not rfl ?_⟩⟩
    refine ⟨_, rfl, rfl, _, rfl, if_not rfl ?_⟩
    refine ⟨_, rfl, rfl, _, rfl, if_is rfl ⟨_, rfl, _, rfl, q, _, rfl, SqL.of hq, fun r hr => ?_⟩⟩
    refine ⟨_, rfl, r, [(n : Int)], 0, rfl, rfl, SqL.of upd_same, fun m hm => ?_⟩
    refine ⟨_, rfl, _, rfl, .ways n j, p, rfl, hp rfl, fun H1 s1 => ⟨_, _, rfl, rfl, ?_⟩⟩
    have e : refused p (.ways n j) = (held (.ways n j)).any fun x => (bound p (.ways n j)).blt x := rfl
    have eb := best_any (ns := held (.ways n j)) (b := bound p (.ways n j)) hm
    rw [e, ← eb] at k
    exact k H1 ((Same.put (Same.refl H) hr).trans s1)
  case told =>
    refine ⟨_, rfl, rfl, _, rfl, if_not rfl ⟨_, rfl, rfl, _, rfl, if_not rfl ?_⟩⟩
    refine ⟨_, rfl, rfl, _, rfl, if_not rfl ?_⟩
    refine ⟨_, rfl, rfl, _, rfl, if_not rfl ⟨_, rfl, ?_⟩⟩
    refine ⟨_, rfl, q, natInts (args .told), 0, rfl, rfl, SqL.of hq, fun m hm => ?_⟩
    refine ⟨_, rfl, _, rfl, .told, p, rfl, hp rfl, fun H1 s1 => ⟨_, _, rfl, rfl, ?_⟩⟩
    have e : refused p .told = (held .told).any fun x => (bound p .told).blt x := rfl
    have eb := best_any (ns := held .told) (b := bound p .told) hm
    rw [e, ← eb] at k
    exact k H1 s1
  case digits n =>
    refine ⟨_, rfl, rfl, _, rfl, if_not rfl ⟨_, rfl, rfl, _, rfl, if_not rfl ?_⟩⟩
    refine ⟨_, rfl, rfl, _, rfl, if_not rfl ?_⟩
    refine ⟨_, rfl, rfl, _, rfl, if_not rfl ⟨_, rfl, ?_⟩⟩
    refine ⟨_, rfl, q, natInts (args (.digits n)), 0, rfl, rfl, SqL.of hq, fun m hm => ?_⟩
    refine ⟨_, rfl, _, rfl, (.digits n), p, rfl, hp rfl, fun H1 s1 => ⟨_, _, rfl, rfl, ?_⟩⟩
    have e : refused p (.digits n) = (held (.digits n)).any fun x => (bound p (.digits n)).blt x := rfl
    have eb := best_any (ns := held (.digits n)) (b := bound p (.digits n)) hm
    rw [e, ← eb] at k
    exact k H1 s1
  case cross n =>
    refine ⟨_, rfl, rfl, _, rfl, if_not rfl ⟨_, rfl, rfl, _, rfl, if_not rfl ?_⟩⟩
    refine ⟨_, rfl, rfl, _, rfl, if_not rfl ?_⟩
    refine ⟨_, rfl, rfl, _, rfl, if_not rfl ⟨_, rfl, ?_⟩⟩
    refine ⟨_, rfl, q, natInts (args (.cross n)), 0, rfl, rfl, SqL.of hq, fun m hm => ?_⟩
    refine ⟨_, rfl, _, rfl, (.cross n), p, rfl, hp rfl, fun H1 s1 => ⟨_, _, rfl, rfl, ?_⟩⟩
    have e : refused p (.cross n) = (held (.cross n)).any fun x => (bound p (.cross n)).blt x := rfl
    have eb := best_any (ns := held (.cross n)) (b := bound p (.cross n)) hm
    rw [e, ← eb] at k
    exact k H1 s1
  case carries n n2 =>
    refine ⟨_, rfl, rfl, _, rfl, if_not rfl ⟨_, rfl, rfl, _, rfl, if_not rfl ?_⟩⟩
    refine ⟨_, rfl, rfl, _, rfl, if_not rfl ?_⟩
    refine ⟨_, rfl, rfl, _, rfl, if_not rfl ⟨_, rfl, ?_⟩⟩
    refine ⟨_, rfl, q, natInts (args (.carries n n2)), 0, rfl, rfl, SqL.of hq, fun m hm => ?_⟩
    refine ⟨_, rfl, _, rfl, (.carries n n2), p, rfl, hp rfl, fun H1 s1 => ⟨_, _, rfl, rfl, ?_⟩⟩
    have e : refused p (.carries n n2) = (held (.carries n n2)).any fun x => (bound p (.carries n n2)).blt x := rfl
    have eb := best_any (ns := held (.carries n n2)) (b := bound p (.carries n n2)) hm
    rw [e, ← eb] at k
    exact k H1 s1
  case places n n2 =>
    refine ⟨_, rfl, rfl, _, rfl, if_not rfl ⟨_, rfl, rfl, _, rfl, if_not rfl ?_⟩⟩
    refine ⟨_, rfl, rfl, _, rfl, if_not rfl ?_⟩
    refine ⟨_, rfl, rfl, _, rfl, if_not rfl ⟨_, rfl, ?_⟩⟩
    refine ⟨_, rfl, q, natInts (args (.places n n2)), 0, rfl, rfl, SqL.of hq, fun m hm => ?_⟩
    refine ⟨_, rfl, _, rfl, (.places n n2), p, rfl, hp rfl, fun H1 s1 => ⟨_, _, rfl, rfl, ?_⟩⟩
    have e : refused p (.places n n2) = (held (.places n n2)).any fun x => (bound p (.places n n2)).blt x := rfl
    have eb := best_any (ns := held (.places n n2)) (b := bound p (.places n n2)) hm
    rw [e, ← eb] at k
    exact k H1 s1
  case three n n2 n3 =>
    refine ⟨_, rfl, rfl, _, rfl, if_not rfl ⟨_, rfl, rfl, _, rfl, if_not rfl ?_⟩⟩
    refine ⟨_, rfl, rfl, _, rfl, if_not rfl ?_⟩
    refine ⟨_, rfl, rfl, _, rfl, if_not rfl ⟨_, rfl, ?_⟩⟩
    refine ⟨_, rfl, q, natInts (args (.three n n2 n3)), 0, rfl, rfl, SqL.of hq, fun m hm => ?_⟩
    refine ⟨_, rfl, _, rfl, (.three n n2 n3), p, rfl, hp rfl, fun H1 s1 => ⟨_, _, rfl, rfl, ?_⟩⟩
    have e : refused p (.three n n2 n3) = (held (.three n n2 n3)).any fun x => (bound p (.three n n2 n3)).blt x := rfl
    have eb := best_any (ns := held (.three n n2 n3)) (b := bound p (.three n n2 n3)) hm
    rw [e, ← eb] at k
    exact k H1 s1
  case next n =>
    refine ⟨_, rfl, rfl, _, rfl, if_not rfl ⟨_, rfl, rfl, _, rfl, if_not rfl ?_⟩⟩
    refine ⟨_, rfl, rfl, _, rfl, if_not rfl ?_⟩
    refine ⟨_, rfl, rfl, _, rfl, if_not rfl ⟨_, rfl, ?_⟩⟩
    refine ⟨_, rfl, q, natInts (args (.next n)), 0, rfl, rfl, SqL.of hq, fun m hm => ?_⟩
    refine ⟨_, rfl, _, rfl, (.next n), p, rfl, hp rfl, fun H1 s1 => ⟨_, _, rfl, rfl, ?_⟩⟩
    have e : refused p (.next n) = (held (.next n)).any fun x => (bound p (.next n)).blt x := rfl
    have eb := best_any (ns := held (.next n)) (b := bound p (.next n)) hm
    rw [e, ← eb] at k
    exact k H1 s1
  case most n =>
    refine ⟨_, rfl, rfl, _, rfl, if_not rfl ⟨_, rfl, rfl, _, rfl, if_not rfl ?_⟩⟩
    refine ⟨_, rfl, rfl, _, rfl, if_not rfl ?_⟩
    refine ⟨_, rfl, rfl, _, rfl, if_not rfl ⟨_, rfl, ?_⟩⟩
    refine ⟨_, rfl, q, natInts (args (.most n)), 0, rfl, rfl, SqL.of hq, fun m hm => ?_⟩
    refine ⟨_, rfl, _, rfl, (.most n), p, rfl, hp rfl, fun H1 s1 => ⟨_, _, rfl, rfl, ?_⟩⟩
    have e : refused p (.most n) = (held (.most n)).any fun x => (bound p (.most n)).blt x := rfl
    have eb := best_any (ns := held (.most n)) (b := bound p (.most n)) hm
    rw [e, ← eb] at k
    exact k H1 s1
  case like n =>
    refine ⟨_, rfl, rfl, _, rfl, if_not rfl ⟨_, rfl, rfl, _, rfl, if_not rfl ?_⟩⟩
    refine ⟨_, rfl, rfl, _, rfl, if_not rfl ?_⟩
    refine ⟨_, rfl, rfl, _, rfl, if_not rfl ⟨_, rfl, ?_⟩⟩
    refine ⟨_, rfl, q, natInts (args (.like n)), 0, rfl, rfl, SqL.of hq, fun m hm => ?_⟩
    refine ⟨_, rfl, _, rfl, (.like n), p, rfl, hp rfl, fun H1 s1 => ⟨_, _, rfl, rfl, ?_⟩⟩
    have e : refused p (.like n) = (held (.like n)).any fun x => (bound p (.like n)).blt x := rfl
    have eb := best_any (ns := held (.like n)) (b := bound p (.like n)) hm
    rw [e, ← eb] at k
    exact k H1 s1
  case from_ n n2 n3 n4 =>
    refine ⟨_, rfl, rfl, _, rfl, if_not rfl ⟨_, rfl, rfl, _, rfl, if_not rfl ?_⟩⟩
    refine ⟨_, rfl, rfl, _, rfl, if_not rfl ?_⟩
    refine ⟨_, rfl, rfl, _, rfl, if_not rfl ⟨_, rfl, ?_⟩⟩
    refine ⟨_, rfl, q, natInts (args (.from_ n n2 n3 n4)), 0, rfl, rfl, SqL.of hq, fun m hm => ?_⟩
    refine ⟨_, rfl, _, rfl, (.from_ n n2 n3 n4), p, rfl, hp rfl, fun H1 s1 => ⟨_, _, rfl, rfl, ?_⟩⟩
    have e : refused p (.from_ n n2 n3 n4) = (held (.from_ n n2 n3 n4)).any fun x => (bound p (.from_ n n2 n3 n4)).blt x := rfl
    have eb := best_any (ns := held (.from_ n n2 n3 n4)) (b := bound p (.from_ n n2 n3 n4)) hm
    rw [e, ← eb] at k
    exact k H1 s1
  case without n n2 =>
    refine ⟨_, rfl, rfl, _, rfl, if_not rfl ⟨_, rfl, rfl, _, rfl, if_not rfl ?_⟩⟩
    refine ⟨_, rfl, rfl, _, rfl, if_not rfl ?_⟩
    refine ⟨_, rfl, rfl, _, rfl, if_not rfl ⟨_, rfl, ?_⟩⟩
    refine ⟨_, rfl, q, natInts (args (.without n n2)), 0, rfl, rfl, SqL.of hq, fun m hm => ?_⟩
    refine ⟨_, rfl, _, rfl, (.without n n2), p, rfl, hp rfl, fun H1 s1 => ⟨_, _, rfl, rfl, ?_⟩⟩
    have e : refused p (.without n n2) = (held (.without n n2)).any fun x => (bound p (.without n n2)).blt x := rfl
    have eb := best_any (ns := held (.without n n2)) (b := bound p (.without n n2)) hm
    rw [e, ← eb] at k
    exact k H1 s1
theorem idx1 {a b : V} {l : List V} : atI (a :: b :: l) 1 = some b := atI_nat (j := 1) rfl
theorem idx2 {a b c : V} {l : List V} : atI (a :: b :: c :: l) 2 = some c := atI_nat (j := 2) rfl
theorem ok_computed (T : Txt K mg A) : FnOk P w K mg base CX0 5 A.f_computed A.d_computed ["call", "numbers", "prime"] sp_computed := by
  have G_with_count : FnOk P w K mg base CX0 1 A.f_with_count A.d_with_count ["numbers"] sp_with_count := ok_with_count T
  have G_digits_of : FnOk P w K mg base CX0 1 A.f_digits_of A.d_digits_of ["number", "prime"] sp_digits_of := ok_digits_of T
  have G_cross_sum : FnOk P w K mg base CX0 2 A.f_cross_sum A.d_cross_sum ["number", "prime"] sp_cross_sum := ok_cross_sum T
  have G_count_carries : FnOk P w K mg base CX0 2 A.f_count_carries A.d_count_carries ["first", "second", "prime"] sp_count_carries := ok_count_carries T
  have G_carried_places : FnOk P w K mg base CX0 1 A.f_carried_places A.d_carried_places ["first", "second", "prime"] sp_carried_places := ok_carried_places T
  have G_three_added : FnOk P w K mg base CX0 3 A.f_three_added A.d_three_added ["first", "second", "third", "prime"] sp_three_added := ok_three_added T
  have G_count_divisions : FnOk P w K mg base CX0 1 A.f_count_divisions A.d_count_divisions ["number", "prime"] sp_count_divisions := ok_count_divisions T
  have G_one_added : FnOk P w K mg base CX0 3 A.f_one_added A.d_one_added ["number", "prime"] sp_one_added := ok_one_added T
  have G_parts_carried : FnOk P w K mg base CX0 4 A.f_parts_carried A.d_parts_carried ["number", "often", "prime"] sp_parts_carried := ok_parts_carried T
  have G_carries_of_parts : FnOk P w K mg base CX0 3 A.f_carries_of_parts A.d_carries_of_parts ["number", "prime"] sp_carries_of_parts := ok_carries_of_parts T
  have G_first_alike : FnOk P w K mg base CX0 4 A.f_first_alike A.d_first_alike ["number", "prime"] sp_first_alike := ok_first_alike T
  have G_number_from : FnOk P w K mg base CX0 1 A.f_number_from A.d_number_from ["digits", "prime"] sp_number_from := ok_number_from T
  have G_taken_away : FnOk P w K mg base CX0 3 A.f_taken_away A.d_taken_away ["number", "less", "prime"] sp_taken_away := ok_taken_away T
  refine T.F_computed.ok sc_computed (fun vs H Q E h => ?_) (fun cdv A0 outer s H vs Q E hr h => ⟨_,
    (pss_cons (ps_if (pt_cmpR op_eq (pv 0) (pe_const (by rfl) T.c_DIGITS) (nomark _))
    (pss_one (ps_ret (pe_call G_with_count (hr.mono (by decide)) rfl T.g_with_count T.F_with_count.kp T.b_with_count .nil pass0 (pa_cons (pe_call G_digits_of (hr.mono (by decide)) rfl T.g_digits_of T.F_digits_of.kp T.b_digits_of .nil pass0 (pa_cons (pe_ix ix_list (pv 1) pe_int (fun _ _ => rfl)) (pa_cons (pv 2) pa_nil))) pa_nil)))) pss_nil)
    (pss_cons (ps_if (pt_cmpR op_eq (pv 0) (pe_const (by rfl) T.c_CROSS) (nomark _))
    (pss_one (ps_ret (pe_lst (pa_cons (pe_call G_cross_sum (hr.mono (by decide)) rfl T.g_cross_sum T.F_cross_sum.kp T.b_cross_sum .nil pass0 (pa_cons (pe_ix ix_list (pv 1) pe_int (fun _ _ => rfl)) (pa_cons (pv 2) pa_nil))) pa_nil)))) pss_nil)
    (pss_cons (ps_if (pt_cmpR op_eq (pv 0) (pe_const (by rfl) T.c_CARRIES) (nomark _))
    (pss_one (ps_ret (pe_lst (pa_cons (pe_call G_count_carries (hr.mono (by decide)) rfl T.g_count_carries T.F_count_carries.kp T.b_count_carries .nil pass0 (pa_cons (pe_ix ix_list (pv 1) pe_int (fun _ _ => rfl)) (pa_cons (pe_ix ix_list (pv 1) pe_int (fun _ _ => rfl)) (pa_cons (pv 2) pa_nil)))) pa_nil)))) pss_nil)
    (pss_cons (ps_if (pt_cmpR op_eq (pv 0) (pe_const (by rfl) T.c_PLACES) (nomark _))
    (pss_one (ps_ret (pe_call G_with_count (hr.mono (by decide)) rfl T.g_with_count T.F_with_count.kp T.b_with_count .nil pass0 (pa_cons (pe_call G_carried_places (hr.mono (by decide)) rfl T.g_carried_places T.F_carried_places.kp T.b_carried_places .nil pass0 (pa_cons (pe_ix ix_list (pv 1) pe_int (fun _ _ => rfl)) (pa_cons (pe_ix ix_list (pv 1) pe_int (fun _ _ => rfl)) (pa_cons (pv 2) pa_nil)))) pa_nil)))) pss_nil)
    (pss_cons (ps_if (pt_cmpR op_eq (pv 0) (pe_const (by rfl) T.c_THREE) (nomark _))
    (pss_one (ps_ret (pe_call G_three_added (hr.mono (by decide)) rfl T.g_three_added T.F_three_added.kp T.b_three_added .nil pass0 (pa_cons (pe_ix ix_list (pv 1) pe_int (fun _ _ => rfl)) (pa_cons (pe_ix ix_list (pv 1) pe_int (fun _ _ => rfl)) (pa_cons (pe_ix ix_list (pv 1) pe_int (fun _ _ => rfl)) (pa_cons (pv 2) pa_nil))))))) pss_nil)
    (pss_cons (ps_if (pt_cmpR op_eq (pv 0) (pe_const (by rfl) T.c_TIMES) (nomark _))
    (pss_one (ps_ret (pe_lst (pa_cons (pe_call G_count_divisions (hr.mono (by decide)) rfl T.g_count_divisions T.F_count_divisions.kp T.b_count_divisions .nil pass0 (pa_cons (pe_ix ix_list (pv 1) pe_int (fun _ _ => rfl)) (pa_cons (pv 2) pa_nil))) pa_nil)))) pss_nil)
    (pss_cons (ps_if (pt_cmpR op_eq (pv 0) (pe_const (by rfl) T.c_NEXT) (nomark _))
    (pss_one (ps_ret (pe_call G_one_added (hr.mono (by decide)) rfl T.g_one_added T.F_one_added.kp T.b_one_added .nil pass0 (pa_cons (pe_ix ix_list (pv 1) pe_int (fun _ _ => rfl)) (pa_cons (pv 2) pa_nil))))) pss_nil)
    (pss_cons (ps_if (pt_cmpR op_eq (pv 0) (pe_const (by rfl) T.c_WAYS) (nomark _))
    (pss_one (ps_ret (pe_call G_with_count (hr.mono (by decide)) rfl T.g_with_count T.F_with_count.kp T.b_with_count .nil pass0 (pa_cons (pe_call G_parts_carried (hr.mono (by decide)) rfl T.g_parts_carried T.F_parts_carried.kp T.b_parts_carried .nil pass0 (pa_cons (pe_ix ix_list (pv 1) pe_int (fun _ _ => rfl)) (pa_cons (pe_ix ix_list (pv 1) pe_int (fun _ _ => rfl)) (pa_cons (pv 2) pa_nil)))) pa_nil)))) pss_nil)
    (pss_cons (ps_if (pt_cmpR op_eq (pv 0) (pe_const (by rfl) T.c_MOST) (nomark _))
    (pss_one (ps_ret (pe_lst (pa_cons (pe_callB (cr_max rfl) (by rfl) T.z_max (by decide +kernel) (pa_cons (pe_call G_carries_of_parts (hr.mono (by decide)) rfl T.g_carries_of_parts T.F_carries_of_parts.kp T.b_carries_of_parts .nil pass0 (pa_cons (pe_ix ix_list (pv 1) pe_int (fun _ _ => rfl)) (pa_cons (pv 2) pa_nil))) pa_nil)) pa_nil)))) pss_nil)
    (pss_cons (ps_if (pt_cmpR op_eq (pv 0) (pe_const (by rfl) T.c_LIKE) (nomark _))
    (pss_one (ps_ret (pe_call G_first_alike (hr.mono (by decide)) rfl T.g_first_alike T.F_first_alike.kp T.b_first_alike .nil pass0 (pa_cons (pe_ix ix_list (pv 1) pe_int (fun _ _ => rfl)) (pa_cons (pv 2) pa_nil))))) pss_nil)
    (pss_cons (ps_if (pt_cmpR op_eq (pv 0) (pe_const (by rfl) T.c_NUMBER_OF) (nomark _))
    (pss_one (ps_ret (pe_lst (pa_cons (pe_call G_number_from (hr.mono (by decide)) rfl T.g_number_from T.F_number_from.kp T.b_number_from .nil pass0 (pa_cons (pv 1) (pa_cons (pv 2) pa_nil))) pa_nil)))) pss_nil)
    (pss_one (ps_ret (pe_call G_taken_away (hr.mono (by decide)) rfl T.g_taken_away T.F_taken_away.kp T.b_taken_away .nil pass0 (pa_cons (pe_ix ix_list (pv 1) pe_int (fun _ _ => rfl)) (pa_cons (pe_ix ix_list (pv 1) pe_int (fun _ _ => rfl)) (pa_cons (pv 2) pa_nil))))))))))))))))), ?_⟩)
  · obtain ⟨q, c, p, rfl, _⟩ := h; rfl
  obtain ⟨q, c, p, rfl, hq, hc, ht, hno, hp, hp', k⟩ := h
  replace hno := (Bool.not_eq_true _).mpr hno
  cases c
  case begin_ n => exact absurd hc Bool.false_ne_true
  case prime n => exact absurd hc Bool.false_ne_true
  case told => exact absurd rfl ht
  case digits n =>
    simp only [refused, early, plainCall, held, args, bound, Bool.or_eq_true, Nat.blt_eq, Nat.beq_eq, List.any_cons, List.any_nil, Bool.or_false, Bool.true_and, Bool.false_or] at hno
    refine ⟨_, rfl, rfl, _, rfl, if_is rfl ?_⟩
    refine ⟨_, rfl, q, _, _, _, rfl, rfl, SqL.of hq, idx0, _, rfl, n, p, rfl, by omega, hp, hp', fun H1 r s1 nr h1 => ?_⟩
    exact ⟨r, _, rfl, h1, Nat.le_trans (digits_len p n) (by decide), fun H2 l s2 nl h2 => k H2 l (s1.trans s2) (s1.free nl) h2⟩
  case cross n =>
    simp only [refused, early, plainCall, held, args, bound, Bool.or_eq_true, Nat.blt_eq, Nat.beq_eq, List.any_cons, List.any_nil, Bool.or_false, Bool.true_and, Bool.false_or] at hno
    iterate 1 refine ⟨_, rfl, rfl, _, rfl, if_not rfl ?_⟩
    refine ⟨_, rfl, rfl, _, rfl, if_is rfl ?_⟩
    refine ⟨_, rfl, q, _, _, _, rfl, rfl, SqL.of hq, idx0, _, rfl, n, p, rfl, by omega, hp, hp', fun H1 s1 => ?_⟩
    refine ⟨by show 1 ≤ sizeLine; decide, fun l hl => ?_⟩
    exact k.new s1 hl
  case carries n n2 =>
    simp only [refused, early, plainCall, held, args, bound, Bool.or_eq_true, Nat.blt_eq, Nat.beq_eq, List.any_cons, List.any_nil, Bool.or_false, Bool.true_and, Bool.false_or] at hno
    iterate 2 refine ⟨_, rfl, rfl, _, rfl, if_not rfl ?_⟩
    refine ⟨_, rfl, rfl, _, rfl, if_is rfl ?_⟩
    refine ⟨_, rfl, q, _, _, _, rfl, rfl, SqL.of hq, idx0, _, rfl, q, _, _, _, rfl, rfl, SqL.of hq, idx1, _, rfl, n, n2, p, rfl, by omega, by omega, hp, hp', fun H1 s1 => ?_⟩
    refine ⟨by show 1 ≤ sizeLine; decide, fun l hl => ?_⟩
    exact k.new s1 hl
  case places n n2 =>
    simp only [refused, early, plainCall, held, args, bound, Bool.or_eq_true, Nat.blt_eq, Nat.beq_eq, List.any_cons, List.any_nil, Bool.or_false, Bool.true_and, Bool.false_or] at hno
    iterate 3 refine ⟨_, rfl, rfl, _, rfl, if_not rfl ?_⟩
    refine ⟨_, rfl, rfl, _, rfl, if_is rfl ?_⟩
    refine ⟨_, rfl, q, _, _, _, rfl, rfl, SqL.of hq, idx0, _, rfl, q, _, _, _, rfl, rfl, SqL.of hq, idx1, _, rfl, n, n2, p, rfl, by omega, by omega, hp, hp', fun H1 r s1 nr h1 => ?_⟩
    exact ⟨r, _, rfl, h1, Nat.le_trans (places_len p n n2) (by decide), fun H2 l s2 nl h2 => k H2 l (s1.trans s2) (s1.free nl) h2⟩
  case three n n2 n3 =>
    simp only [refused, early, plainCall, held, args, bound, Bool.or_eq_true, Nat.blt_eq, Nat.beq_eq, List.any_cons, List.any_nil, Bool.or_false, Bool.true_and, Bool.false_or] at hno
    iterate 4 refine ⟨_, rfl, rfl, _, rfl, if_not rfl ?_⟩
    refine ⟨_, rfl, rfl, _, rfl, if_is rfl ?_⟩
    exact ⟨_, rfl, q, _, _, _, rfl, rfl, SqL.of hq, idx0, _, rfl, q, _, _, _, rfl, rfl, SqL.of hq, idx1, _, rfl, q, _, _, _, rfl, rfl, SqL.of hq, idx2, _, rfl, n, n2, n3, p, rfl, by omega, by omega, by omega, hp, hp', k⟩
  case times n =>
    simp only [refused, early, plainCall, held, args, bound, Bool.or_eq_true, Nat.blt_eq, Nat.beq_eq, List.any_cons, List.any_nil, Bool.or_false, Bool.true_and, Bool.false_or] at hno
    iterate 5 refine ⟨_, rfl, rfl, _, rfl, if_not rfl ?_⟩
    refine ⟨_, rfl, rfl, _, rfl, if_is rfl ?_⟩
    refine ⟨_, rfl, q, _, _, _, rfl, rfl, SqL.of hq, idx0, _, rfl, n, p, rfl, by omega, by omega, hp, hp', fun H1 s1 => ?_⟩
    refine ⟨by show 1 ≤ sizeLine; decide, fun l hl => ?_⟩
    exact k.new s1 hl
  case next n =>
    simp only [refused, early, plainCall, held, args, bound, Bool.or_eq_true, Nat.blt_eq, Nat.beq_eq, List.any_cons, List.any_nil, Bool.or_false, Bool.true_and, Bool.false_or] at hno
    iterate 6 refine ⟨_, rfl, rfl, _, rfl, if_not rfl ?_⟩
    refine ⟨_, rfl, rfl, _, rfl, if_is rfl ?_⟩
    exact ⟨_, rfl, q, _, _, _, rfl, rfl, SqL.of hq, idx0, _, rfl, n, p, rfl, by omega, hp, hp', k⟩
  case ways n n2 =>
    simp only [refused, early, plainCall, held, args, bound, Bool.or_eq_true, Nat.blt_eq, Nat.beq_eq, List.any_cons, List.any_nil, Bool.or_false, Bool.true_and, Bool.false_or] at hno
    iterate 7 refine ⟨_, rfl, rfl, _, rfl, if_not rfl ?_⟩
    refine ⟨_, rfl, rfl, _, rfl, if_is rfl ?_⟩
    refine ⟨_, rfl, q, _, _, _, rfl, rfl, SqL.of hq, idx0, _, rfl, q, _, _, _, rfl, rfl, SqL.of hq, idx1, _, rfl, n, n2, p, rfl, by omega, hp, hp', fun H1 r s1 nr h1 => ?_⟩
    exact ⟨r, _, rfl, h1, Nat.le_trans (filter_len _ (n + 1)) (by omega), fun H2 l s2 nl h2 => k H2 l (s1.trans s2) (s1.free nl) h2⟩
  case most n =>
    simp only [refused, early, plainCall, held, args, bound, Bool.or_eq_true, Nat.blt_eq, Nat.beq_eq, List.any_cons, List.any_nil, Bool.or_false, Bool.true_and, Bool.false_or] at hno
    iterate 8 refine ⟨_, rfl, rfl, _, rfl, if_not rfl ?_⟩
    refine ⟨_, rfl, rfl, _, rfl, if_is rfl ?_⟩
    refine ⟨_, rfl, q, _, _, _, rfl, rfl, SqL.of hq, idx0, _, rfl, n, p, rfl, by omega, hp, hp', fun H1 r s1 nr h1 => ?_⟩
    refine ⟨r, (parts p n).map fun (x : Nat) => (x : Int), rfl, SqL.of (by rw [h1, maps_nV]), (by rw [List.length_map, parts_len]; exact Nat.succ_pos _), fun m hm hle => ?_⟩
    rw [most_is hm hle]
    refine ⟨by show 1 ≤ sizeLine; decide, fun l hl => ?_⟩
    exact k.new s1 hl
  case like n =>
    simp only [refused, early, plainCall, held, args, bound, Bool.or_eq_true, Nat.blt_eq, Nat.beq_eq, List.any_cons, List.any_nil, Bool.or_false, Bool.true_and, Bool.false_or] at hno
    iterate 9 refine ⟨_, rfl, rfl, _, rfl, if_not rfl ?_⟩
    refine ⟨_, rfl, rfl, _, rfl, if_is rfl ?_⟩
    exact ⟨_, rfl, q, _, _, _, rfl, rfl, SqL.of hq, idx0, _, rfl, n, p, rfl, by omega, hp, hp', k⟩
  case from_ n n2 n3 n4 =>
    simp only [refused, early, plainCall, held, args, bound, Bool.or_eq_true, Nat.blt_eq, Nat.beq_eq, List.any_cons, List.any_nil, Bool.or_false, Bool.true_and, Bool.false_or] at hno
    iterate 10 refine ⟨_, rfl, rfl, _, rfl, if_not rfl ?_⟩
    refine ⟨_, rfl, rfl, _, rfl, if_is rfl ?_⟩
    have hd : ∀ d ∈ [n, n2, n3, n4], d < p := fun d hm => by
      simp only [List.mem_cons, List.not_mem_nil, or_false] at hm
      omega
    refine ⟨_, rfl, _, rfl, q, [n, n2, n3, n4], p, rfl, hq, rfl, hd, hp, hp', fun H1 s1 => ?_⟩
    rw [val_four]
    refine ⟨by show 1 ≤ sizeLine; decide, fun l hl => ?_⟩
    exact k.new s1 hl
  case without n n2 =>
    simp only [refused, early, plainCall, held, args, bound, Bool.or_eq_true, Nat.blt_eq, Nat.beq_eq, List.any_cons, List.any_nil, Bool.or_false, Bool.true_and, Bool.false_or] at hno
    iterate 11 refine ⟨_, rfl, rfl, _, rfl, if_not rfl ?_⟩
    exact ⟨_, rfl, q, _, _, _, rfl, rfl, SqL.of hq, idx0, _, rfl, q, _, _, _, rfl, rfl, SqL.of hq, idx1, _, rfl, n, n2, p, rfl, by omega, by omega, hp, hp', k⟩
theorem if_ne {a b : Int} {B C : Prop} (h : (a == b) = false) (x : B) : if (!decide (V.int a = V.int b)) = true then B else C := by
  rw [dec_not h, if_pos (show (!false) = true from rfl)]; exact x
theorem if_same {a b : Int} {B C : Prop} (h : (a == b) = true) (x : C) : if (!decide (V.int a = V.int b)) = true then B else C := by
  rw [dec_is h, if_neg (by decide)]; exact x
theorem ok_Adder_answer (T : Txt K mg A) : FnOk P w K mg base CX0 6 A.f_Adder_answer A.d_Adder_answer ["self", "call", "numbers"] (sp_Adder_answer A.C_Adder) := by
  have G_is_refused : FnOk P w K mg base CX0 2 A.f_is_refused A.d_is_refused ["call", "numbers", "prime"] sp_is_refused := ok_is_refused T
  have G_Adder_begin : FnOk P w K mg base CX0 1 A.f_Adder_begin A.d_Adder_begin ["self", "prime"] (sp_Adder_begin A.C_Adder) := ok_Adder_begin T
  have G_Adder_change_prime : FnOk P w K mg base CX0 1 A.f_Adder_change_prime A.d_Adder_change_prime ["self", "prime"] (sp_Adder_change_prime A.C_Adder) := ok_Adder_change_prime T
  have G_computed : FnOk P w K mg base CX0 5 A.f_computed A.d_computed ["call", "numbers", "prime"] sp_computed := ok_computed T
  refine T.F_Adder_answer.ok sc_Adder_answer (fun vs H Q E h => ?_) (fun cdv A0 outer s H vs Q E hr h => ⟨_,
    (pss_cons (ps_if (PW.pt (pw_and (pt_cmpR op_eq (pe_fld (pv 0) rfl) pe_int (nomark _)) (pw_and1 (pt_cmpR op_ne (pv 1) (pe_const (by rfl) T.c_BEGIN) (nomark _)))))
    (pss_one (ps_ret (pe_lst (pa_cons (pe_un un_neg pe_int) pa_nil)))) pss_nil)
    (pss_cons (ps_if (pt_val (pe_call G_is_refused (hr.mono (by decide)) rfl T.g_is_refused T.F_is_refused.kp T.b_is_refused .nil pass0 (pa_cons (pv 1) (pa_cons (pv 2) (pa_cons (pe_fld (pv 0) rfl) pa_nil)))))
    (pss_one (ps_ret (pe_lst (pa_cons (pe_un un_neg pe_int) pa_nil)))) pss_nil)
    (pss_cons (ps_if (pt_cmpR op_eq (pv 1) (pe_const (by rfl) T.c_BEGIN) (nomark _))
    (pss_one (ps_ret (pe_meth (pv 0) T.cl_Adder T.m_Adder_begin G_Adder_begin (hr.mono (by decide)) T.b_Adder_begin .nil pass0 (pa_cons (pe_ix ix_list (pv 2) pe_int (fun _ _ => rfl)) pa_nil)))) pss_nil)
    (pss_cons (ps_if (pt_cmpR op_eq (pv 1) (pe_const (by rfl) T.c_PRIME) (nomark _))
    (pss_one (ps_ret (pe_meth (pv 0) T.cl_Adder T.m_Adder_change_prime G_Adder_change_prime (hr.mono (by decide)) T.b_Adder_change_prime .nil pass0 (pa_cons (pe_ix ix_list (pv 2) pe_int (fun _ _ => rfl)) pa_nil)))) pss_nil)
    (pss_cons (ps_if (pt_cmpR op_eq (pv 1) (pe_const (by rfl) T.c_TOLD) (nomark _))
    (pss_one (ps_ret (pe_lst (pa_cons (pe_fld (pv 0) rfl) pa_nil)))) pss_nil)
    (pss_one (ps_ret (pe_call G_computed (hr.mono (by decide)) rfl T.g_computed T.F_computed.kp T.b_computed .nil pass0 (pa_cons (pv 1) (pa_cons (pv 2) (pa_cons (pe_fld (pv 0) rfl) pa_nil))))))))))), ?_⟩)
  · obtain ⟨a, q, st, c, rfl, _⟩ := h; rfl
  obtain ⟨a, q, st, c, rfl, ⟨dx, ha⟩, gd, hs, hq, k⟩ := h
  have give : after st c = st → GivesL H Q ((said st c).map V.int) := fun e H' r s nr hr => k H' r nr hr (by rw [e]; exact ⟨dx, s a _ ha⟩) fun b o hb _ => s b o hb
  cases st with
  | none =>
    by_cases hn : num c = 0
    · cases c
      case begin_ n =>
        refine ⟨_, rfl, a, A.C_Adder, dx, _, _, rfl, ha, T.cl_Adder, T.n_Adder_prime, rfl, rfl, _, rfl, if_is rfl ⟨_, rfl, rfl, _, rfl, if_same rfl ?_⟩⟩
        have hr0 : refused 0 (.begin_ n) = !Kp266.okP n := by simp [refused, early, plainCall]
        refine ⟨_, rfl, _, rfl, _, rfl, a, A.C_Adder, dx, _, _, rfl, ha, T.cl_Adder, T.n_Adder_prime, rfl, q, .begin_ n, 0, rfl, hq, hs, (fun z => absurd z Bool.false_ne_true), fun H1 s1 => ?_⟩
        rw [hr0]
        cases ok : Kp266.okP n with
        | false =>
          refine ⟨_, rfl, if_tt ⟨_, rfl, by show 1 ≤ sizeLine; decide, fun l hl => ?_⟩⟩
          have e := said_begin_no (st := none) ok
          have g := give e.2
          rw [e.1] at g
          exact g.new s1 hl
        | true =>
          refine ⟨_, rfl, if_ff ⟨_, rfl, rfl, _, rfl, if_is rfl ?_⟩⟩
          have e := said_begin (st := none) ok
          rw [e.1, e.2] at k
          refine ⟨_, rfl, a, dx, _, rfl, s1 a _ ha, rfl, _, rfl, q, _, _, _, rfl, rfl, SqL.of (s1 q _ hq), idx0, a, none, n, rfl, ⟨dx, s1 a _ ha⟩, fun H2 r nr hr2 J2 kp2 => ?_⟩
          exact k H2 r (s1.free nr) hr2 J2 fun b o hb ba => kp2 b o (s1 b o hb) ba
      all_goals exact absurd hn (Nat.succ_ne_zero _)
    · refine ⟨_, rfl, a, A.C_Adder, dx, _, _, rfl, ha, T.cl_Adder, T.n_Adder_prime, rfl, rfl, _, rfl, if_is rfl ⟨_, rfl, rfl, _, rfl, if_ne (beq_eq_false_iff_ne.2 (show ((num c : Nat) : Int) ≠ 0 by omega)) ?_⟩⟩
      refine ⟨_, rfl, by show 1 ≤ sizeLine; decide, fun l hl => ?_⟩
      have e := said_none hn
      have g := give e.2
      rw [e.1] at g
      exact g.new (Same.refl H) hl
  | some p =>
    have hok := gd p rfl
    obtain ⟨hp, hp'⟩ := okP_bounds hok
    refine ⟨_, rfl, a, A.C_Adder, dx, _, _, rfl, ha, T.cl_Adder, T.n_Adder_prime, rfl, rfl, _, rfl, if_not (beq_eq_false_iff_ne.2 (show ((p : Nat) : Int) ≠ 0 by omega)) (if_ff ?_)⟩
    by_cases hb : ∃ n, c = .begin_ n
    · obtain ⟨n, rfl⟩ := hb
      have hr0 : refused p (.begin_ n) = !Kp266.okP n := by simp [refused, early, plainCall]
      refine ⟨_, rfl, _, rfl, _, rfl, a, A.C_Adder, dx, _, _, rfl, ha, T.cl_Adder, T.n_Adder_prime, rfl, q, .begin_ n, p, rfl, hq, hs, (fun z => absurd z Bool.false_ne_true), fun H1 s1 => ?_⟩
      rw [hr0]
      cases ok : Kp266.okP n with
      | false =>
        refine ⟨_, rfl, if_tt ⟨_, rfl, by show 1 ≤ sizeLine; decide, fun l hl => ?_⟩⟩
        have e := said_begin_no (st := (some p)) ok
        have g := give e.2
        rw [e.1] at g
        exact g.new s1 hl
      | true =>
        refine ⟨_, rfl, if_ff ⟨_, rfl, rfl, _, rfl, if_is rfl ?_⟩⟩
        have e := said_begin (st := (some p)) ok
        rw [e.1, e.2] at k
        refine ⟨_, rfl, a, dx, _, rfl, s1 a _ ha, rfl, _, rfl, q, _, _, _, rfl, rfl, SqL.of (s1 q _ hq), idx0, a, (some p), n, rfl, ⟨dx, s1 a _ ha⟩, fun H2 r nr hr2 J2 kp2 => ?_⟩
        exact k H2 r (s1.free nr) hr2 J2 fun b o hb ba => kp2 b o (s1 b o hb) ba
    refine ⟨_, rfl, _, rfl, _, rfl, a, A.C_Adder, dx, _, _, rfl, ha, T.cl_Adder, T.n_Adder_prime, rfl, q, c, p, rfl, hq, hs, (fun _ => hp), fun H1 s1 => ?_⟩
    cases hr0 : refused p c with
    | true =>
      refine ⟨_, rfl, if_tt ⟨_, rfl, by show 1 ≤ sizeLine; decide, fun l hl => ?_⟩⟩
      have e := said_refused hp hr0
      have g := give e.2
      rw [e.1] at g
      exact g.new s1 hl
    | false =>
      refine ⟨_, rfl, if_ff ?_⟩
      by_cases hq1 : ∃ n, c = .prime n
      · obtain ⟨n, rfl⟩ := hq1
        have ok : Kp266.okP n = true := by simpa [refused, early, plainCall] using hr0
        refine ⟨_, rfl, rfl, _, rfl, if_not rfl ⟨_, rfl, rfl, _, rfl, if_is rfl ?_⟩⟩
        have e := said_prime (q := p) ok
        rw [e.1, e.2] at k
        refine ⟨_, rfl, a, dx, _, rfl, s1 a _ ha, rfl, _, rfl, q, _, _, _, rfl, rfl, SqL.of (s1 q _ hq), idx0, a, some p, n, rfl, ⟨dx, s1 a _ ha⟩, fun H2 r nr hr2 J2 kp2 => ?_⟩
        exact k H2 r (s1.free nr) hr2 J2 fun b o hb ba => kp2 b o (s1 b o hb) ba
      · have hc : plainCall c = true := by
          cases c
          case begin_ n => exact absurd ⟨n, rfl⟩ hb
          case prime n => exact absurd ⟨n, rfl⟩ hq1
          all_goals rfl
        have e := said_else hp hc hr0
        have g := give e.2
        rw [e.1] at g
        have n0 : (((num c : Nat) : Int) == 0) = false := by cases c <;> first | rfl | exact absurd hc Bool.false_ne_true
        have n1 : (((num c : Nat) : Int) == 1) = false := by cases c <;> first | rfl | exact absurd hc Bool.false_ne_true
        refine ⟨_, rfl, rfl, _, rfl, if_not n0 ⟨_, rfl, rfl, _, rfl, if_not n1 ?_⟩⟩
        by_cases ht : c = .told
        · subst ht
          refine ⟨_, rfl, rfl, _, rfl, if_is rfl ?_⟩
          refine ⟨_, rfl, a, A.C_Adder, dx, _, _, rfl, s1 a _ ha, T.cl_Adder, T.n_Adder_prime, rfl, by show 1 ≤ sizeLine; decide, fun l hl => ?_⟩
          exact g.new s1 hl
        · have n14 : (((num c : Nat) : Int) == 14) = false := by cases c <;> first | rfl | exact absurd rfl ht
          refine ⟨_, rfl, rfl, _, rfl, if_not n14 ?_⟩
          refine ⟨_, rfl, _, rfl, _, rfl, a, A.C_Adder, dx, _, _, rfl, s1 a _ ha, T.cl_Adder, T.n_Adder_prime, rfl, q, c, p, rfl, s1 q _ hq, hc, ht, hr0, hp, hp', fun H2 r s2 nr h2 => ?_⟩
          exact g H2 r (s1.trans s2) (s1.free nr) h2
theorem hsz (c : Call) : tup_SIZES[num c]? = some (nV (args c).length) := by cases c <;> rfl
theorem ok_answers (T : Txt K mg A) : FnOk P w K mg base CX0 7 A.f_answers A.d_answers ["calls"] (sp_answers K) := by
  have G_Adder_Init : FnOk P w K mg base CX0 1 A.f_Adder_Init A.d_Adder_Init ["self"] (sp_Adder_Init A.C_Adder) := ok_Adder_Init T
  have G_Adder_answer : FnOk P w K mg base CX0 6 A.f_Adder_answer A.d_Adder_answer ["self", "call", "numbers"] (sp_Adder_answer A.C_Adder) := ok_Adder_answer T
  refine T.F_answers.ok sc_answers (fun vs H Q E h => ?_) (fun cdv A0 outer s H vs Q E hr h => ⟨_,
    (pss_cons (ps_set (i := 1) sc_answers.nd rfl (Or.inl rfl) (pe_make0 T.mk_Adder G_Adder_Init (hr.mono (by decide)) rfl T.g_Adder T.b_Adder_Init .nil pass0))
    (pss_cons (ps_set (i := 2) sc_answers.nd rfl (Or.inl rfl) (pe_lst pa_nil))
    (pss_cons (ps_set (i := 3) sc_answers.nd rfl (Or.inl rfl) pe_int)
    (pss_cons (ps_while PassesOwn.never (pt_cmpR op_lt (pv 3) (pe_callB call_len_seq (by rfl) T.z_len (by decide +kernel) (pa_cons (pv 0) pa_nil)) (nomark _))
    (pss_cons (ps_set (i := 4) sc_answers.nd rfl (Or.inl rfl) (pe_ix ix_list (pv 0) (pv 3) (fun _ _ => rfl)))
    (pss_cons (ps_set (i := 5) sc_answers.nd rfl (Or.inl rfl) (pe_op op_add (pe_op op_add (pv 3) pe_int) (pe_ix ix_tup (pe_const (by rfl) T.c_SIZES) (pv 4) (fun _ _ => rfl))))
    (pss_cons (ps_set (i := 6) sc_answers.nd rfl (Or.inl rfl) (pe_meth (pv 1) T.cl_Adder T.m_Adder_answer G_Adder_answer (hr.mono (by decide)) T.b_Adder_answer .nil pass0 (pa_cons (pv 4) (pa_cons (pe_slice sl_list (pv 0) (po_some (pe_op op_add (pv 3) pe_int)) (po_some (pv 5))) pa_nil))))
    (pss_cons (ps_expr (pe_bm PySem.F.plainAttrs_list PySem.F.slot_list_append PySem.F.type_list_append mt_append (pv 2) (pa_cons (pe_callB call_len_seq (by rfl) T.z_len (by decide +kernel) (pa_cons (pv 6) pa_nil)) pa_nil)))
    (pss_cons (ps_expr (pe_bm PySem.F.plainAttrs_list PySem.F.slot_list_extend PySem.F.type_list_extend mt_extend (pv 2) (pa_cons (pv 6) pa_nil)))
    (pss_one (ps_set (i := 3) sc_answers.nd rfl (Or.inl rfl) (pv 5)))))))))
    (pss_one (ps_ret (pv 2))))))), ?_⟩)
  · obtain ⟨a, ns, rfl, _⟩ := h; rfl
  obtain ⟨a, ns, rfl, hS, hask, k⟩ := h
  obtain ⟨cs0, hold0, ean, hlen, _⟩ := asked_holds hask
  intro x dx nx nd ne
  refine ⟨x, dx, rfl, upd_same, fun H1 J kp => ⟨rfl, ?_⟩⟩
  have s1 : Same H H1 := Same.made nx nd kp
  refine ⟨by show 0 ≤ sizeLine; decide, fun g hg => ?_⟩
  have ng : H g = none := s1.free hg
  have gx : x ≠ g := by
    obtain ⟨dj, hj⟩ := J
    exact ne_of_none hj hg
  refine ⟨fun m σ H' => ∃ (pre l out : List Int) (cs : List Call) (st : State) (v4 v5 v6 : Option V), σ = [some (.ref a), some (.ref x), some (.ref g), some (nV pre.length), v4, v5, v6] ∧ Same H H' ∧ AdderAt A.C_Adder H' x st ∧ Good st ∧ H' g = some (.lst (out.map V.int)) ∧ ns = pre ++ l ∧ Holds l cs ∧ out ++ play st cs = play none cs0 ∧ cs.length = m,
    ⟨_, [], ns, [], cs0, none, none, none, none, rfl, Same.put s1 ng, ?_, good_none, upd_same, rfl, hold0, rfl, rfl⟩, ?_⟩
  · obtain ⟨dj, hj⟩ := J
    exact ⟨dj, by rw [upd_ne gx]; exact hj⟩
  rintro m σ H' ⟨pre, l, out, cs, st, v4, v5, v6, rfl, sm, J', gd, hg', rfl, hold, eo, rfl⟩
  refine ⟨_, rfl, _, rfl, a, _, rfl, .inl (sm.seq hS), _, _, rfl, rfl, _, rfl, ifd (fun c => ?_) fun c => ?_⟩
  · rw [List.length_map, List.length_append] at c
    cases hold with
    | nil => exfalso; simp at c
    | @cons cc l' cs' hsm hold' =>
      refine ⟨fun σ' H' => ∃ m', m' < _ ∧ _, fun _ _ z => z, ?_⟩
      have eL : (pre ++ (code cc ++ l')).map V.int = (pre.map V.int ++ [nV (num cc)]) ++ (args cc).map nV ++ l'.map V.int := by
        rw [List.map_append, List.map_append, ints_map]; simp
      refine ⟨_, rfl, _, rfl, a, _, _, nV (num cc), rfl, rfl, sm.seq hS, ?_, ?_⟩
      · refine atI_nat ?_
        rw [eL, List.append_assoc, List.append_assoc, List.getElem?_append_right (by simp)]
        simp
      refine ⟨_, rfl, _, _, rfl, rfl, _, rfl, A.S_SIZES, _, _, _, rfl, rfl, T.t_SIZES _, atI_nat (hsz cc), _, _, rfl, rfl, ?_⟩
      obtain ⟨dj, hj⟩ := J'
      refine ⟨_, rfl, x, dj, _, rfl, hj, rfl, _, rfl, _, rfl, _, rfl, _, _, rfl, rfl, _, rfl, _, rfl, _, rfl, a, _, rfl, sm.seq hS, fun q hq => ?_⟩
      have ecut : cutV ((pre ++ (code cc ++ l')).map V.int) (some ((pre.length : Int) + 1)) (some ((pre.length : Int) + 1 + ((args cc).length : Int))) = (args cc).map nV := by
        rw [eL]
        refine cut_mid (pre := pre.map V.int ++ [nV (num cc)]) ?_ ?_
        · simp
        · simp
      have qx : x ≠ q := ne_of_none hj hq
      have qg : g ≠ q := ne_of_none hg' hq
      refine ⟨x, q, st, cc, rfl, ⟨dj, by rw [upd_ne qx]; exact hj⟩, gd, hsm, by rw [upd_same, ecut], fun H2 r hr2 hl2 J2 kp2 => ?_⟩
      have hg2 : H2 g = some (.lst (out.map V.int)) := kp2 g _ (by rw [upd_ne qg]; exact hg') gx.symm
      have gr : r ≠ g := by
        intro z
        rw [z, upd_ne qg, hg'] at hr2
        cases hr2
      have sm2 : Same H H2 := fun b o e => kp2 b o (by rw [upd_ne (ne_of_none (sm b o e) hq)]; exact sm b o e) (ne_of_none e nx)
      have hsize : (out.map V.int).length + 1 + ((said st cc).map V.int).length ≤ 10000000 := by
        rw [← eo] at hlen
        have e : play st (cc :: cs') = ((said st cc).length : Int) :: said st cc ++ play (after st cc) cs' := rfl
        rw [e, List.length_append, List.length_append, List.length_cons] at hlen
        rw [List.length_map, List.length_map]
        omega
      have big : (10000000 : Nat) ≤ sizeLine := by decide
      refine ⟨_, rfl, .inl ⟨rfl, _, SqL.of hg2⟩, _, rfl, r, _, rfl, .inl (SqL.of hl2), g, _, _, rfl, rfl, hg2, (by omega), ?_⟩
      refine ⟨_, rfl, .inl ⟨rfl, _, SqL.of upd_same⟩, _, rfl, g, r, _, _, rfl, rfl, upd_same, (by rw [upd_ne gr]; exact hl2), (by rw [List.length_append]; show _ + 1 + _ ≤ _; omega), ?_⟩
      refine ⟨_, rfl, cs'.length, Nat.lt_succ_self _, pre ++ code cc, l', out ++ ((said st cc).length : Int) :: said st cc, cs', after st cc, some (nV (num cc)), some (V.int ((pre.length : Int) + 1 + ((args cc).length : Int))), some (.ref r), ?_, Same.put (Same.put sm2 ng) ng, ?_, good_after gd cc, ?_, ?_, hold', ?_, rfl⟩
      rotate_left
      · obtain ⟨dk, hk⟩ := J2
        exact ⟨dk, by rw [upd_ne gx, upd_ne gx]; exact hk⟩
      · rw [upd_same, List.map_append, List.map_cons, List.append_assoc]
        simp
      · rw [List.append_assoc]
      · rw [← eo, List.append_assoc]; rfl
      · have e : (pre ++ code cc).length = pre.length + 1 + (args cc).length := by
          unfold code natInts
          simp
          omega
        show [some (V.ref a), some (V.ref x), some (V.ref g), some (V.int ((pre.length : Int) + 1 + ((args cc).length : Int))), some (nV (num cc)), some (V.int ((pre.length : Int) + 1 + ((args cc).length : Int))), some (V.ref r)] = _
        rw [e]
        simp
  · rw [List.length_map, List.length_append] at c
    have el : l = [] := List.length_eq_zero_iff.1 (by omega)
    subst el
    generalize hll : ([] : List Int) = l at hold
    cases hold with
    | nil =>
      have eo' : out = play none cs0 := by rw [← eo]; exact (List.append_nil _).symm
      refine ⟨_, rfl, k H' g ?_⟩
      rw [ean, ← eo']
      exact hg'
    | cons _ _ =>
      unfold code at hll
      cases hll
end
theorem all_mk {P : Program} {w : World} {K : PySem.W.Frag} {h : Heap} {mg : Str → Option Value} {fa C_Adder S_SIZES f_is_prime_below_100 f_digits_of f_number_from f_cross_sum f_next_alike f_carried_places f_count_carries f_carries_of_parts f_count_divisions f_Adder_Init f_Adder_answer f_Adder_begin f_Adder_change_prime f_is_refused f_highest_allowed f_computed f_with_count f_three_added f_one_added f_parts_carried f_first_alike f_taken_away f_answers : Addr} (X : K.In h) (G : h.Ns mainGlobals mg) (hfa : mg "answers" = some (.ref fa))
    {od_SIZES od_is_prime_below_100 an_is_prime_below_100 od_digits_of an_digits_of od_number_from an_number_from od_cross_sum an_cross_sum od_next_alike an_next_alike od_carried_places an_carried_places od_count_carries an_count_carries od_carries_of_parts an_carries_of_parts od_count_divisions an_count_divisions od_Adder_Init an_Adder_Init od_Adder_answer an_Adder_answer od_Adder_begin an_Adder_begin od_Adder_change_prime an_Adder_change_prime od_is_refused an_is_refused od_highest_allowed an_highest_allowed od_computed an_computed od_with_count an_with_count od_three_added an_three_added od_one_added an_one_added od_parts_carried an_parts_carried od_first_alike an_first_alike od_taken_away an_taken_away od_answers an_answers : Option Addr} {sl_SIZES sl_is_prime_below_100 sl_digits_of sl_number_from sl_cross_sum sl_next_alike sl_carried_places sl_count_carries sl_carries_of_parts sl_count_divisions sl_Adder_Init sl_Adder_answer sl_Adder_begin sl_Adder_change_prime sl_is_refused sl_highest_allowed sl_computed sl_with_count sl_three_added sl_one_added sl_parts_carried sl_first_alike sl_taken_away sl_answers : Array (Option Value)} {oc_is_prime_below_100 kV_is_prime_below_100 dc_is_prime_below_100 pm_is_prime_below_100 cd_is_prime_below_100 ct_is_prime_below_100 oc_digits_of kV_digits_of dc_digits_of pm_digits_of cd_digits_of ct_digits_of oc_number_from kV_number_from dc_number_from pm_number_from cd_number_from ct_number_from oc_cross_sum kV_cross_sum dc_cross_sum pm_cross_sum cd_cross_sum ct_cross_sum oc_next_alike kV_next_alike dc_next_alike pm_next_alike cd_next_alike ct_next_alike oc_carried_places kV_carried_places dc_carried_places pm_carried_places cd_carried_places ct_carried_places oc_count_carries kV_count_carries dc_count_carries pm_count_carries cd_count_carries ct_count_carries oc_carries_of_parts kV_carries_of_parts dc_carries_of_parts pm_carries_of_parts cd_carries_of_parts ct_carries_of_parts oc_count_divisions kV_count_divisions dc_count_divisions pm_count_divisions cd_count_divisions ct_count_divisions oc_Adder_Init kV_Adder_Init dc_Adder_Init pm_Adder_Init cd_Adder_Init ct_Adder_Init oc_Adder_answer kV_Adder_answer dc_Adder_answer pm_Adder_answer cd_Adder_answer ct_Adder_answer oc_Adder_begin kV_Adder_begin dc_Adder_begin pm_Adder_begin cd_Adder_begin ct_Adder_begin oc_Adder_change_prime kV_Adder_change_prime dc_Adder_change_prime pm_Adder_change_prime cd_Adder_change_prime ct_Adder_change_prime oc_is_refused kV_is_refused dc_is_refused pm_is_refused cd_is_refused ct_is_refused oc_highest_allowed kV_highest_allowed dc_highest_allowed pm_highest_allowed cd_highest_allowed ct_highest_allowed oc_computed kV_computed dc_computed pm_computed cd_computed ct_computed oc_with_count kV_with_count dc_with_count pm_with_count cd_with_count ct_with_count oc_three_added kV_three_added dc_three_added pm_three_added cd_three_added ct_three_added oc_one_added kV_one_added dc_one_added pm_one_added cd_one_added ct_one_added oc_parts_carried kV_parts_carried dc_parts_carried pm_parts_carried cd_parts_carried ct_parts_carried oc_first_alike kV_first_alike dc_first_alike pm_first_alike cd_first_alike ct_first_alike oc_taken_away kV_taken_away dc_taken_away pm_taken_away cd_taken_away ct_taken_away oc_answers kV_answers dc_answers pm_answers cd_answers ct_answers : Value}
    {t_BEGIN t_PRIME t_DIGITS t_CROSS t_CARRIES t_PLACES t_THREE t_TIMES t_NEXT t_WAYS t_MOST t_LIKE t_NUMBER_OF t_TOLD t_HIGHEST t_HIGHEST_IN_PARTS t_HIGHEST_LIKE t_LIKE_WITHIN : Tok}
    {its_SIZES : Array Value} {n_SIZES : Nat}
    (a_Adder : PySem.W.nsIn K mainGlobals "Adder" = some (some (.ref C_Adder)))
    (pg_Adder : PySem.W.plainGet K C_Adder Str.empty = true)
    (hd_Adder : PySem.W.hasDictIn K C_Adder = true)
    (po_Adder : PySem.W.plainOver K C_Adder = true)
    (sa_Adder : PySem.W.findIn K (.ref C_Adder) "__setattr__" = some (some (.builtin "object.__setattr__")))
    (mk_Adder : PySem.W.makesIn K C_Adder = true)
    (kc_Adder : PySem.W.keepIn K (.ref C_Adder) = true)
    (n_Adder_prime : PySem.W.findIn K (.ref C_Adder) "prime" = some none)
    (a_BEGIN : PySem.W.nsIn K mainGlobals "BEGIN" = some (some (.int 0 t_BEGIN)))
    (a_PRIME : PySem.W.nsIn K mainGlobals "PRIME" = some (some (.int 1 t_PRIME)))
    (a_DIGITS : PySem.W.nsIn K mainGlobals "DIGITS" = some (some (.int 2 t_DIGITS)))
    (a_CROSS : PySem.W.nsIn K mainGlobals "CROSS" = some (some (.int 3 t_CROSS)))
    (a_CARRIES : PySem.W.nsIn K mainGlobals "CARRIES" = some (some (.int 4 t_CARRIES)))
    (a_PLACES : PySem.W.nsIn K mainGlobals "PLACES" = some (some (.int 5 t_PLACES)))
    (a_THREE : PySem.W.nsIn K mainGlobals "THREE" = some (some (.int 6 t_THREE)))
    (a_TIMES : PySem.W.nsIn K mainGlobals "TIMES" = some (some (.int 7 t_TIMES)))
    (a_NEXT : PySem.W.nsIn K mainGlobals "NEXT" = some (some (.int 8 t_NEXT)))
    (a_WAYS : PySem.W.nsIn K mainGlobals "WAYS" = some (some (.int 9 t_WAYS)))
    (a_MOST : PySem.W.nsIn K mainGlobals "MOST" = some (some (.int 10 t_MOST)))
    (a_LIKE : PySem.W.nsIn K mainGlobals "LIKE" = some (some (.int 11 t_LIKE)))
    (a_NUMBER_OF : PySem.W.nsIn K mainGlobals "NUMBER_OF" = some (some (.int 12 t_NUMBER_OF)))
    (a_TOLD : PySem.W.nsIn K mainGlobals "TOLD" = some (some (.int 14 t_TOLD)))
    (a_HIGHEST : PySem.W.nsIn K mainGlobals "HIGHEST" = some (some (.int 1000000 t_HIGHEST)))
    (a_HIGHEST_IN_PARTS : PySem.W.nsIn K mainGlobals "HIGHEST_IN_PARTS" = some (some (.int 60 t_HIGHEST_IN_PARTS)))
    (a_HIGHEST_LIKE : PySem.W.nsIn K mainGlobals "HIGHEST_LIKE" = some (some (.int 1000 t_HIGHEST_LIKE)))
    (a_LIKE_WITHIN : PySem.W.nsIn K mainGlobals "LIKE_WITHIN" = some (some (.int 2000 t_LIKE_WITHIN)))
    (a_SIZES : PySem.W.nsIn K mainGlobals "SIZES" = some (some (.ref S_SIZES)))
    (l_SIZES : K.lookup S_SIZES = some ⟨.type "tuple", od_SIZES, .seq its_SIZES n_SIZES, sl_SIZES⟩)
    (v_SIZES : its_SIZES.size ≤ sizeLine ∧ Vals tup_SIZES its_SIZES.toList)
    (z_enumerate : PySem.W.nsIn K mainGlobals "enumerate" = some none)
    (z_len : PySem.W.nsIn K mainGlobals "len" = some none)
    (z_max : PySem.W.nsIn K mainGlobals "max" = some none)
    (z_range : PySem.W.nsIn K mainGlobals "range" = some none)
    (z_reversed : PySem.W.nsIn K mainGlobals "reversed" = some none)
    (z_sum : PySem.W.nsIn K mainGlobals "sum" = some none)
    (a_is_prime_below_100 : PySem.W.nsIn K mainGlobals "is_prime_below_100" = some (some (.ref f_is_prime_below_100)))
    (l_is_prime_below_100 : K.lookup f_is_prime_below_100 = some ⟨oc_is_prime_below_100, od_is_prime_below_100, .func (PySem.W.fnOf "is_prime_below_100" "is_prime_below_100" (defArgs s_is_prime_below_100) (defBody s_is_prime_below_100) (defScope s_is_prime_below_100) .none kV_is_prime_below_100 dc_is_prime_below_100 pm_is_prime_below_100 an_is_prime_below_100 cd_is_prime_below_100 ct_is_prime_below_100), sl_is_prime_below_100⟩)
    (c_is_prime_below_100 : PySem.W.codeIn K cd_is_prime_below_100 "is_prime_below_100" = true)
    (k_is_prime_below_100 : PySem.W.keepIn K (.ref f_is_prime_below_100) = true)
    (a_digits_of : PySem.W.nsIn K mainGlobals "digits_of" = some (some (.ref f_digits_of)))
    (l_digits_of : K.lookup f_digits_of = some ⟨oc_digits_of, od_digits_of, .func (PySem.W.fnOf "digits_of" "digits_of" (defArgs s_digits_of) (defBody s_digits_of) (defScope s_digits_of) .none kV_digits_of dc_digits_of pm_digits_of an_digits_of cd_digits_of ct_digits_of), sl_digits_of⟩)
    (c_digits_of : PySem.W.codeIn K cd_digits_of "digits_of" = true)
    (k_digits_of : PySem.W.keepIn K (.ref f_digits_of) = true)
    (a_number_from : PySem.W.nsIn K mainGlobals "number_from" = some (some (.ref f_number_from)))
    (l_number_from : K.lookup f_number_from = some ⟨oc_number_from, od_number_from, .func (PySem.W.fnOf "number_from" "number_from" (defArgs s_number_from) (defBody s_number_from) (defScope s_number_from) .none kV_number_from dc_number_from pm_number_from an_number_from cd_number_from ct_number_from), sl_number_from⟩)
    (c_number_from : PySem.W.codeIn K cd_number_from "number_from" = true)
    (k_number_from : PySem.W.keepIn K (.ref f_number_from) = true)
    (a_cross_sum : PySem.W.nsIn K mainGlobals "cross_sum" = some (some (.ref f_cross_sum)))
    (l_cross_sum : K.lookup f_cross_sum = some ⟨oc_cross_sum, od_cross_sum, .func (PySem.W.fnOf "cross_sum" "cross_sum" (defArgs s_cross_sum) (defBody s_cross_sum) (defScope s_cross_sum) .none kV_cross_sum dc_cross_sum pm_cross_sum an_cross_sum cd_cross_sum ct_cross_sum), sl_cross_sum⟩)
    (c_cross_sum : PySem.W.codeIn K cd_cross_sum "cross_sum" = true)
    (k_cross_sum : PySem.W.keepIn K (.ref f_cross_sum) = true)
    (a_next_alike : PySem.W.nsIn K mainGlobals "next_alike" = some (some (.ref f_next_alike)))
    (l_next_alike : K.lookup f_next_alike = some ⟨oc_next_alike, od_next_alike, .func (PySem.W.fnOf "next_alike" "next_alike" (defArgs s_next_alike) (defBody s_next_alike) (defScope s_next_alike) .none kV_next_alike dc_next_alike pm_next_alike an_next_alike cd_next_alike ct_next_alike), sl_next_alike⟩)
    (c_next_alike : PySem.W.codeIn K cd_next_alike "next_alike" = true)
    (k_next_alike : PySem.W.keepIn K (.ref f_next_alike) = true)
    (a_carried_places : PySem.W.nsIn K mainGlobals "carried_places" = some (some (.ref f_carried_places)))
    (l_carried_places : K.lookup f_carried_places = some ⟨oc_carried_places, od_carried_places, .func (PySem.W.fnOf "carried_places" "carried_places" (defArgs s_carried_places) (defBody s_carried_places) (defScope s_carried_places) .none kV_carried_places dc_carried_places pm_carried_places an_carried_places cd_carried_places ct_carried_places), sl_carried_places⟩)
    (c_carried_places : PySem.W.codeIn K cd_carried_places "carried_places" = true)
    (k_carried_places : PySem.W.keepIn K (.ref f_carried_places) = true)
    (a_count_carries : PySem.W.nsIn K mainGlobals "count_carries" = some (some (.ref f_count_carries)))
    (l_count_carries : K.lookup f_count_carries = some ⟨oc_count_carries, od_count_carries, .func (PySem.W.fnOf "count_carries" "count_carries" (defArgs s_count_carries) (defBody s_count_carries) (defScope s_count_carries) .none kV_count_carries dc_count_carries pm_count_carries an_count_carries cd_count_carries ct_count_carries), sl_count_carries⟩)
    (c_count_carries : PySem.W.codeIn K cd_count_carries "count_carries" = true)
    (k_count_carries : PySem.W.keepIn K (.ref f_count_carries) = true)
    (a_carries_of_parts : PySem.W.nsIn K mainGlobals "carries_of_parts" = some (some (.ref f_carries_of_parts)))
    (l_carries_of_parts : K.lookup f_carries_of_parts = some ⟨oc_carries_of_parts, od_carries_of_parts, .func (PySem.W.fnOf "carries_of_parts" "carries_of_parts" (defArgs s_carries_of_parts) (defBody s_carries_of_parts) (defScope s_carries_of_parts) .none kV_carries_of_parts dc_carries_of_parts pm_carries_of_parts an_carries_of_parts cd_carries_of_parts ct_carries_of_parts), sl_carries_of_parts⟩)
    (c_carries_of_parts : PySem.W.codeIn K cd_carries_of_parts "carries_of_parts" = true)
    (k_carries_of_parts : PySem.W.keepIn K (.ref f_carries_of_parts) = true)
    (a_count_divisions : PySem.W.nsIn K mainGlobals "count_divisions" = some (some (.ref f_count_divisions)))
    (l_count_divisions : K.lookup f_count_divisions = some ⟨oc_count_divisions, od_count_divisions, .func (PySem.W.fnOf "count_divisions" "count_divisions" (defArgs s_count_divisions) (defBody s_count_divisions) (defScope s_count_divisions) .none kV_count_divisions dc_count_divisions pm_count_divisions an_count_divisions cd_count_divisions ct_count_divisions), sl_count_divisions⟩)
    (c_count_divisions : PySem.W.codeIn K cd_count_divisions "count_divisions" = true)
    (k_count_divisions : PySem.W.keepIn K (.ref f_count_divisions) = true)
    (a_Adder_Init : PySem.W.findIn K (.ref C_Adder) "__init__" = some (some (.ref f_Adder_Init)))
    (i_Adder_Init : PySem.W.isFn K (.ref f_Adder_Init) = true)
    (l_Adder_Init : K.lookup f_Adder_Init = some ⟨oc_Adder_Init, od_Adder_Init, .func (PySem.W.fnOf "__init__" "Adder.__init__" (defArgs s_Adder_Init) (defBody s_Adder_Init) (defScope s_Adder_Init) .none kV_Adder_Init dc_Adder_Init pm_Adder_Init an_Adder_Init cd_Adder_Init ct_Adder_Init), sl_Adder_Init⟩)
    (c_Adder_Init : PySem.W.codeIn K cd_Adder_Init "Adder.__init__" = true)
    (k_Adder_Init : PySem.W.keepIn K (.ref f_Adder_Init) = true)
    (a_Adder_answer : PySem.W.findIn K (.ref C_Adder) "answer" = some (some (.ref f_Adder_answer)))
    (i_Adder_answer : PySem.W.isFn K (.ref f_Adder_answer) = true)
    (l_Adder_answer : K.lookup f_Adder_answer = some ⟨oc_Adder_answer, od_Adder_answer, .func (PySem.W.fnOf "answer" "Adder.answer" (defArgs s_Adder_answer) (defBody s_Adder_answer) (defScope s_Adder_answer) .none kV_Adder_answer dc_Adder_answer pm_Adder_answer an_Adder_answer cd_Adder_answer ct_Adder_answer), sl_Adder_answer⟩)
    (c_Adder_answer : PySem.W.codeIn K cd_Adder_answer "Adder.answer" = true)
    (k_Adder_answer : PySem.W.keepIn K (.ref f_Adder_answer) = true)
    (a_Adder_begin : PySem.W.findIn K (.ref C_Adder) "begin" = some (some (.ref f_Adder_begin)))
    (i_Adder_begin : PySem.W.isFn K (.ref f_Adder_begin) = true)
    (l_Adder_begin : K.lookup f_Adder_begin = some ⟨oc_Adder_begin, od_Adder_begin, .func (PySem.W.fnOf "begin" "Adder.begin" (defArgs s_Adder_begin) (defBody s_Adder_begin) (defScope s_Adder_begin) .none kV_Adder_begin dc_Adder_begin pm_Adder_begin an_Adder_begin cd_Adder_begin ct_Adder_begin), sl_Adder_begin⟩)
    (c_Adder_begin : PySem.W.codeIn K cd_Adder_begin "Adder.begin" = true)
    (k_Adder_begin : PySem.W.keepIn K (.ref f_Adder_begin) = true)
    (a_Adder_change_prime : PySem.W.findIn K (.ref C_Adder) "change_prime" = some (some (.ref f_Adder_change_prime)))
    (i_Adder_change_prime : PySem.W.isFn K (.ref f_Adder_change_prime) = true)
    (l_Adder_change_prime : K.lookup f_Adder_change_prime = some ⟨oc_Adder_change_prime, od_Adder_change_prime, .func (PySem.W.fnOf "change_prime" "Adder.change_prime" (defArgs s_Adder_change_prime) (defBody s_Adder_change_prime) (defScope s_Adder_change_prime) .none kV_Adder_change_prime dc_Adder_change_prime pm_Adder_change_prime an_Adder_change_prime cd_Adder_change_prime ct_Adder_change_prime), sl_Adder_change_prime⟩)
    (c_Adder_change_prime : PySem.W.codeIn K cd_Adder_change_prime "Adder.change_prime" = true)
    (k_Adder_change_prime : PySem.W.keepIn K (.ref f_Adder_change_prime) = true)
    (a_is_refused : PySem.W.nsIn K mainGlobals "is_refused" = some (some (.ref f_is_refused)))
    (l_is_refused : K.lookup f_is_refused = some ⟨oc_is_refused, od_is_refused, .func (PySem.W.fnOf "is_refused" "is_refused" (defArgs s_is_refused) (defBody s_is_refused) (defScope s_is_refused) .none kV_is_refused dc_is_refused pm_is_refused an_is_refused cd_is_refused ct_is_refused), sl_is_refused⟩)
    (c_is_refused : PySem.W.codeIn K cd_is_refused "is_refused" = true)
    (k_is_refused : PySem.W.keepIn K (.ref f_is_refused) = true)
    (a_highest_allowed : PySem.W.nsIn K mainGlobals "highest_allowed" = some (some (.ref f_highest_allowed)))
    (l_highest_allowed : K.lookup f_highest_allowed = some ⟨oc_highest_allowed, od_highest_allowed, .func (PySem.W.fnOf "highest_allowed" "highest_allowed" (defArgs s_highest_allowed) (defBody s_highest_allowed) (defScope s_highest_allowed) .none kV_highest_allowed dc_highest_allowed pm_highest_allowed an_highest_allowed cd_highest_allowed ct_highest_allowed), sl_highest_allowed⟩)
    (c_highest_allowed : PySem.W.codeIn K cd_highest_allowed "highest_allowed" = true)
    (k_highest_allowed : PySem.W.keepIn K (.ref f_highest_allowed) = true)
    (a_computed : PySem.W.nsIn K mainGlobals "computed" = some (some (.ref f_computed)))
    (l_computed : K.lookup f_computed = some ⟨oc_computed, od_computed, .func (PySem.W.fnOf "computed" "computed" (defArgs s_computed) (defBody s_computed) (defScope s_computed) .none kV_computed dc_computed pm_computed an_computed cd_computed ct_computed), sl_computed⟩)
    (c_computed : PySem.W.codeIn K cd_computed "computed" = true)
    (k_computed : PySem.W.keepIn K (.ref f_computed) = true)
    (a_with_count : PySem.W.nsIn K mainGlobals "with_count" = some (some (.ref f_with_count)))
    (l_with_count : K.lookup f_with_count = some ⟨oc_with_count, od_with_count, .func (PySem.W.fnOf "with_count" "with_count" (defArgs s_with_count) (defBody s_with_count) (defScope s_with_count) .none kV_with_count dc_with_count pm_with_count an_with_count cd_with_count ct_with_count), sl_with_count⟩)
    (c_with_count : PySem.W.codeIn K cd_with_count "with_count" = true)
    (k_with_count : PySem.W.keepIn K (.ref f_with_count) = true)
    (a_three_added : PySem.W.nsIn K mainGlobals "three_added" = some (some (.ref f_three_added)))
    (l_three_added : K.lookup f_three_added = some ⟨oc_three_added, od_three_added, .func (PySem.W.fnOf "three_added" "three_added" (defArgs s_three_added) (defBody s_three_added) (defScope s_three_added) .none kV_three_added dc_three_added pm_three_added an_three_added cd_three_added ct_three_added), sl_three_added⟩)
    (c_three_added : PySem.W.codeIn K cd_three_added "three_added" = true)
    (k_three_added : PySem.W.keepIn K (.ref f_three_added) = true)
    (a_one_added : PySem.W.nsIn K mainGlobals "one_added" = some (some (.ref f_one_added)))
    (l_one_added : K.lookup f_one_added = some ⟨oc_one_added, od_one_added, .func (PySem.W.fnOf "one_added" "one_added" (defArgs s_one_added) (defBody s_one_added) (defScope s_one_added) .none kV_one_added dc_one_added pm_one_added an_one_added cd_one_added ct_one_added), sl_one_added⟩)
    (c_one_added : PySem.W.codeIn K cd_one_added "one_added" = true)
    (k_one_added : PySem.W.keepIn K (.ref f_one_added) = true)
    (a_parts_carried : PySem.W.nsIn K mainGlobals "parts_carried" = some (some (.ref f_parts_carried)))
    (l_parts_carried : K.lookup f_parts_carried = some ⟨oc_parts_carried, od_parts_carried, .func (PySem.W.fnOf "parts_carried" "parts_carried" (defArgs s_parts_carried) (defBody s_parts_carried) (defScope s_parts_carried) .none kV_parts_carried dc_parts_carried pm_parts_carried an_parts_carried cd_parts_carried ct_parts_carried), sl_parts_carried⟩)
    (c_parts_carried : PySem.W.codeIn K cd_parts_carried "parts_carried" = true)
    (k_parts_carried : PySem.W.keepIn K (.ref f_parts_carried) = true)
    (a_first_alike : PySem.W.nsIn K mainGlobals "first_alike" = some (some (.ref f_first_alike)))
    (l_first_alike : K.lookup f_first_alike = some ⟨oc_first_alike, od_first_alike, .func (PySem.W.fnOf "first_alike" "first_alike" (defArgs s_first_alike) (defBody s_first_alike) (defScope s_first_alike) .none kV_first_alike dc_first_alike pm_first_alike an_first_alike cd_first_alike ct_first_alike), sl_first_alike⟩)
    (c_first_alike : PySem.W.codeIn K cd_first_alike "first_alike" = true)
    (k_first_alike : PySem.W.keepIn K (.ref f_first_alike) = true)
    (a_taken_away : PySem.W.nsIn K mainGlobals "taken_away" = some (some (.ref f_taken_away)))
    (l_taken_away : K.lookup f_taken_away = some ⟨oc_taken_away, od_taken_away, .func (PySem.W.fnOf "taken_away" "taken_away" (defArgs s_taken_away) (defBody s_taken_away) (defScope s_taken_away) .none kV_taken_away dc_taken_away pm_taken_away an_taken_away cd_taken_away ct_taken_away), sl_taken_away⟩)
    (c_taken_away : PySem.W.codeIn K cd_taken_away "taken_away" = true)
    (k_taken_away : PySem.W.keepIn K (.ref f_taken_away) = true)
    (a_answers : PySem.W.nsIn K mainGlobals "answers" = some (some (.ref f_answers)))
    (l_answers : K.lookup f_answers = some ⟨oc_answers, od_answers, .func (PySem.W.fnOf "answers" "answers" (defArgs s_answers) (defBody s_answers) (defScope s_answers) .none kV_answers dc_answers pm_answers an_answers cd_answers ct_answers), sl_answers⟩)
    (c_answers : PySem.W.codeIn K cd_answers "answers" = true)
    (k_answers : PySem.W.keepIn K (.ref f_answers) = true) :
    ∃ fd : FuncData, (∀ (s : Shared) (us : List Value), us.length = (["calls"] : List Str).length → BindsTo s fd ⟨us, []⟩ ((["calls"] : List Str).zip us)) ∧ ∀ base : Heap, K.In base → base.Ns mainGlobals mg → FnOk P w K mg base CX0 7 fa fd ["calls"] (sp_answers K) := by
  have e := hfa.symm.trans (PySem.W.mg_of X G a_answers)
  cases e
  have F_is_prime_below_100 := fun_mk (st := s_is_prime_below_100) l_is_prime_below_100 c_is_prime_below_100 k_is_prime_below_100
  have b_is_prime_below_100 := F_is_prime_below_100.binds (ps := ["number"]) fun _ _ _ _ _ _ us hl => match us, hl with | [_], _ => rfl
  have F_digits_of := fun_mk (st := s_digits_of) l_digits_of c_digits_of k_digits_of
  have b_digits_of := F_digits_of.binds (ps := ["number", "prime"]) fun _ _ _ _ _ _ us hl => match us, hl with | [_, _], _ => rfl
  have F_number_from := fun_mk (st := s_number_from) l_number_from c_number_from k_number_from
  have b_number_from := F_number_from.binds (ps := ["digits", "prime"]) fun _ _ _ _ _ _ us hl => match us, hl with | [_, _], _ => rfl
  have F_cross_sum := fun_mk (st := s_cross_sum) l_cross_sum c_cross_sum k_cross_sum
  have b_cross_sum := F_cross_sum.binds (ps := ["number", "prime"]) fun _ _ _ _ _ _ us hl => match us, hl with | [_, _], _ => rfl
  have F_next_alike := fun_mk (st := s_next_alike) l_next_alike c_next_alike k_next_alike
  have b_next_alike := F_next_alike.binds (ps := ["number", "prime", "within"]) fun _ _ _ _ _ _ us hl => match us, hl with | [_, _, _], _ => rfl
  have F_carried_places := fun_mk (st := s_carried_places) l_carried_places c_carried_places k_carried_places
  have b_carried_places := F_carried_places.binds (ps := ["first", "second", "prime"]) fun _ _ _ _ _ _ us hl => match us, hl with | [_, _, _], _ => rfl
  have F_count_carries := fun_mk (st := s_count_carries) l_count_carries c_count_carries k_count_carries
  have b_count_carries := F_count_carries.binds (ps := ["first", "second", "prime"]) fun _ _ _ _ _ _ us hl => match us, hl with | [_, _, _], _ => rfl
  have F_carries_of_parts := fun_mk (st := s_carries_of_parts) l_carries_of_parts c_carries_of_parts k_carries_of_parts
  have b_carries_of_parts := F_carries_of_parts.binds (ps := ["number", "prime"]) fun _ _ _ _ _ _ us hl => match us, hl with | [_, _], _ => rfl
  have F_count_divisions := fun_mk (st := s_count_divisions) l_count_divisions c_count_divisions k_count_divisions
  have b_count_divisions := F_count_divisions.binds (ps := ["number", "prime"]) fun _ _ _ _ _ _ us hl => match us, hl with | [_, _], _ => rfl
  have F_Adder_Init := fun_mk (st := s_Adder_Init) l_Adder_Init c_Adder_Init k_Adder_Init
  have b_Adder_Init := F_Adder_Init.binds (ps := ["self"]) fun _ _ _ _ _ _ us hl => match us, hl with | [_], _ => rfl
  have F_Adder_answer := fun_mk (st := s_Adder_answer) l_Adder_answer c_Adder_answer k_Adder_answer
  have b_Adder_answer := F_Adder_answer.binds (ps := ["self", "call", "numbers"]) fun _ _ _ _ _ _ us hl => match us, hl with | [_, _, _], _ => rfl
  have F_Adder_begin := fun_mk (st := s_Adder_begin) l_Adder_begin c_Adder_begin k_Adder_begin
  have b_Adder_begin := F_Adder_begin.binds (ps := ["self", "prime"]) fun _ _ _ _ _ _ us hl => match us, hl with | [_, _], _ => rfl
  have F_Adder_change_prime := fun_mk (st := s_Adder_change_prime) l_Adder_change_prime c_Adder_change_prime k_Adder_change_prime
  have b_Adder_change_prime := F_Adder_change_prime.binds (ps := ["self", "prime"]) fun _ _ _ _ _ _ us hl => match us, hl with | [_, _], _ => rfl
  have F_is_refused := fun_mk (st := s_is_refused) l_is_refused c_is_refused k_is_refused
  have b_is_refused := F_is_refused.binds (ps := ["call", "numbers", "prime"]) fun _ _ _ _ _ _ us hl => match us, hl with | [_, _, _], _ => rfl
  have F_highest_allowed := fun_mk (st := s_highest_allowed) l_highest_allowed c_highest_allowed k_highest_allowed
  have b_highest_allowed := F_highest_allowed.binds (ps := ["call", "prime"]) fun _ _ _ _ _ _ us hl => match us, hl with | [_, _], _ => rfl
  have F_computed := fun_mk (st := s_computed) l_computed c_computed k_computed
  have b_computed := F_computed.binds (ps := ["call", "numbers", "prime"]) fun _ _ _ _ _ _ us hl => match us, hl with | [_, _, _], _ => rfl
  have F_with_count := fun_mk (st := s_with_count) l_with_count c_with_count k_with_count
  have b_with_count := F_with_count.binds (ps := ["numbers"]) fun _ _ _ _ _ _ us hl => match us, hl with | [_], _ => rfl
  have F_three_added := fun_mk (st := s_three_added) l_three_added c_three_added k_three_added
  have b_three_added := F_three_added.binds (ps := ["first", "second", "third", "prime"]) fun _ _ _ _ _ _ us hl => match us, hl with | [_, _, _, _], _ => rfl
  have F_one_added := fun_mk (st := s_one_added) l_one_added c_one_added k_one_added
  have b_one_added := F_one_added.binds (ps := ["number", "prime"]) fun _ _ _ _ _ _ us hl => match us, hl with | [_, _], _ => rfl
  have F_parts_carried := fun_mk (st := s_parts_carried) l_parts_carried c_parts_carried k_parts_carried
  have b_parts_carried := F_parts_carried.binds (ps := ["number", "often", "prime"]) fun _ _ _ _ _ _ us hl => match us, hl with | [_, _, _], _ => rfl
  have F_first_alike := fun_mk (st := s_first_alike) l_first_alike c_first_alike k_first_alike
  have b_first_alike := F_first_alike.binds (ps := ["number", "prime"]) fun _ _ _ _ _ _ us hl => match us, hl with | [_, _], _ => rfl
  have F_taken_away := fun_mk (st := s_taken_away) l_taken_away c_taken_away k_taken_away
  have b_taken_away := F_taken_away.binds (ps := ["number", "less", "prime"]) fun _ _ _ _ _ _ us hl => match us, hl with | [_, _, _], _ => rfl
  have F_answers := fun_mk (st := s_answers) l_answers c_answers k_answers
  have b_answers := F_answers.binds (ps := ["calls"]) fun _ _ _ _ _ _ us hl => match us, hl with | [_], _ => rfl
  have T : Txt K mg ⟨C_Adder, S_SIZES, f_is_prime_below_100, _, f_digits_of, _, f_number_from, _, f_cross_sum, _, f_next_alike, _, f_carried_places, _, f_count_carries, _, f_carries_of_parts, _, f_count_divisions, _, f_Adder_Init, _, f_Adder_answer, _, f_Adder_begin, _, f_Adder_change_prime, _, f_is_refused, _, f_highest_allowed, _, f_computed, _, f_with_count, _, f_three_added, _, f_one_added, _, f_parts_carried, _, f_first_alike, _, f_taken_away, _, fa, _⟩ := { cl_Adder := ⟨pg_Adder, hd_Adder, po_Adder, sa_Adder⟩, n_Adder_prime := n_Adder_prime, g_Adder := PySem.W.mg_of X G a_Adder, mk_Adder := ⟨mk_Adder, a_Adder_Init, i_Adder_Init, kc_Adder⟩, c_BEGIN := ⟨_, PySem.W.mg_of X G a_BEGIN, ⟨_, rfl⟩⟩, c_PRIME := ⟨_, PySem.W.mg_of X G a_PRIME, ⟨_, rfl⟩⟩, c_DIGITS := ⟨_, PySem.W.mg_of X G a_DIGITS, ⟨_, rfl⟩⟩, c_CROSS := ⟨_, PySem.W.mg_of X G a_CROSS, ⟨_, rfl⟩⟩, c_CARRIES := ⟨_, PySem.W.mg_of X G a_CARRIES, ⟨_, rfl⟩⟩, c_PLACES := ⟨_, PySem.W.mg_of X G a_PLACES, ⟨_, rfl⟩⟩, c_THREE := ⟨_, PySem.W.mg_of X G a_THREE, ⟨_, rfl⟩⟩, c_TIMES := ⟨_, PySem.W.mg_of X G a_TIMES, ⟨_, rfl⟩⟩, c_NEXT := ⟨_, PySem.W.mg_of X G a_NEXT, ⟨_, rfl⟩⟩, c_WAYS := ⟨_, PySem.W.mg_of X G a_WAYS, ⟨_, rfl⟩⟩, c_MOST := ⟨_, PySem.W.mg_of X G a_MOST, ⟨_, rfl⟩⟩, c_LIKE := ⟨_, PySem.W.mg_of X G a_LIKE, ⟨_, rfl⟩⟩, c_NUMBER_OF := ⟨_, PySem.W.mg_of X G a_NUMBER_OF, ⟨_, rfl⟩⟩, c_TOLD := ⟨_, PySem.W.mg_of X G a_TOLD, ⟨_, rfl⟩⟩, c_HIGHEST := ⟨_, PySem.W.mg_of X G a_HIGHEST, ⟨_, rfl⟩⟩, c_HIGHEST_IN_PARTS := ⟨_, PySem.W.mg_of X G a_HIGHEST_IN_PARTS, ⟨_, rfl⟩⟩, c_HIGHEST_LIKE := ⟨_, PySem.W.mg_of X G a_HIGHEST_LIKE, ⟨_, rfl⟩⟩, c_LIKE_WITHIN := ⟨_, PySem.W.mg_of X G a_LIKE_WITHIN, ⟨_, rfl⟩⟩, c_SIZES := ⟨_, PySem.W.mg_of X G a_SIZES, rfl⟩, t_SIZES := fun _ => .inr ⟨_, its_SIZES, n_SIZES, l_SIZES, rfl, rfl, v_SIZES.1, v_SIZES.2⟩, z_enumerate := PySem.W.mg_none_of X G z_enumerate, z_len := PySem.W.mg_none_of X G z_len, z_max := PySem.W.mg_none_of X G z_max, z_range := PySem.W.mg_none_of X G z_range, z_reversed := PySem.W.mg_none_of X G z_reversed, z_sum := PySem.W.mg_none_of X G z_sum, F_is_prime_below_100 := F_is_prime_below_100, b_is_prime_below_100 := b_is_prime_below_100, g_is_prime_below_100 := PySem.W.mg_of X G a_is_prime_below_100, F_digits_of := F_digits_of, b_digits_of := b_digits_of, g_digits_of := PySem.W.mg_of X G a_digits_of, F_number_from := F_number_from, b_number_from := b_number_from, g_number_from := PySem.W.mg_of X G a_number_from, F_cross_sum := F_cross_sum, b_cross_sum := b_cross_sum, g_cross_sum := PySem.W.mg_of X G a_cross_sum, F_next_alike := F_next_alike, b_next_alike := b_next_alike, g_next_alike := PySem.W.mg_of X G a_next_alike, F_carried_places := F_carried_places, b_carried_places := b_carried_places, g_carried_places := PySem.W.mg_of X G a_carried_places, F_count_carries := F_count_carries, b_count_carries := b_count_carries, g_count_carries := PySem.W.mg_of X G a_count_carries, F_carries_of_parts := F_carries_of_parts, b_carries_of_parts := b_carries_of_parts, g_carries_of_parts := PySem.W.mg_of X G a_carries_of_parts, F_count_divisions := F_count_divisions, b_count_divisions := b_count_divisions, g_count_divisions := PySem.W.mg_of X G a_count_divisions, F_Adder_Init := F_Adder_Init, b_Adder_Init := b_Adder_Init, F_Adder_answer := F_Adder_answer, b_Adder_answer := b_Adder_answer, m_Adder_answer := ⟨a_Adder_answer, i_Adder_answer, k_Adder_answer⟩, F_Adder_begin := F_Adder_begin, b_Adder_begin := b_Adder_begin, m_Adder_begin := ⟨a_Adder_begin, i_Adder_begin, k_Adder_begin⟩, F_Adder_change_prime := F_Adder_change_prime, b_Adder_change_prime := b_Adder_change_prime, m_Adder_change_prime := ⟨a_Adder_change_prime, i_Adder_change_prime, k_Adder_change_prime⟩, F_is_refused := F_is_refused, b_is_refused := b_is_refused, g_is_refused := PySem.W.mg_of X G a_is_refused, F_highest_allowed := F_highest_allowed, b_highest_allowed := b_highest_allowed, g_highest_allowed := PySem.W.mg_of X G a_highest_allowed, F_computed := F_computed, b_computed := b_computed, g_computed := PySem.W.mg_of X G a_computed, F_with_count := F_with_count, b_with_count := b_with_count, g_with_count := PySem.W.mg_of X G a_with_count, F_three_added := F_three_added, b_three_added := b_three_added, g_three_added := PySem.W.mg_of X G a_three_added, F_one_added := F_one_added, b_one_added := b_one_added, g_one_added := PySem.W.mg_of X G a_one_added, F_parts_carried := F_parts_carried, b_parts_carried := b_parts_carried, g_parts_carried := PySem.W.mg_of X G a_parts_carried, F_first_alike := F_first_alike, b_first_alike := b_first_alike, g_first_alike := PySem.W.mg_of X G a_first_alike, F_taken_away := F_taken_away, b_taken_away := b_taken_away, g_taken_away := PySem.W.mg_of X G a_taken_away, F_answers := F_answers, b_answers := b_answers, g_answers := PySem.W.mg_of X G a_answers }
  exact ⟨_, fun s us hu => match us, hu with | [_], _ => .of_eq rfl, fun base _ _ => ok_answers T⟩
end Co
open PySem PySem.W PyProof.Rows
set_option maxRecDepth 100000 in
set_option maxHeartbeats 8000000 in
theorem PySem.Challenge.cw_carriedover_s01_answers_holds : PySem.Challenge.rw_carriedover_s01_answers.Holds := by
  w_on; k_headS; (case hw => exact ⟨[.list [.int 14]], by decide +kernel, by decide +kernel⟩)
  k_fillS
  refine L2.walk_specK (r := PySem.Challenge.rw_carriedover_s01_answers) (k := 7) (CX := L2.CX0) (ps := ["calls"]) (sp := Co.sp_answers) (by decide +kernel) rfl rfl ⟨rfl, by decide, by decide⟩ (fun w h Y => PySem.W.kIn_of Y) ?F ?S (fun _ _ _ _ z => z)
  case F =>
    intro w mg fa h Y KX G hmg
    refine' Co.all_mk KX G hmg ?a_Adder ?pg_Adder ?hd_Adder ?po_Adder ?sa_Adder ?mk_Adder ?kc_Adder ?n_Adder_prime ?a_BEGIN ?a_PRIME ?a_DIGITS ?a_CROSS ?a_CARRIES ?a_PLACES ?a_THREE ?a_TIMES ?a_NEXT ?a_WAYS ?a_MOST ?a_LIKE ?a_NUMBER_OF ?a_TOLD ?a_HIGHEST ?a_HIGHEST_IN_PARTS ?a_HIGHEST_LIKE ?a_LIKE_WITHIN ?a_SIZES ?l_SIZES ?v_SIZES ?z_enumerate ?z_len ?z_max ?z_range ?z_reversed ?z_sum ?a_is_prime_below_100 ?l_is_prime_below_100 ?c_is_prime_below_100 ?k_is_prime_below_100 ?a_digits_of ?l_digits_of ?c_digits_of ?k_digits_of ?a_number_from ?l_number_from ?c_number_from ?k_number_from ?a_cross_sum ?l_cross_sum ?c_cross_sum ?k_cross_sum ?a_next_alike ?l_next_alike ?c_next_alike ?k_next_alike ?a_carried_places ?l_carried_places ?c_carried_places ?k_carried_places ?a_count_carries ?l_count_carries ?c_count_carries ?k_count_carries ?a_carries_of_parts ?l_carries_of_parts ?c_carries_of_parts ?k_carries_of_parts ?a_count_divisions ?l_count_divisions ?c_count_divisions ?k_count_divisions ?a_Adder_Init ?i_Adder_Init ?l_Adder_Init ?c_Adder_Init ?k_Adder_Init ?a_Adder_answer ?i_Adder_answer ?l_Adder_answer ?c_Adder_answer ?k_Adder_answer ?a_Adder_begin ?i_Adder_begin ?l_Adder_begin ?c_Adder_begin ?k_Adder_begin ?a_Adder_change_prime ?i_Adder_change_prime ?l_Adder_change_prime ?c_Adder_change_prime ?k_Adder_change_prime ?a_is_refused ?l_is_refused ?c_is_refused ?k_is_refused ?a_highest_allowed ?l_highest_allowed ?c_highest_allowed ?k_highest_allowed ?a_computed ?l_computed ?c_computed ?k_computed ?a_with_count ?l_with_count ?c_with_count ?k_with_count ?a_three_added ?l_three_added ?c_three_added ?k_three_added ?a_one_added ?l_one_added ?c_one_added ?k_one_added ?a_parts_carried ?l_parts_carried ?c_parts_carried ?k_parts_carried ?a_first_alike ?l_first_alike ?c_first_alike ?k_first_alike ?a_taken_away ?l_taken_away ?c_taken_away ?k_taken_away ?a_answers ?l_answers ?c_answers ?k_answers
    (case a_Adder => k_is)
    (case pg_Adder => k_is)
    (case hd_Adder => k_is)
    (case po_Adder => k_is)
    (case sa_Adder => k_is)
    (case mk_Adder => k_is)
    (case kc_Adder => k_is)
    (case n_Adder_prime => k_is)
    (case a_BEGIN => k_is)
    (case a_PRIME => k_is)
    (case a_DIGITS => k_is)
    (case a_CROSS => k_is)
    (case a_CARRIES => k_is)
    (case a_PLACES => k_is)
    (case a_THREE => k_is)
    (case a_TIMES => k_is)
    (case a_NEXT => k_is)
    (case a_WAYS => k_is)
    (case a_MOST => k_is)
    (case a_LIKE => k_is)
    (case a_NUMBER_OF => k_is)
    (case a_TOLD => k_is)
    (case a_HIGHEST => k_is)
    (case a_HIGHEST_IN_PARTS => k_is)
    (case a_HIGHEST_LIKE => k_is)
    (case a_LIKE_WITHIN => k_is)
    (case a_SIZES => k_is)
    (case l_SIZES => k_is)
    (case v_SIZES => exact ⟨by decide, .cons ⟨_, rfl⟩ (.cons ⟨_, rfl⟩ (.cons ⟨_, rfl⟩ (.cons ⟨_, rfl⟩ (.cons ⟨_, rfl⟩ (.cons ⟨_, rfl⟩ (.cons ⟨_, rfl⟩ (.cons ⟨_, rfl⟩ (.cons ⟨_, rfl⟩ (.cons ⟨_, rfl⟩ (.cons ⟨_, rfl⟩ (.cons ⟨_, rfl⟩ (.cons ⟨_, rfl⟩ (.cons ⟨_, rfl⟩ (.cons ⟨_, rfl⟩ (.nil)))))))))))))))⟩)
    (case z_enumerate => k_is)
    (case z_len => k_is)
    (case z_max => k_is)
    (case z_range => k_is)
    (case z_reversed => k_is)
    (case z_sum => k_is)
    (case a_is_prime_below_100 => k_is)
    (case l_is_prime_below_100 => k_is)
    (case c_is_prime_below_100 => k_is)
    (case k_is_prime_below_100 => k_is)
    (case a_digits_of => k_is)
    (case l_digits_of => k_is)
    (case c_digits_of => k_is)
    (case k_digits_of => k_is)
    (case a_number_from => k_is)
    (case l_number_from => k_is)
    (case c_number_from => k_is)
    (case k_number_from => k_is)
    (case a_cross_sum => k_is)
    (case l_cross_sum => k_is)
    (case c_cross_sum => k_is)
    (case k_cross_sum => k_is)
    (case a_next_alike => k_is)
    (case l_next_alike => k_is)
    (case c_next_alike => k_is)
    (case k_next_alike => k_is)
    (case a_carried_places => k_is)
    (case l_carried_places => k_is)
    (case c_carried_places => k_is)
    (case k_carried_places => k_is)
    (case a_count_carries => k_is)
    (case l_count_carries => k_is)
    (case c_count_carries => k_is)
    (case k_count_carries => k_is)
    (case a_carries_of_parts => k_is)
    (case l_carries_of_parts => k_is)
    (case c_carries_of_parts => k_is)
    (case k_carries_of_parts => k_is)
    (case a_count_divisions => k_is)
    (case l_count_divisions => k_is)
    (case c_count_divisions => k_is)
    (case k_count_divisions => k_is)
    (case a_Adder_Init => k_is)
    (case i_Adder_Init => k_is)
    (case l_Adder_Init => k_is)
    (case c_Adder_Init => k_is)
    (case k_Adder_Init => k_is)
    (case a_Adder_answer => k_is)
    (case i_Adder_answer => k_is)
    (case l_Adder_answer => k_is)
    (case c_Adder_answer => k_is)
    (case k_Adder_answer => k_is)
    (case a_Adder_begin => k_is)
    (case i_Adder_begin => k_is)
    (case l_Adder_begin => k_is)
    (case c_Adder_begin => k_is)
    (case k_Adder_begin => k_is)
    (case a_Adder_change_prime => k_is)
    (case i_Adder_change_prime => k_is)
    (case l_Adder_change_prime => k_is)
    (case c_Adder_change_prime => k_is)
    (case k_Adder_change_prime => k_is)
    (case a_is_refused => k_is)
    (case l_is_refused => k_is)
    (case c_is_refused => k_is)
    (case k_is_refused => k_is)
    (case a_highest_allowed => k_is)
    (case l_highest_allowed => k_is)
    (case c_highest_allowed => k_is)
    (case k_highest_allowed => k_is)
    (case a_computed => k_is)
    (case l_computed => k_is)
    (case c_computed => k_is)
    (case k_computed => k_is)
    (case a_with_count => k_is)
    (case l_with_count => k_is)
    (case c_with_count => k_is)
    (case k_with_count => k_is)
    (case a_three_added => k_is)
    (case l_three_added => k_is)
    (case c_three_added => k_is)
    (case k_three_added => k_is)
    (case a_one_added => k_is)
    (case l_one_added => k_is)
    (case c_one_added => k_is)
    (case k_one_added => k_is)
    (case a_parts_carried => k_is)
    (case l_parts_carried => k_is)
    (case c_parts_carried => k_is)
    (case k_parts_carried => k_is)
    (case a_first_alike => k_is)
    (case l_first_alike => k_is)
    (case c_first_alike => k_is)
    (case k_first_alike => k_is)
    (case a_taken_away => k_is)
    (case l_taken_away => k_is)
    (case c_taken_away => k_is)
    (case k_taken_away => k_is)
    (case a_answers => k_is)
    (case l_answers => k_is)
    (case c_answers => k_is)
    (case k_answers => k_is)
  case S =>
    intro K H xs a hO hwi hask hx
    cases hx with
    | cons h1 h2 =>
      cases h2
      cases h1 with
      | lst hs ha =>
        have e := L2.ints_dw a.1 _ ha
        subst e
        exact ⟨_, a.1, rfl, hs, hask, fun H' p hp => .lst (L2.SqL.of hp) (L2.dw_ints _)⟩
