import PyProof.Rows.All
import Wide.All
import OpenK.AllK
import Wide.FinOn
import HandS.ForMost
import KE.KTupSum
import KE.GoesMore
import HandS.SortKw
import KE.DataMinMax
import KE.KDictCopyH
import KE.KDictKeyed
import KE.KDictLaw
import PyProof.FString
import KE.KExcSuper
import HandS.Base
import HandS.Call
import HandS.Exc
import PyProof.EqAt
import KE.KExcIs
import HandS.ExcIs
import HandS.TryOnly
import HandS.Lambda
import PyProof.SeqRoads
import HandS.NamedTup0
import HandS.NamedTupGet
import HandS.Star
import HandS.ClsMeth
import KE.KMathGC
import PySem.Challenge.RW_warmswitch_k01_weather_validated
import HandS.Property
import HandS.MakeKwOnly
import HandS.Gcd
import HandS.WideBits
import HandS.Wide
import HandS.TupAny
import HandS.Style
import HandS.Iter
import HandS.IsInst
import HandS.WordsExc
import KE.KStateDown
import HandS.Head0
import HandS.Head1
import HandS.Head2
import HandS.Head3
import HandS.HeadEnd
import HandS.HeadHook1
import HandS.HeadHook2
import KE.KNestM
import HandS.HeadHook4
import HandS.HeadNt
import HandS.EndTab
/-! The thermostat in plain Lean: the course of a temperature, its stretches, its repetition. -/
namespace Th

structure Par where
  ch : List Int
  g : Int
  lo : Int
  hi : Int
  st : Int
  on0 : Bool

structure Par.Ok (p : Par) : Prop where
  n1 : 1 ≤ p.ch.length
  n24 : p.ch.length ≤ 24
  chb : ∀ c ∈ p.ch, -100 ≤ c ∧ c ≤ 100
  g1 : 1 ≤ p.g
  g200 : p.g ≤ 200
  lohi : p.lo ≤ p.hi
  lob : -1000000000000 ≤ p.lo
  hib : p.hi ≤ 1000000000000
  st1 : -1000000000000 ≤ p.st
  st2 : p.st ≤ 1000000000000

def chAt (ch : List Int) (t : Nat) : Int := ch.getD (t % ch.length) 0
def gon (g : Int) (b : Bool) : Int := if b then g else 0
def sumTo (ch : List Int) (gg : Int) : Nat → Int
  | 0 => 0
  | t + 1 => sumTo ch gg t + chAt ch t + gg
/-- the sum of a whole round -/
def rsum (ch : List Int) (gg : Int) : Int := ch.sum + gg * (ch.length : Int)
/-- the sums of the first ticks of a round -/
def pre (ch : List Int) (gg : Int) (r : Nat) : Int := (ch.take r).sum + gg * (r : Int)

theorem sum_take_succ : ∀ {l : List Int} {i : Nat}, i < l.length → (l.take (i + 1)).sum = (l.take i).sum + l.getD i 0
  | [], i, h => by simp at h
  | a :: r, 0, _ => by simp
  | a :: r, i + 1, h => by
    have ih := sum_take_succ (l := r) (i := i) (by simpa using h)
    simp only [List.take_succ_cons, List.sum_cons, List.getD_cons_succ]
    omega

theorem divmod_succ {n t : Nat} (hn : 0 < n) : (t % n + 1 < n ∧ (t + 1) / n = t / n ∧ (t + 1) % n = t % n + 1) ∨ (t % n + 1 = n ∧ (t + 1) / n = t / n + 1 ∧ (t + 1) % n = 0) := by
  have e := Nat.div_add_mod t n
  have l := Nat.mod_lt t hn
  by_cases c : t % n + 1 < n
  · refine .inl ⟨c, ?_, ?_⟩
    · rw [show t + 1 = n * (t / n) + (t % n + 1) by omega, Nat.mul_add_div hn, Nat.div_eq_of_lt c]; rfl
    · rw [show t + 1 = n * (t / n) + (t % n + 1) by omega, Nat.mul_add_mod, Nat.mod_eq_of_lt c]
  · refine .inr ⟨by omega, ?_, ?_⟩
    · rw [show t + 1 = n * (t / n + 1) by rw [Nat.mul_add]; omega, Nat.mul_div_cancel_left _ hn]
    · rw [show t + 1 = n * (t / n + 1) by rw [Nat.mul_add]; omega, Nat.mul_mod_right]

theorem sumTo_eq {ch : List Int} {gg : Int} (hn : 1 ≤ ch.length) : ∀ t : Nat, sumTo ch gg t = ((t / ch.length : Nat) : Int) * rsum ch gg + pre ch gg (t % ch.length)
  | 0 => by simp [sumTo, pre]
  | t + 1 => by
    have ih := sumTo_eq (ch := ch) (gg := gg) hn t
    have lt := Nat.mod_lt t (show 0 < ch.length by omega)
    show sumTo ch gg t + chAt ch t + gg = _
    rw [ih]
    rcases divmod_succ (n := ch.length) (t := t) (by omega) with ⟨c, e1, e2⟩ | ⟨c, e1, e2⟩
    · rw [e1, e2]
      unfold pre chAt
      rw [sum_take_succ lt, Int.natCast_add, Int.mul_add]
      simp only [Int.natCast_one, Int.mul_one]
      omega
    · rw [e1, e2]
      have h1 := sum_take_succ (l := ch) lt
      rw [c, List.take_length] at h1
      unfold pre chAt rsum
      rw [h1, Int.natCast_add, Int.add_mul]
      have : gg * ((ch.length : Nat) : Int) = gg * ((t % ch.length : Nat) : Int) + gg := by
        rw [show ((ch.length : Nat) : Int) = ((t % ch.length : Nat) : Int) + 1 by omega, Int.mul_add, Int.mul_one]
      simp only [List.take_zero, List.sum_nil, Int.natCast_zero, Int.mul_zero, Int.natCast_one, Int.one_mul]
      omega

theorem chAt_add {ch : List Int} (t : Nat) : chAt ch (t + ch.length) = chAt ch t := by
  unfold chAt
  rw [Nat.add_mod_right]
theorem sumTo_round {ch : List Int} {gg : Int} (hn : 1 ≤ ch.length) (t : Nat) : sumTo ch gg (t + ch.length) = sumTo ch gg t + rsum ch gg := by
  rw [sumTo_eq hn, sumTo_eq hn, Nat.add_mod_right, Nat.add_div_right _ (by omega), Int.natCast_add, Int.add_mul]
  simp only [Int.natCast_one, Int.one_mul]
  omega
theorem sumTo_rounds {ch : List Int} {gg : Int} (hn : 1 ≤ ch.length) (t : Nat) : ∀ k : Nat, sumTo ch gg (t + k * ch.length) = sumTo ch gg t + (k : Int) * rsum ch gg
  | 0 => by simp
  | k + 1 => by
    rw [Nat.succ_mul, ← Nat.add_assoc, sumTo_round hn, sumTo_rounds hn t k, Int.natCast_add, Int.add_mul]
    simp only [Int.natCast_one, Int.one_mul]
    omega

/-! ### the course itself -/
def hst (d lo hi : Int) (b : Bool) : Bool := if d < lo then true else if d > hi then false else b
def stepT (p : Par) (t : Nat) (x : Int × Bool) : Int × Bool :=
  (x.1 + chAt p.ch t + gon p.g x.2, hst (x.1 + chAt p.ch t + gon p.g x.2) p.lo p.hi x.2)
def traj (p : Par) : Nat → Int × Bool
  | 0 => (p.st, hst p.st p.lo p.hi p.on0)
  | t + 1 => stepT p t (traj p t)
def deg (p : Par) (t : Nat) : Int := (traj p t).1
def onn (p : Par) (t : Nat) : Bool := (traj p t).2
theorem deg_succ (p : Par) (t : Nat) : deg p (t + 1) = deg p t + chAt p.ch t + gon p.g (onn p t) := rfl
theorem onn_succ (p : Par) (t : Nat) : onn p (t + 1) = hst (deg p (t + 1)) p.lo p.hi (onn p t) := rfl
/-- how many of the first ticks are heated -/
def Hc (p : Par) : Nat → Int
  | 0 => 0
  | t + 1 => Hc p t + (if onn p t then 1 else 0)

/-- the heater stays from b to the tick before e -/
def Run (p : Par) (b e : Nat) : Prop := ∀ t, b ≤ t → t < e → onn p t = onn p b
theorem run_deg {p : Par} {b : Nat} : ∀ {e : Nat}, b ≤ e → Run p b e → deg p e = deg p b + (sumTo p.ch (gon p.g (onn p b)) e - sumTo p.ch (gon p.g (onn p b)) b)
  | 0, h, _ => by
    have : b = 0 := by omega
    subst this; omega
  | e + 1, h, r => by
    by_cases c : b = e + 1
    · subst c; omega
    · have ih := run_deg (p := p) (b := b) (e := e) (by omega) (fun t h1 h2 => r t h1 (by omega))
      rw [deg_succ, ih, r e (by omega) (by omega)]
      show _ = deg p b + (sumTo p.ch (gon p.g (onn p b)) e + chAt p.ch e + gon p.g (onn p b) - _)
      omega
theorem run_heat {p : Par} {b : Nat} : ∀ {e : Nat}, b ≤ e → Run p b e → Hc p e = Hc p b + (if onn p b then ((e - b : Nat) : Int) else 0)
  | 0, h, _ => by
    have : b = 0 := by omega
    subst this; simp
  | e + 1, h, r => by
    by_cases c : b = e + 1
    · subst c; simp
    · have ih := run_heat (p := p) (b := b) (e := e) (by omega) (fun t h1 h2 => r t h1 (by omega))
      show Hc p e + (if onn p e then 1 else 0) = _
      rw [ih, r e (by omega) (by omega)]
      split <;> omega

/-- e is the first tick behind b in which the heater switches -/
def Nx (p : Par) (b e : Nat) : Prop := b < e ∧ Run p b e ∧ onn p e ≠ onn p b
def Nev (p : Par) (b : Nat) : Prop := ∀ t, b ≤ t → onn p t = onn p b
def sgnOf (b : Bool) : Int := if b then 1 else -1
def bndOf (p : Par) (b : Bool) : Int := if b then p.hi else p.lo
def Bey (sgn bound x : Int) : Prop := sgn * (bound - x) < 0
instance (s b x : Int) : Decidable (Bey s b x) := inferInstanceAs (Decidable (_ < _))
/-- the temperature at t if the heater stays as it is in b -/
def DD (p : Par) (b t : Nat) : Int := deg p b + (sumTo p.ch (gon p.g (onn p b)) t - sumTo p.ch (gon p.g (onn p b)) b)

theorem hst_stay {p : Par} (ok : p.lo ≤ p.hi) {b : Bool} {d : Int} : hst d p.lo p.hi b = b ↔ ¬ Bey (sgnOf b) (bndOf p b) d := by
  unfold hst Bey sgnOf bndOf
  cases b
  · simp only [Bool.false_eq_true, if_false]
    by_cases c : d < p.lo
    · simp only [c, if_true]
      constructor
      · intro h; cases h
      · intro h; exact absurd (show (-1 : Int) * (p.lo - d) < 0 by omega) h
    · simp only [c, if_false]
      constructor
      · intro _ h; omega
      · intro _; split <;> rfl
  · simp only [if_true]
    by_cases c : d < p.lo
    · simp only [c, if_true]
      exact ⟨fun _ h => by omega, fun _ => trivial⟩
    · simp only [c, if_false]
      by_cases c2 : d > p.hi
      · simp only [c2, if_true]
        constructor
        · intro h; cases h
        · intro h; exact absurd (show (1 : Int) * (p.hi - d) < 0 by omega) h
      · simp only [c2, if_false]
        exact ⟨fun _ h => by omega, fun _ => trivial⟩
theorem stay_run {p : Par} (ok : p.lo ≤ p.hi) {b : Nat} : ∀ {e : Nat}, (∀ t, b < t → t < e → ¬ Bey (sgnOf (onn p b)) (bndOf p (onn p b)) (DD p b t)) → Run p b e
  | 0, _ => fun t _ h => by omega
  | e + 1, h => fun t h1 h2 => by
    have ih := stay_run ok (p := p) (b := b) (e := e) (fun t h1 h2 => h t h1 (by omega))
    by_cases c : t < e
    · exact ih t h1 c
    · have te : t = e := by omega
      subst te
      by_cases cb : t = b
      · rw [cb]
      · obtain ⟨u, rfl⟩ : ∃ u, t = u + 1 := ⟨t - 1, by omega⟩
        rw [onn_succ, ih u (by omega) (by omega)]
        refine (hst_stay ok).mpr ?_
        rw [run_deg h1 ih]
        exact h (u + 1) (by omega) (by omega)
theorem nx_of {p : Par} (ok : p.lo ≤ p.hi) {b e : Nat} (h0 : b < e) (h : ∀ t, b < t → t < e → ¬ Bey (sgnOf (onn p b)) (bndOf p (onn p b)) (DD p b t)) (he : Bey (sgnOf (onn p b)) (bndOf p (onn p b)) (DD p b e)) : Nx p b e := by
  have r := stay_run ok h
  refine ⟨h0, r, fun q => ?_⟩
  obtain ⟨u, rfl⟩ : ∃ u, e = u + 1 := ⟨e - 1, by omega⟩
  rw [onn_succ, r u (by omega) (by omega)] at q
  refine (hst_stay ok).mp q ?_
  rw [run_deg (by omega) r]
  exact he
theorem nev_of {p : Par} (ok : p.lo ≤ p.hi) {b : Nat} (h : ∀ t, b < t → ¬ Bey (sgnOf (onn p b)) (bndOf p (onn p b)) (DD p b t)) : Nev p b := fun t h1 =>
  stay_run ok (e := t + 1) (fun t h1 _ => h t h1) t h1 (by omega)

/-! ### the first tick beyond a bound -/
theorem DD_round {p : Par} (ok : p.Ok) (b t k : Nat) : DD p b (t + k * p.ch.length) = DD p b t + (k : Int) * rsum p.ch (gon p.g (onn p b)) := by
  unfold DD
  rw [sumTo_rounds ok.n1]
  omega
/-- general: a temperature that goes on as base + sumTo -/
def Dg (ch : List Int) (gg base : Int) (t : Nat) : Int := base + sumTo ch gg t
theorem Dg_rounds {ch : List Int} {gg base : Int} (hn : 1 ≤ ch.length) (t k : Nat) : Dg ch gg base (t + k * ch.length) = Dg ch gg base t + (k : Int) * rsum ch gg := by
  unfold Dg
  rw [sumTo_rounds hn]
  omega
theorem DD_eq (p : Par) (b t : Nat) : DD p b t = Dg p.ch (gon p.g (onn p b)) (deg p b - sumTo p.ch (gon p.g (onn p b)) b) t := by
  unfold DD Dg
  omega
theorem class_of {n b t : Nat} (hn : 0 < n) (h : b < t) : ∃ i k, i < n ∧ t = b + 1 + i + k * n := by
  refine ⟨(t - b - 1) % n, (t - b - 1) / n, Nat.mod_lt _ hn, ?_⟩
  have e := Nat.div_add_mod (t - b - 1) n
  rw [Nat.mul_comm] at e
  omega
/-- what first_beyond gives -/
def FB (ch : List Int) (gg base : Int) (b : Nat) (sgn bound : Int) (r : Option Nat) : Prop :=
  match r with
  | some e => b < e ∧ Bey sgn bound (Dg ch gg base e) ∧ ∀ t, b < t → t < e → ¬ Bey sgn bound (Dg ch gg base t)
  | none => ∀ t, b < t → ¬ Bey sgn bound (Dg ch gg base t)
theorem bey_rounds {ch : List Int} {gg base sgn bound : Int} (hn : 1 ≤ ch.length) (t k : Nat) : sgn * (bound - Dg ch gg base (t + k * ch.length)) = sgn * (bound - Dg ch gg base t) - (k : Int) * (sgn * rsum ch gg) := by
  rw [Dg_rounds hn]
  have e1 : sgn * (bound - (Dg ch gg base t + (k : Int) * rsum ch gg)) = sgn * (bound - Dg ch gg base t) - sgn * ((k : Int) * rsum ch gg) := by rw [← Int.mul_sub]; congr 1; omega
  rw [e1, Int.mul_left_comm]
theorem fb_none {ch : List Int} {gg base sgn bound : Int} {b : Nat} (hn : 1 ≤ ch.length) (hs : sgn * rsum ch gg ≤ 0) (h : ∀ i, i < ch.length → ¬ Bey sgn bound (Dg ch gg base (b + 1 + i))) : FB ch gg base b sgn bound none := fun t ht => by
  obtain ⟨i, k, hi, rfl⟩ := class_of (n := ch.length) (by omega) ht
  have q := h i hi
  unfold Bey at q ⊢
  rw [bey_rounds hn]
  have : (k : Int) * (sgn * rsum ch gg) ≤ 0 := Int.mul_nonpos_of_nonneg_of_nonpos (Int.natCast_nonneg k) hs
  omega
/-- the tick that the class of the i-th tick gives -/
def cand (ch : List Int) (gg base : Int) (b : Nat) (sgn bound : Int) (i : Nat) : Nat :=
  b + 1 + i + (sgn * (bound - Dg ch gg base (b + 1 + i)) / (sgn * rsum ch gg) + 1).toNat * ch.length
theorem fb_some {ch : List Int} {gg base sgn bound : Int} {b m : Nat} (hn : 1 ≤ ch.length) (hs : 0 < sgn * rsum ch gg) (h : ∀ i, i < ch.length → ¬ Bey sgn bound (Dg ch gg base (b + 1 + i)))
    (hm : ∃ i, i < ch.length ∧ m = cand ch gg base b sgn bound i) (hle : ∀ i, i < ch.length → m ≤ cand ch gg base b sgn bound i) : FB ch gg base b sgn bound (some m) := by
  obtain ⟨i, hi, rfl⟩ := hm
  refine ⟨by unfold cand; omega, ?_, fun t h1 h2 => ?_⟩
  · have q := h i hi
    unfold Bey at q ⊢
    unfold cand
    rw [bey_rounds hn]
    generalize sgn * (bound - Dg ch gg base (b + 1 + i)) = gap at *
    generalize sgn * rsum ch gg = sp at *
    have h0 : 0 ≤ gap / sp := Int.ediv_nonneg (by omega) (by omega)
    rw [Int.toNat_of_nonneg (by omega), Int.add_mul, Int.one_mul]
    have e := Int.mul_ediv_add_emod gap sp
    have l := Int.emod_lt_of_pos gap hs
    rw [Int.mul_comm] at e
    omega
  · obtain ⟨j, k, hj, rfl⟩ := class_of (n := ch.length) (by omega) h1
    intro hb
    have q := h j hj
    have le := hle j hj
    unfold Bey at q hb
    rw [bey_rounds hn] at hb
    unfold cand at le h2
    generalize sgn * (bound - Dg ch gg base (b + 1 + j)) = gap at *
    generalize sgn * rsum ch gg = sp at *
    have h0 : 0 ≤ gap / sp := Int.ediv_nonneg (by omega) (by omega)
    have hk : gap / sp < (k : Int) := Int.ediv_lt_of_lt_mul hs (by omega)
    have hk2 : (gap / sp + 1).toNat ≤ k := by omega
    have := Nat.mul_le_mul_right ch.length hk2
    omega
theorem fb_hit {ch : List Int} {gg base sgn bound : Int} {b i : Nat} (h : ∀ j, j < i → ¬ Bey sgn bound (Dg ch gg base (b + 1 + j))) (hi : Bey sgn bound (Dg ch gg base (b + 1 + i))) : FB ch gg base b sgn bound (some (b + 1 + i)) :=
  ⟨by omega, hi, fun t h1 h2 => by
    have q := h (t - b - 1) (by omega)
    rw [show b + 1 + (t - b - 1) = t by omega] at q
    exact q⟩
/-- how late at most: by the first class -/
theorem fb_late {ch : List Int} {gg base sgn bound : Int} {b e : Nat} (hn : 1 ≤ ch.length) (hs : 0 < sgn * rsum ch gg) (h : FB ch gg base b sgn bound (some e)) (hg : 0 ≤ sgn * (bound - Dg ch gg base (b + 1))) : e ≤ cand ch gg base b sgn bound 0 := by
  obtain ⟨h1, h2, h3⟩ := h
  refine Nat.le_of_not_lt fun hlt => ?_
  refine h3 (cand ch gg base b sgn bound 0) (by unfold cand; omega) hlt ?_
  unfold Bey cand
  rw [bey_rounds hn]
  rw [Nat.add_zero]
  generalize sgn * (bound - Dg ch gg base (b + 1)) = gap at *
  generalize sgn * rsum ch gg = sp at *
  have h0 : 0 ≤ gap / sp := Int.ediv_nonneg (by omega) (by omega)
  rw [Int.toNat_of_nonneg (by omega), Int.add_mul, Int.one_mul]
  have e := Int.mul_ediv_add_emod gap sp
  have l := Int.emod_lt_of_pos gap hs
  rw [Int.mul_comm] at e
  omega
end Th

/-! Stretches, repetition, heating in the long run: plain Lean. -/
namespace Th

def stt (p : Par) (t : Nat) : Nat × Int × Bool := (t % p.ch.length, deg p t, onn p t)
theorem traj_again {p : Par} {a l : Nat} (h : stt p a = stt p l) : ∀ j, traj p (l + j) = traj p (a + j)
  | 0 => by
    unfold stt at h
    injection h with h1 h2
    injection h2 with h2 h3
    exact Prod.ext h2.symm h3.symm
  | j + 1 => by
    have ih := traj_again h j
    unfold stt at h
    injection h with h1 h2
    show stepT p (l + j) (traj p (l + j)) = stepT p (a + j) (traj p (a + j))
    rw [ih]
    have e : chAt p.ch (l + j) = chAt p.ch (a + j) := by
      unfold chAt
      rw [Nat.add_mod l j, Nat.add_mod a j, h1]
    unfold stepT
    rw [e]
/-- behind a tick all is the same again T ticks later -/
def Per (p : Par) (f T : Nat) : Prop := ∀ t, f ≤ t → traj p (t + T) = traj p t
theorem per_of {p : Par} {a l : Nat} (h : stt p a = stt p l) (hl : a ≤ l) : Per p a (l - a) := fun t ht => by
  have e := traj_again h (t - a)
  rw [show l + (t - a) = t + (l - a) by omega, show a + (t - a) = t by omega] at e
  exact e
theorem Per.times {p : Par} {f T : Nat} (h : Per p f T) {t : Nat} (ht : f ≤ t) : ∀ m, traj p (t + m * T) = traj p t
  | 0 => by simp
  | m + 1 => by
    rw [Nat.succ_mul, ← Nat.add_assoc, h (t + m * T) (by omega)]
    exact h.times ht m
theorem Per.heat {p : Par} {f T : Nat} (h : Per p f T) : ∀ j, Hc p (f + j + T) - Hc p (f + j) = Hc p (f + T) - Hc p f
  | 0 => rfl
  | j + 1 => by
    have ih := h.heat j
    have e : onn p (f + j + T) = onn p (f + j) := congrArg Prod.snd (h (f + j) (by omega))
    have e1 : Hc p (f + (j + 1) + T) = Hc p (f + j + T) + (if onn p (f + j + T) then 1 else 0) := by
      rw [show f + (j + 1) + T = (f + j + T) + 1 by omega]; rfl
    have e2 : Hc p (f + (j + 1)) = Hc p (f + j) + (if onn p (f + j) then 1 else 0) := rfl
    rw [e1, e2, e]
    omega
theorem Per.heats {p : Par} {f T : Nat} (h : Per p f T) {t : Nat} (ht : f ≤ t) : ∀ m : Nat, Hc p (t + m * T) = Hc p t + (m : Int) * (Hc p (f + T) - Hc p f)
  | 0 => by simp
  | m + 1 => by
    have ih := h.heats ht m
    have e := h.heat (t + m * T - f)
    rw [show f + (t + m * T - f) = t + m * T by omega] at e
    rw [Nat.succ_mul, ← Nat.add_assoc, Int.natCast_add, Int.add_mul]
    simp only [Int.natCast_one, Int.one_mul]
    omega
theorem Per.mono {p : Par} {f f' T : Nat} (h : Per p f T) (hf : f ≤ f') : Per p f' T := fun t ht => h t (by omega)

/-! ### the begins of the stretches -/
def Chain (p : Par) (bs : List Nat) : Prop := bs[0]? = some 0 ∧ ∀ i a c, bs[i]? = some a → bs[i + 1]? = some c → Nx p a c
theorem Chain.ne {p : Par} {bs : List Nat} (h : Chain p bs) : 0 < bs.length := by
  have := h.1
  cases bs with
  | nil => simp at this
  | cons a r => simp
theorem at_some {bs : List Nat} {i : Nat} (h : i < bs.length) : ∃ a, bs[i]? = some a := ⟨bs[i], by simp [h]⟩
theorem at_lt {α : Type} {bs : List α} {i : Nat} {a : α} (h : bs[i]? = some a) : i < bs.length := (List.getElem?_eq_some_iff.mp h).1
theorem Chain.lt {p : Par} {bs : List Nat} (h : Chain p bs) {i : Nat} : ∀ {d a c : Nat}, bs[i]? = some a → bs[i + d + 1]? = some c → a < c
  | 0, a, c, h1, h2 => (h.2 i a c h1 h2).1
  | d + 1, a, c, h1, h2 => by
    obtain ⟨m, hm⟩ := at_some (bs := bs) (i := i + d + 1) (by have := at_lt h2; omega)
    have q1 := h.lt (d := d) h1 hm
    have q2 := (h.2 (i + d + 1) m c hm h2).1
    omega
theorem Chain.lt' {p : Par} {bs : List Nat} (h : Chain p bs) {i j a c : Nat} (hij : i < j) (h1 : bs[i]? = some a) (h2 : bs[j]? = some c) : a < c := by
  refine h.lt (i := i) (d := j - i - 1) h1 ?_
  rw [show i + (j - i - 1) + 1 = j by omega]
  exact h2
theorem Chain.le' {p : Par} {bs : List Nat} (h : Chain p bs) {i j a c : Nat} (hij : i ≤ j) (h1 : bs[i]? = some a) (h2 : bs[j]? = some c) : a ≤ c := by
  by_cases e : i = j
  · subst e; rw [h1] at h2; cases h2; exact Nat.le_refl _
  · exact Nat.le_of_lt (h.lt' (by omega) h1 h2)
theorem Chain.single (p : Par) : Chain p [0] := ⟨rfl, fun i a c h1 h2 => by simp at h2⟩
theorem Chain.snoc {p : Par} {bs : List Nat} {b e : Nat} (h : Chain p bs) (hb : bs[bs.length - 1]? = some b) (n : Nx p b e) : Chain p (bs ++ [e]) := by
  have ne := h.ne
  refine ⟨by rw [List.getElem?_append_left ne]; exact h.1, fun i a c h1 h2 => ?_⟩
  by_cases hi : i + 1 < bs.length
  · rw [List.getElem?_append_left (by omega)] at h1
    rw [List.getElem?_append_left hi] at h2
    exact h.2 i a c h1 h2
  · have l2 := at_lt h2
    rw [List.length_append, List.length_singleton] at l2
    have ei : i = bs.length - 1 := by omega
    subst ei
    rw [List.getElem?_append_left (by omega), hb] at h1
    rw [show bs.length - 1 + 1 = bs.length by omega, List.getElem?_append_right (Nat.le_refl _), Nat.sub_self] at h2
    cases h1
    cases h2
    exact n

/-! ### the temperatures at which stretches begin -/
theorem onn_hst (p : Par) : ∀ t, ∃ b, onn p t = hst (deg p t) p.lo p.hi b
  | 0 => ⟨p.on0, rfl⟩
  | t + 1 => ⟨onn p t, rfl⟩
theorem getD_mem {l : List Int} {i : Nat} (h : i < l.length) : l.getD i 0 ∈ l := by
  have e : l.getD i 0 = l[i] := by simp [List.getD, h]
  rw [e]
  exact List.getElem_mem h
theorem chAt_bd {p : Par} (ok : p.Ok) (t : Nat) : -100 ≤ chAt p.ch t ∧ chAt p.ch t ≤ 100 :=
  ok.chb _ (getD_mem (Nat.mod_lt _ (by have := ok.n1; omega)))
theorem nx_range {p : Par} (ok : p.Ok) {b e : Nat} (n : Nx p b e) : (onn p e = true → p.lo - 100 ≤ deg p e ∧ deg p e < p.lo) ∧ (onn p e = false → p.hi < deg p e ∧ deg p e ≤ p.hi + 300) := by
  obtain ⟨h1, r, h2⟩ := n
  obtain ⟨u, rfl⟩ : ∃ u, e = u + 1 := ⟨e - 1, by omega⟩
  have eu := r u (by omega) (by omega)
  rw [← eu] at h2
  obtain ⟨b', hb'⟩ := onn_hst p u
  have c := chAt_bd ok u
  have g1 := ok.g1
  have g2 := ok.g200
  have lh := ok.lohi
  have es : onn p (u + 1) = hst (deg p (u + 1)) p.lo p.hi (onn p u) := rfl
  have ed := deg_succ p u
  cases o : onn p u with
  | false =>
    rw [o] at h2 hb' es ed
    refine ⟨fun h3 => ?_, fun h3 => absurd h3 (by simpa using h2)⟩
    rw [h3] at es
    unfold hst at es hb'
    unfold gon at ed
    simp only [Bool.false_eq_true, if_false] at ed
    by_cases c1 : deg p (u + 1) < p.lo
    · by_cases c2 : deg p u < p.lo
      · rw [if_pos c2] at hb'; cases hb'
      · omega
    · rw [if_neg c1] at es
      split at es <;> cases es
  | true =>
    rw [o] at h2 hb' es ed
    refine ⟨fun h3 => absurd h3 (by simpa using h2), fun h3 => ?_⟩
    rw [h3] at es
    unfold hst at es hb'
    unfold gon at ed
    simp only [if_true] at ed
    by_cases c1 : deg p (u + 1) < p.lo
    · rw [if_pos c1] at es; cases es
    · rw [if_neg c1] at es
      by_cases c2 : deg p (u + 1) > p.hi
      · by_cases c3 : deg p u < p.lo
        · omega
        · rw [if_neg c3] at hb'
          by_cases c4 : deg p u > p.hi
          · rw [if_pos c4] at hb'; cases hb'
          · omega
      · rw [if_neg c2] at es; cases es
/-! ### few stretches -/
theorem pigeon : ∀ (M : Nat) {l : List Nat}, l.Nodup → (∀ x ∈ l, x < M) → l.length ≤ M
  | 0, l, _, h => by
    cases l with
    | nil => simp
    | cons a r => exact absurd (h a List.mem_cons_self) (by omega)
  | M + 1, l, nd, h => by
    by_cases c : M ∈ l
    · have := pigeon M (l := l.erase M) (nd.erase M) (fun x hx => by
        have := (nd.mem_erase_iff).mp hx
        have := h x this.2
        omega)
      rw [List.length_erase_of_mem c] at this
      omega
    · have := pigeon M nd (fun x hx => by
        have := h x hx
        have : x ≠ M := fun e => c (e ▸ hx)
        omega)
      omega
def code (p : Par) (t : Nat) : Nat := if onn p t then (t % p.ch.length) * 100 + (p.lo - 1 - deg p t).toNat else 2400 + (t % p.ch.length) * 300 + (deg p t - p.hi - 1).toNat
def Rng (p : Par) (e : Nat) : Prop := (onn p e = true → p.lo - 100 ≤ deg p e ∧ deg p e < p.lo) ∧ (onn p e = false → p.hi < deg p e ∧ deg p e ≤ p.hi + 300)
theorem code_lt {p : Par} (ok : p.Ok) {t : Nat} (r : Rng p t) : code p t < 9600 := by
  have l := Nat.mod_lt t (show 0 < p.ch.length by have := ok.n1; omega)
  have := ok.n24
  unfold code
  cases o : onn p t
  · have := r.2 o; simp; omega
  · have := r.1 o; simp; omega
theorem code_inj {p : Par} (ok : p.Ok) {t u : Nat} (r : Rng p t) (r' : Rng p u) (h : code p t = code p u) : stt p t = stt p u := by
  have l := Nat.mod_lt t (show 0 < p.ch.length by have := ok.n1; omega)
  have l' := Nat.mod_lt u (show 0 < p.ch.length by have := ok.n1; omega)
  have := ok.n24
  unfold code at h
  unfold stt
  cases o : onn p t <;> cases o' : onn p u <;> rw [o, o'] at h
  · have a := r.2 o
    have b := r'.2 o'
    simp at h
    have e1 : t % p.ch.length = u % p.ch.length := by omega
    have e2 : deg p t = deg p u := by omega
    rw [e1, e2]
  · have a := r.2 o
    have b := r'.1 o'
    simp at h
    omega
  · have a := r.1 o
    have b := r'.2 o'
    simp at h
    omega
  · have a := r.1 o
    have b := r'.1 o'
    simp at h
    have e1 : t % p.ch.length = u % p.ch.length := by omega
    have e2 : deg p t = deg p u := by omega
    rw [e1, e2]
/-- the first m begins have different states -/
def Dis (p : Par) (bs : List Nat) (m : Nat) : Prop := ∀ i j a c, i < j → j < m → bs[i]? = some a → bs[j]? = some c → stt p a ≠ stt p c
theorem few {p : Par} (ok : p.Ok) {bs : List Nat} (h : Chain p bs) {m : Nat} (hm : m ≤ bs.length) (d : Dis p bs m) : m ≤ 9601 := by
  have key := pigeon 9600 (l := ((bs.take m).drop 1).map (code p)) ?_ ?_
  · simp only [List.length_map, List.length_drop, List.length_take] at key
    omega
  · rw [List.nodup_iff_pairwise_ne, List.pairwise_map, List.pairwise_iff_getElem]
    intro i j hi hj hij
    simp only [List.length_drop, List.length_take] at hi hj
    simp only [List.getElem_drop, List.getElem_take]
    intro e
    have hr : ∀ k, (hk : 1 + k < bs.length) → Rng p bs[1 + k] := fun k hk =>
      nx_range ok (h.2 k bs[k] bs[1 + k] (by simp [show k < bs.length by omega]) (by rw [Nat.add_comm k 1]; simp [hk]))
    exact d (1 + i) (1 + j) bs[1 + i] bs[1 + j] (by omega) (by omega) (by simp [show 1 + i < bs.length by omega]) (by simp [show 1 + j < bs.length by omega]) (code_inj ok (hr i (by omega)) (hr j (by omega)) e)
  · intro x hx
    obtain ⟨y, hy, rfl⟩ := List.mem_map.mp hx
    obtain ⟨k, hk, rfl⟩ := List.mem_iff_getElem.mp hy
    simp only [List.length_drop, List.length_take] at hk
    simp only [List.getElem_drop, List.getElem_take]
    exact code_lt ok (nx_range ok (h.2 k bs[k] bs[1 + k] (by simp [show k < bs.length by omega]) (by rw [Nat.add_comm k 1]; simp [show 1 + k < bs.length by omega])))

/-! ### how long a stretch can be -/
def SB : Nat := 50000000000000
/-- a begin: the start, or where the heater has just switched -/
def Beg (p : Par) (b : Nat) : Prop := b = 0 ∨ Rng p b
theorem beg_deg {p : Par} (ok : p.Ok) {b : Nat} (h : Beg p b) : (onn p b = true → -1000000000100 ≤ deg p b) ∧ (onn p b = false → deg p b ≤ 1000000000300) := by
  have := ok.lob
  have := ok.hib
  have := ok.st1
  have := ok.st2
  rcases h with rfl | h
  · have e : deg p 0 = p.st := rfl
    rw [e]
    constructor <;> intro _ <;> omega
  · constructor
    · intro o; have := h.1 o; omega
    · intro o; have := h.2 o; omega
def sgB (p : Par) (b : Nat) : Int := sgnOf (onn p b)
def bdB (p : Par) (b : Nat) : Int := bndOf p (onn p b)
def ggB (p : Par) (b : Nat) : Int := gon p.g (onn p b)
def baB (p : Par) (b : Nat) : Int := deg p b - sumTo p.ch (ggB p b) b
theorem Dg_B (p : Par) (b t : Nat) : Dg p.ch (ggB p b) (baB p b) t = DD p b t := by
  unfold Dg baB DD ggB
  omega
theorem late {p : Par} (ok : p.Ok) {b e : Nat} (hb : Beg p b) (h : FB p.ch (ggB p b) (baB p b) b (sgB p b) (bdB p b) (some e)) : e ≤ b + SB := by
  have n1 := ok.n1
  have n24 := ok.n24
  by_cases hg : sgB p b * (bdB p b - Dg p.ch (ggB p b) (baB p b) (b + 1)) < 0
  · obtain ⟨h1, h2, h3⟩ := h
    have : e ≤ b + 1 := Nat.le_of_not_lt fun hlt => h3 (b + 1) (by omega) hlt hg
    unfold SB
    omega
  · by_cases hs : 0 < sgB p b * rsum p.ch (ggB p b)
    · have l := fb_late n1 hs h (by omega)
      have gp : sgB p b * (bdB p b - Dg p.ch (ggB p b) (baB p b) (b + 1)) ≤ 2000000000500 := by
        rw [Dg_B]
        have c := chAt_bd ok b
        have bd := beg_deg ok hb
        have := ok.g1
        have := ok.g200
        have := ok.lob
        have := ok.hib
        have es : sumTo p.ch (gon p.g (onn p b)) (b + 1) = sumTo p.ch (gon p.g (onn p b)) b + chAt p.ch b + gon p.g (onn p b) := rfl
        unfold DD
        rw [es]
        cases o : onn p b
        · have q := bd.2 o
          unfold sgB bdB sgnOf bndOf gon
          rw [o]
          simp
          omega
        · have q := bd.1 o
          unfold sgB bdB sgnOf bndOf gon
          rw [o]
          simp
          omega
      unfold cand at l
      rw [Nat.add_zero] at l
      generalize sgB p b * (bdB p b - Dg p.ch (ggB p b) (baB p b) (b + 1)) = gap at *
      generalize sgB p b * rsum p.ch (ggB p b) = sp at *
      have q1 : gap / sp ≤ gap := Int.ediv_le_self _ (by omega)
      have q2 : (gap / sp + 1).toNat ≤ 2000000000501 := by omega
      have q3 := Nat.mul_le_mul q2 n24
      unfold SB
      omega
    · obtain ⟨h1, h2, h3⟩ := h
      have : e ≤ b + p.ch.length := Nat.le_of_not_lt fun hlt => by
        refine fb_none (b := b) (bound := bdB p b) (base := baB p b) n1 (show sgB p b * rsum p.ch (ggB p b) ≤ 0 by omega) (fun i hi => h3 (b + 1 + i) (by omega) (by omega)) e h1 h2
      unfold SB
      omega
/-- FB says when the heater switches -/
theorem fb_nx {p : Par} (ok : p.Ok) {b e : Nat} (h : FB p.ch (ggB p b) (baB p b) b (sgB p b) (bdB p b) (some e)) : Nx p b e := by
  obtain ⟨h1, h2, h3⟩ := h
  refine nx_of ok.lohi h1 (fun t a c => ?_) ?_
  · have := h3 t a c; rw [Dg_B] at this; exact this
  · rw [Dg_B] at h2; exact h2
theorem fb_nev {p : Par} (ok : p.Ok) {b : Nat} (h : FB p.ch (ggB p b) (baB p b) b (sgB p b) (bdB p b) none) : Nev p b := by
  refine nev_of ok.lohi (fun t a => ?_)
  have := h t a; rw [Dg_B] at this; exact this
theorem chain_beg {p : Par} (ok : p.Ok) {bs : List Nat} (h : Chain p bs) {i b : Nat} (hi : bs[i]? = some b) : Beg p b := by
  cases i with
  | zero => rw [h.1] at hi; cases hi; exact .inl rfl
  | succ i =>
    obtain ⟨a, ha⟩ := at_some (bs := bs) (i := i) (by have := at_lt hi; omega)
    exact .inr (nx_range ok (h.2 i a b ha hi))
end Th

set_option Elab.async false
set_option linter.all false
set_option maxRecDepth 100000
/-! more rules over the hand layer: a chain of three comparisons, sum of a tuple, enumerate of a tuple -/
namespace Ru
open PySem PySem.Spec PyProof.Rows L2
section
variable {X : Cx} {a b c d : Expr} {ta tb tc td : TE} {pos : Pos}
/-- a op1 b op2 c op3 d, each answer a truth value; behind a False the rest isn't asked -/
def tCh3 (r1 r2 r3 : R2) (ta tb tc td : TE) : TT := fun σ H Q => ta σ H fun x H1 => tb σ H1 fun y H2 => r1 x y H2 fun z H3 => ∃ k, z = .bl k ∧
  (if k = true then tc σ H3 fun u H4 => r2 y u H4 fun z2 H5 => ∃ k2, z2 = .bl k2 ∧ (if k2 = true then td σ H5 fun v H6 => r3 u v H6 fun z3 H7 => ∃ k3, z3 = .bl k3 ∧ Q k3 H7 else Q false H5) else Q false H3)
theorem pt_ch3 {o1 o2 o3 : CmpOp} {r1 r2 r3 : R2} (h1 : OpR X (compareOp o1) r1) (h2 : OpR X (compareOp o2) r2) (h3 : OpR X (compareOp o3) r3) (ha : PE X a ta) (hb : PE X b tb) (hc : PE X c tc) (hd : PE X d td)
    (hm : lastMarks [o1, o2, o3] [b, c, d] = false := by with_unfolding_all rfl) : PT X (.Compare a [o1, o2, o3] [b, c, d] pos) (tCh3 r1 r2 r3 ta tb tc td) :=
  ⟨fun pins s σ H Q I h => isTrue_chain (thn (ha.run pins s σ H _ I h) fun va s1 ⟨x, H1, I1, e1, g1⟩ => test_link (thn (hb.run pins s1 σ H1 _ I1 g1) fun vb s2 ⟨y, H2, I2, e2, g2⟩ =>
    thn (h1 pins s2 σ H2 x y va vb _ I2 e1 e2 g2) fun w1 s3 ⟨z, H3, I3, e3, k, ek, g3⟩ => by
      subst ek; cases e3
      refine wpAny_truthy_bool ?_
      cases k with
      | false => exact ite_ff ⟨H3, I3, g3⟩
      | true =>
        exact ite_tt (test_link (thn (hc.run pins s3 σ H3 _ I3 g3) fun vc s4 ⟨u, H4, I4, e4, g4⟩ => thn (h2 pins s4 σ H4 y u vb vc _ I4 e2 e4 g4) fun w2 s5 ⟨z2, H5, I5, e5, k2, ek2, g5⟩ => by
          subst ek2; cases e5
          refine wpAny_truthy_bool ?_
          cases k2 with
          | false => exact ite_ff ⟨H5, I5, g5⟩
          | true =>
            exact ite_tt (test_last (thn (hd.run pins s5 σ H5 _ I5 g5) fun vd s6 ⟨v, H6, I6, e6, g6⟩ => thn (h3 pins s6 σ H6 u v vc vd _ I6 e4 e6 g6) fun w3 s7 ⟨z3, H7, I7, e7, k3, ek3, g7⟩ => by
              subst ek3; cases e7
              exact wpAny_truthy_bool ⟨H7, I7, g7⟩)))))) hm⟩
/-- the same as a value -/
def tCh3v (r1 r2 r3 : R2) (ta tb tc td : TE) : TE := fun σ H Q => ta σ H fun x H1 => tb σ H1 fun y H2 => r1 x y H2 fun z H3 => ∃ k, z = .bl k ∧
  (if k = true then tc σ H3 fun u H4 => r2 y u H4 fun z2 H5 => ∃ k2, z2 = .bl k2 ∧ (if k2 = true then td σ H5 fun v H6 => r3 u v H6 Q else Q (.bl false) H5) else Q (.bl false) H3)
theorem pe_ch3 {o1 o2 o3 : CmpOp} {r1 r2 r3 : R2} (h1 : OpR X (compareOp o1) r1) (h2 : OpR X (compareOp o2) r2) (h3 : OpR X (compareOp o3) r3) (ha : PE X a ta) (hb : PE X b tb) (hc : PE X c tc) (hd : PE X d td)
    (hm : lastMarks [o1, o2, o3] [b, c, d] = false := by with_unfolding_all rfl) : PE X (.Compare a [o1, o2, o3] [b, c, d] pos) (tCh3v r1 r2 r3 ta tb tc td) :=
  ⟨fun pins s σ H Q I h => Compare_chain (thn (ha.run pins s σ H _ I h) fun va s1 ⟨x, H1, I1, e1, g1⟩ => chain_link (thn (hb.run pins s1 σ H1 _ I1 g1) fun vb s2 ⟨y, H2, I2, e2, g2⟩ =>
    thn (h1 pins s2 σ H2 x y va vb _ I2 e1 e2 g2) fun w1 s3 ⟨z, H3, I3, e3, k, ek, g3⟩ => by
      subst ek; cases e3
      refine wpAny_truthy_bool ?_
      cases k with
      | false => exact ite_ff ⟨.bl false, H3, I3, rfl, g3⟩
      | true =>
        exact ite_tt (chain_link (thn (hc.run pins s3 σ H3 _ I3 g3) fun vc s4 ⟨u, H4, I4, e4, g4⟩ => thn (h2 pins s4 σ H4 y u vb vc _ I4 e2 e4 g4) fun w2 s5 ⟨z2, H5, I5, e5, k2, ek2, g5⟩ => by
          subst ek2; cases e5
          refine wpAny_truthy_bool ?_
          cases k2 with
          | false => exact ite_ff ⟨.bl false, H5, I5, rfl, g5⟩
          | true => exact ite_tt (chain_last (thn (hd.run pins s5 σ H5 _ I5 g5) fun vd s6 ⟨v, H6, I6, e6, g6⟩ => h3 pins s6 σ H6 u v vc vd Q I6 e4 e6 g6)))))) hm⟩
/-- sum(t), t a tuple of ints -/
def rSumT (K : PySem.W.Frag) : List V → Hp → VK → Prop := fun vs H Q => ∃ (p : Addr) (ns : List Int), vs = [V.ref p] ∧ SqT K H p (ns.map V.int) ∧ Q (.int ns.sum) H
theorem cr_sumT (hc : X.calm = true) : CallR X (.builtin "sum") (rSumT X.K) := fun pins s σ H vs us Q I r h => by
  obtain ⟨p, ns, rfl, hs, g⟩ := h
  obtain ⟨its, rv, ht, _⟩ := I.tuple hs
  rw [Vals.ref1 r]
  obtain ⟨xs, ex⟩ := rv.ints.allInts.items
  have en : numsOf (intItems xs).toList = ns := by rw [← ex]; exact rv.ints.numsOf
  rw [nums_intItems] at en
  rw [ex] at ht
  refine PySem.W.ktm_sumG (I.ok.hd hc) ht fun h' tk t' hk => ⟨.int _, H, I.kept hk, ⟨t', ?_⟩, g⟩
  rw [preSum_eq, List.take_of_length_le (by simp), en]
end
/-! ### enumerate(t), t a tuple -/
theorem enum_newT (l : Addr) (items : Array Value) (n : Nat) (dct : Option Addr) (sl : Array (Option Value)) :
    Meets (Builtin.«enumerate.__new__» ⟨[.type "enumerate", .ref l], []⟩) (fun _ R s => s.heap.get? l = some { cls := .type "tuple", dict := dct, data := .seq items n, slots := sl } ∧
      R (.ok (.ret (.ref (s.heap.push { cls := .type "tuple_iterator", data := .fields #[.ref l, .int 0 0] }).objs.size)))
        { s with heap := (s.heap.push { cls := .type "tuple_iterator", data := .fields #[.ref l, .int 0 0] }).push { cls := .type "enumerate", data := .fields #[.none, .bool false, .ref s.heap.objs.size, rawInt 0, .none, .none] } }) :=
  .of_wp fun prog w A R s hyp => by
    obtain ⟨hp, g, d, tk, os⟩ := s; obtain ⟨hl, hyp⟩ := hyp
    have hsub := sub_enumerate
    have isT : Heap.IsTuple (Shared.heap ⟨hp, g, d, tk, os⟩) l items := ⟨_, hl, rfl, n, rfl⟩
    wp_walk using AutoSeq1.wpAny_loadPart' hl
    refine wpAny_stack_any fun st => wpAny_pure ?_
    split
    · rename_i c _ _ _ _ _
      cases (c == Value.type "enumerate")
      · wp_walk using AutoSeq1.wpAny_loadPart' hl, wpAny_pyIter_tuple isT
        exact ⟨_, rfl, hyp⟩
      · wp_walk using AutoSeq1.wpAny_loadPart' hl, wpAny_pyIter_tuple isT
        exact ⟨_, rfl, hyp⟩
    · wp_walk using AutoSeq1.wpAny_loadPart' hl, wpAny_pyIter_tuple isT
      exact ⟨_, rfl, hyp⟩
section
variable {prog : Program} {w : World} {A : Around} {E : Value → Shared → Prop} {s : Shared}
theorem enum_tuple {l : Addr} {items : Array Value} {Q : Value → Shared → Prop} (ht : s.heap.IsTuple l items)
    (h : ∀ h', IsEnum h' (s.heap.objs.size + 1) s.heap.objs.size 0 .none → h'.IsTupleIter s.heap.objs.size l 0 → (∀ b o, s.heap.get? b = some o → h'.get? b = some o) → Q (.ref (s.heap.objs.size + 1)) { s with heap := h' }) :
    wpAny (model prog w) A (call (.type "enumerate") [.ref l]) Q E s := by
  obtain ⟨⟨c, dct, dt, sl⟩, hl, hc, n, hd⟩ := ht
  obtain rfl : c = .type "tuple" := hc
  obtain rfl : dt = .seq items n := hd
  refine callType_new F.called_enumerate (by decide) (F.typeCall_enumerate_1 _) (F.newCall_enumerate_1 _) (fun obj => F.args_object_init_2 obj _) F.entry_enumerate_new (enum_newT l items n dct sl) ⟨hl, ?_⟩
  generalize ei : ({ cls := .type "tuple_iterator", data := .fields #[.ref l, .int 0 0] } : Obj) = oi
  have hz : (s.heap.push oi).objs.size = s.heap.objs.size + 1 := Heap.size_push ..
  show _ ∧ _
  rw [hz]
  have g : IsEnum ((s.heap.push oi).push { cls := .type "enumerate", data := .fields #[.none, .bool false, .ref s.heap.objs.size, rawInt 0, .none, .none] }) (s.heap.objs.size + 1) s.heap.objs.size 0 .none := by
    have q := Heap.get?_push_size (s.heap.push oi) (o := { cls := .type "enumerate", data := .fields #[.none, .bool false, .ref s.heap.objs.size, rawInt 0, .none, .none] }) rfl
    rw [hz] at q; exact q
  subst ei
  exact ⟨⟨_, g, rfl⟩, h _ g ⟨_, Heap.get?_push_of_some _ (Heap.get?_push_size _ rfl), rfl, rfl⟩ fun b o y => Heap.get?_push_of_some _ (Heap.get?_push_of_some _ y)⟩
end
/-- the tuple of n items at a, each item in a new pair -/
def IteT (K : PySem.W.Frag) (a : Addr) (n : Nat) : It :=
  ⟨fun i H => i < n ∧ ∃ xs : List V, SqT K H a xs ∧ xs.length = n, fun i H v H' => ∃ T x, v = .ref T ∧ H T = none ∧ H' = upd H T (.tup [.int (i : Nat), x]) ∧ ∀ xs, SqT K H a xs → xs[i]? = some x, fun i H => n ≤ i ∧ ∃ xs : List V, SqT K H a xs ∧ xs.length = n⟩
theorem turn_enumT {P : Program} {w : World} {K : PySem.W.Frag} {elts : List Expr} {kk : Nat} {tpos : Pos} (a n e it : Addr) :
    Turn P w K (.Tuple elts kk tpos) (IteT K a n) [e, it] e (fun i h => (∃ old, IsEnum h e it ((i : Nat) : Int) old) ∧ h.IsTupleIter it a i ∧ e ≠ it ∧ a ≠ it ∧ e ≠ a ∧ i ≤ n) where
  mem := by simp
  obj := fun i h ⟨⟨old, he⟩, ⟨o, ho, hc, hd⟩, _⟩ b hb => by
    rcases List.mem_cons.mp hb with rfl | hb
    · exact ⟨_, he, fun v q => nomatch q⟩
    · obtain rfl := List.mem_singleton.mp hb
      exact ⟨o, ho, fun v q => by rw [hd] at q; cases q⟩
  keep := fun i h h' ⟨⟨old, he⟩, ⟨o, ho, hc, hd⟩, hne⟩ k => ⟨⟨old, k e (by simp) _ he⟩, ⟨o, k it (by simp) _ ho, hc, hd⟩, hne⟩
  item := by
    intro X hP hw hK hc i pins s σ H E I hf st hg
    subst hP hw hK
    obtain ⟨⟨old, he⟩, hit, hne, hai, hea, hin⟩ := st
    obtain ⟨hlt0, xs, hq, hn⟩ := hg
    obtain ⟨x, hx⟩ : ∃ x, xs[i]? = some x := ⟨xs[i], by simp [hn, hlt0]⟩
    obtain ⟨its, rv, ht, hz⟩ := I.tuple hq
    obtain ⟨u, hu, ru⟩ := rv.get hx
    have el : e < s.heap.objs.size := Heap.lt_size he
    have il : it < s.heap.objs.size := by obtain ⟨_, q, _⟩ := hit; exact Heap.lt_size q
    have D := Draws.tuple (prog := X.prog) (w := X.w) (A := X.A.in1) (I.ok.hd hc) it a hai its.toArray
    have hlt : i < its.toArray.size := by
      have := (List.getElem?_eq_some_iff.mp hu).1
      simpa using this
    refine wpAny_pyNext_enum_itemD D he ⟨hit, ht⟩ hlt hne (by simp [hne, hea]) fun x' h' tk hP ho st' hT hsz hk => ?_
    have ex : x' = u := by
      have q : its[i]? = some x' := by simpa using hP
      rw [hu] at q; exact (Option.some.inj q).symm
    subst ex
    refine ⟨_, rfl, wpAny_letOwnedTupleGo_enum (s := { s with heap := h', toks := tk + 1 }) ho fun h2 he2 sb => ?_⟩
    have T2 : h2.get? s.heap.objs.size = some { cls := .type "tuple", data := .seq #[.int i tk, x'] } := (sb.2 _ (Nat.ne_of_gt el)).trans hT
    have new : ObjOk X.prog X.w (upd H s.heap.objs.size (.tup [.int (i : Nat), x])) h2 s.heap.objs.size (.tup [.int (i : Nat), x]) := ⟨by show 2 ≤ sizeLine; decide, [.int i tk, x'], .cons ⟨_, rfl⟩ (.cons ru .nil), ⟨_, T2, rfl, _, rfl⟩⟩
    have I1 : Inv X pins σ (upd H s.heap.objs.size (.tup [.int (i : Nat), x])) { s with heap := h2, toks := tk + 1 } :=
      I.turnedNew (ch := [e, it]) (fun b ob hb q => by
        simp only [List.mem_cons, List.not_mem_nil, or_false, not_or] at hb
        exact (sb.2 b hb.1).trans (hk b ob hb.1 hb.2 q)) hf (Nat.le_refl _) new
    refine ⟨.ref s.heap.objs.size, _, I1, rfl, ⟨_, x, rfl, I.hok.fresh (Nat.le_refl _), rfl, fun ys hy => by rw [I.tuple_inj hy hq]; exact hx⟩, ⟨⟨x', ?_⟩, ?_, hne, hai, hea, hlt0⟩, fun b hb => ?_⟩
    · have q : ((i + 1 : Nat) : Int) = (i : Int) + 1 := by omega
      rw [q]; exact he2
    · obtain ⟨⟨o, ho1, ho2, ho3⟩, _⟩ := st'
      exact ⟨o, (sb.2 it (Ne.symm hne)).trans ho1, ho2, ho3⟩
    · have bl : b < s.heap.objs.size := by
        rcases List.mem_cons.mp hb with rfl | hb
        · exact el
        · obtain rfl := List.mem_singleton.mp hb
          exact il
      rw [upd_ne (Nat.ne_of_lt bl)]
      exact (hf b hb).1
  done := by
    intro X hP hw hK hc i pins s σ H E I hf st hg
    subst hP hw hK
    obtain ⟨⟨old, he⟩, hit, hne, hai, hea, hin⟩ := st
    obtain ⟨hni, xs, hq, hn⟩ := hg
    obtain ⟨its, rv, ht, hz⟩ := I.tuple hq
    obtain ⟨f0, f1, f2, f3, f4, f5⟩ := hf it (by simp)
    have hl := rv.length
    have D := Draws.tuple (prog := X.prog) (w := X.w) (A := X.A.in1) (I.ok.hd hc) it a hai its.toArray
    have ei : i = its.toArray.size := by simp; omega
    subst ei
    exact wpAny_pyNext_enum_endD D he ⟨hit, ht⟩ fun h' eb => ⟨rfl, I.turned (t' := s.toks) (fun b o hb q => eb b o hb q) f0 f1 f3 f4 f5⟩
  self := fun A i s Q E ⟨⟨_, he⟩, _⟩ h => wpAny_pyIter_enum he h
def iEnumT (K : PySem.W.Frag) (ta : TA) : TI := fun σ H R => ta σ H fun vs H1 => ∃ a xs, vs = [.ref a] ∧ SqT K H1 a xs ∧ R (IteT K a xs.length) H1
theorem pi_enumT {X : Cx} {e : Expr} {ta : TA} {p pos tpos : Pos} {elts : List Expr} {kk : Nat} (hg : Gl X "enumerate") (hm : X.mg "enumerate" = none) (ha : PA X [e] ta) (hs : starEach [e] X.env = [(false, eval e X.env)] := by rfl) :
    PI X (.Tuple elts kk tpos) (.Call (.Name "enumerate" p) [e] [] pos) (iEnumT X.K ta) := by
  refine ⟨fun pins s σ H R I h => Call_ (ld_blt I hg hm boot_enumerate (PyProof.Rows.callWith_type1 (thn (ha.run pos pins s σ H _ I h) fun us s1 ⟨vs, H1, I1, r1, q1⟩ => ?_) hs rfl))⟩
  obtain ⟨a, xs, ex, hq, q⟩ := q1
  subst ex
  rw [Vals.ref1 r1]
  obtain ⟨its, rv, ht, hz⟩ := I1.tuple hq
  have al : a < s1.heap.objs.size := by obtain ⟨_, g, _⟩ := ht; exact Heap.lt_size g
  refine enum_tuple ht fun h' he hit hk => wpAny_pyIter_enum he ?_
  have I2 : Inv X pins σ H1 { s1 with heap := h' } := I1.kept (t' := s1.toks) hk
  refine ⟨s1.heap.objs.size + 1, [s1.heap.objs.size + 1, s1.heap.objs.size], _, _, H1, rfl, I2, turn_enumT a xs.length (s1.heap.objs.size + 1) s1.heap.objs.size, ⟨⟨.none, he⟩, hit, Nat.succ_ne_self _, Nat.ne_of_lt al, Nat.ne_of_gt (Nat.lt_succ_of_lt al), Nat.zero_le _⟩, fun b hb => ?_, q⟩
  have hle : s1.heap.objs.size ≤ b := by
    rcases List.mem_cons.mp hb with rfl | hb
    · exact Nat.le_succ _
    · obtain rfl := List.mem_singleton.mp hb
      exact Nat.le_refl _
  exact I1.fpOk hle (I1.hok.fresh hle)
/-- the loop over enumerate(t): one turn at a time -/
theorem for_enumT {K : PySem.W.Frag} {a : Addr} {xs : List V} {g : TG} {tb : TS} {D : Ends} {σ : L2.St} {H : Hp} (Pv : Nat → L2.St → Hp → Prop) (h0 : Pv 0 σ H) (hl : ∀ i σ H, Pv i σ H → SqT K H a xs)
    (hs : ∀ i x σ H T, xs[i]? = some x → Pv i σ H → H T = none → g (.ref T) σ (upd H T (.tup [.int (i : Nat), x])) fun σ2 H2 => tb { D with nx := Pv (i + 1), ct := Pv (i + 1), bk := D.nx } σ2 H2) (hd : ∀ σ H, Pv xs.length σ H → D.nx σ H) :
    ∃ W : Nat → Nat → L2.St → Hp → Prop, (∃ m, W 0 m σ H) ∧ ∀ i m σ H, W i m σ H →
      ((IteT K a xs.length).stop i H ∧ D.nx σ H) ∨ ((IteT K a xs.length).go i H ∧ ∃ N : L2.St → Hp → Prop, (∀ σ' H', N σ' H' → ∃ m', m' < m ∧ W (i + 1) m' σ' H') ∧ ∀ x H', (IteT K a xs.length).yld i H x H' → g x σ H' fun σ2 H2 => tb { D with nx := N, ct := N, bk := D.nx } σ2 H2) := by
  refine ⟨fun i m σ H => m = xs.length - i ∧ i ≤ xs.length ∧ Pv i σ H, ⟨_, rfl, Nat.zero_le _, h0⟩, fun i m σ H ⟨em, hi, pr⟩ => ?_⟩
  subst em
  have q := hl i σ H pr
  by_cases hlt : i < xs.length
  · refine .inr ⟨⟨hlt, xs, q, rfl⟩, Pv (i + 1), fun σ' H' p' => ⟨_, by omega, rfl, hlt, p'⟩, fun v H' ⟨T, x, e1, e2, e3, e4⟩ => ?_⟩
    subst e1 e3
    exact hs i x σ H T (e4 xs q) pr e2
  · obtain rfl : i = xs.length := by omega
    exact .inl ⟨⟨Nat.le_refl _, xs, q, rfl⟩, hd σ H pr⟩
end Ru

/-! min(xs, default=None) of a list of ints; a dict whose keys are tuples (int, int, bool) -/
namespace Ru
open PySem PySem.Spec PyProof.Rows L2
theorem reads_ints {h : Heap} : ∀ {vs : List Value} {ns : List Int}, IntsAre vs ns → ∃ as, ReadsAll h vs (ns.map PyData.int) as
  | _, _, .nil => ⟨_, .nil⟩
  | _, _, .cons n t r => let ⟨_, q⟩ := reads_ints r; ⟨_, .cons (.int n t) q⟩
theorem depth_ints : ∀ ns : List Int, PyData.depthAll (ns.map PyData.int) = 0
  | [] => rfl
  | n :: r => by show max 0 (PyData.depthAll (r.map PyData.int)) = 0; rw [depth_ints r]; rfl
theorem alike_ints (ns : List Int) : PySem.W.AlikeAll (ns.map PyData.int) := by
  refine ⟨fun x hx y hy => ?_, fun x hx => ?_⟩
  · obtain ⟨a, _, rfl⟩ := List.mem_map.mp hx
    obtain ⟨b, _, rfl⟩ := List.mem_map.mp hy
    rfl
  · obtain ⟨a, _, rfl⟩ := List.mem_map.mp hx
    exact fun q => nomatch q
section
variable {X : Cx}
def rMinD (K : PySem.W.Frag) : List V → List V → Hp → VK → Prop := fun vs zs H Q => ∃ (p : Addr) (ns : List Int) (d : V), vs = [V.ref p] ∧ zs = [d] ∧ SqL K H p (ns.map V.int) ∧ (ns = [] → Q d H) ∧ ∀ m, m ∈ ns → (∀ y ∈ ns, m ≤ y) → Q (.int m) H
theorem fold_min : ∀ (r : List Int) (n : Int), (r.foldl min n = n ∨ r.foldl min n ∈ r) ∧ r.foldl min n ≤ n ∧ ∀ y ∈ r, r.foldl min n ≤ y
  | [], n => ⟨.inl rfl, Int.le_refl _, fun y h => by cases h⟩
  | k :: r, n => by
    obtain ⟨a, b, c⟩ := fold_min r (min n k)
    simp only [List.foldl_cons, List.mem_cons]
    refine ⟨?_, by omega, ?_⟩
    · rcases a with a | a
      · rw [a]; by_cases q : n ≤ k
        · left; omega
        · right; left; omega
      · right; right; exact a
    · intro y hy
      rcases hy with rfl | hy
      · omega
      · exact c y hy
theorem cr_minD (hc : X.calm = true) (hu : X.A.units + 1 < cLine) : CallRK X (.builtin "min") [Str.ofString "default"] (rMinD X.K) := fun pins s σ H vs zs us ws Q I r rz h => by
  obtain ⟨p, ns, d, rfl, rfl, hs, g0, g1⟩ := h
  obtain ⟨its, rv, hl, _⟩ := I.list hs
  obtain rfl := Vals.ref1 r
  obtain ⟨w1, rfl, e1⟩ := vals1 rz
  obtain ⟨as, ra⟩ := reads_ints (h := s.heap) rv.ints
  refine PySem.W.min_list_default (I.ok.hd hc) hl.isList (by simpa using ra) (alike_ints ns) (by rw [depth_ints]; omega) (fun e h' tk hk => ?_) fun y ys i v h' tk bs e hv rd hk => ?_
  · have en : ns = [] := by simpa using e
    exact ⟨d, H, I.kept hk, e1, g0 en⟩
  · cases ns with
    | nil => cases e
    | cons n r =>
      simp only [List.map_cons, List.cons.injEq] at e
      obtain ⟨rfl, rfl⟩ := e
      rw [PySem.W.minD_ints] at rd
      generalize em : r.foldl min n = m at rd
      have fm := fold_min r n
      rw [em] at fm
      cases rd with
      | int _ t =>
        refine ⟨.int m, H, I.kept hk, ⟨t, rfl⟩, g1 m ?_ fun y hy => ?_⟩
        · rcases fm.1 with q | q
          · rw [q]; exact List.mem_cons_self
          · exact List.mem_cons_of_mem _ q
        · rcases List.mem_cons.mp hy with rfl | hy
          · exact fm.2.1
          · exact fm.2.2 y hy
end
/-! ### the dict of states -/
abbrev SKey := Int × Int × Bool
def skV (k : SKey) : List V := [.int k.1, .int k.2.1, .bl k.2.2]
def skL (k : SKey) : List Leaf := [.num k.1, .num k.2.1, .num (if k.2.2 = true then 1 else 0)]
theorem skL_inj {a b : SKey} (h : skL a = skL b) : a = b := by
  obtain ⟨a1, a2, a3⟩ := a
  obtain ⟨b1, b2, b3⟩ := b
  simp only [skL, List.cons.injEq, Leaf.num.injEq, and_true] at h
  obtain ⟨h1, h2, h3⟩ := h
  subst h1 h2
  cases a3 <;> cases b3 <;> simp at h3 <;> rfl
/-- entries: the key, the address of its tuple, the number stored -/
abbrev SEnt := SKey × Addr × Int
abbrev SRel : List SEnt → List (List Leaf × Addr × Value) → Prop := Paired fun p q => q.1 = skL p.1 ∧ q.2.1 = p.2.1 ∧ RelV (.int p.2.2) q.2.2
def lookS (es : List SEnt) (k : SKey) : Option Int := (es.find? fun e => decide (e.1 = k)).map (·.2.2)
def SDict (P : Program) (w : World) (a : Addr) (es : List SEnt) : HO := .ext fun h => (a == sysModules) = false ∧ es.length ≤ sizeLine ∧ ∃ xs, SRel es xs ∧ ∃ o ds ep, h.get? a = some o ∧ o.ExactDict ∧ o.data = .dict ds ep ∧ ds.toList = xs.map (entryOfKey (tupleKind (leafKind P w))) ∧ (xs.map (·.1)).Nodup
section
variable {P : Program} {w : World}
theorem sdict_ok {H : Hp} {h : Heap} {a : Addr} {es : List SEnt} (lo : (a == sysModules) = false) (hz : es.length ≤ sizeLine) {xs : List (List Leaf × Addr × Value)} (r : SRel es xs) {o : Obj} {ds : Array DictEntry} {ep : Nat} (g : h.get? a = some o) (x : o.ExactDict) (d : o.data = .dict ds ep) (e : ds.toList = xs.map (entryOfKey (tupleKind (leafKind P w)))) (nd : (xs.map (·.1)).Nodup) : ObjOk P w H h a (SDict P w a es) :=
  ⟨⟨lo, hz, xs, r, o, ds, ep, g, x, d, e, nd⟩, ⟨o, g⟩, fun h1 h2 ⟨lo, hz, xs, r, o, ds, ep, g, t⟩ k => ⟨lo, hz, xs, r, o, ds, ep, k o g, t⟩⟩
theorem skey_is {H : Hp} {h : Heap} (ok : HOk P w H h) {b : Addr} {k : SKey} (e : H b = some (.tup (skV k))) : (tupleKind (leafKind P w)).is h (skL k) b := by
  obtain ⟨_, its, rv, o, g, hc, n, hd⟩ := ok b _ e
  refine ⟨o, its.toArray, n, g, hc, hd, ?_⟩
  unfold skV at rv
  cases rv with
  | cons r1 rr =>
    cases rr with
    | cons r2 rr =>
      cases rr with
      | cons r3 rr =>
        cases rr
        obtain ⟨t1, rfl⟩ := r1
        obtain ⟨t2, rfl⟩ := r2
        obtain rfl := r3
        refine .cons ?_ (.cons ?_ (.cons ?_ .nil))
        · exact decide_eq_true rfl
        · exact decide_eq_true rfl
        · exact decide_eq_true rfl
/-- the tuples of the keys stand -/
def KeysAt (H : Hp) (es : List SEnt) : Prop := ∀ e ∈ es, H e.2.1 = some (.tup (skV e.1))
theorem srel_keys : ∀ {es : List SEnt} {xs : List (List Leaf × Addr × Value)}, SRel es xs → (∀ x ∈ xs, ∃ e ∈ es, x.1 = skL e.1 ∧ x.2.1 = e.2.1)
  | _, _, .nil => fun x h => by cases h
  | _, _, .cons (a := e) (b := y) r t => fun x h => by
    rcases List.mem_cons.mp h with rfl | h
    · exact ⟨e, List.mem_cons_self, r.1, r.2.1⟩
    · obtain ⟨e', m, q⟩ := srel_keys t x h
      exact ⟨e', List.mem_cons_of_mem _ m, q⟩
theorem srel_at : ∀ {es : List SEnt} {xs : List (List Leaf × Addr × Value)}, SRel es xs → ∀ k, (lookS es k = none ∧ atKey xs (skL k) = none) ∨ ∃ i p, lookS es k = some i ∧ atKey xs (skL k) = some p ∧ RelV (.int i) p.2
  | _, _, .nil => fun k => .inl ⟨rfl, rfl⟩
  | _, _, .cons (a := e) (b := y) r t => fun k => by
    unfold lookS atKey
    rw [List.find?_cons, List.find?_cons]
    by_cases c : e.1 = k
    · subst c
      rw [decide_eq_true rfl, decide_eq_true r.1]
      exact .inr ⟨_, _, rfl, rfl, r.2.2⟩
    · have c2 : ¬ y.1 = skL k := fun q => c (skL_inj (r.1.symm.trans q))
      rw [decide_eq_false c, decide_eq_false c2]
      exact srel_at t k
theorem srel_snoc : ∀ {es : List SEnt} {xs : List (List Leaf × Addr × Value)} {e : SEnt} {x : List Leaf × Addr × Value}, SRel es xs → x.1 = skL e.1 ∧ x.2.1 = e.2.1 ∧ RelV (.int e.2.2) x.2.2 → SRel (es ++ [e]) (xs ++ [x])
  | _, _, _, _, .nil, h => .cons h .nil
  | _, _, _, _, .cons r t, h => .cons r (srel_snoc t h)
theorem sdict_get {H : Hp} {h : Heap} (ok : HOk P w H h) {a : Addr} {es : List SEnt} (e : H a = some (SDict P w a es)) (ks : KeysAt H es) : (a == sysModules) = false ∧ es.length ≤ sizeLine ∧ ∃ xs, SRel es xs ∧ h.DictOfH (tupleKind (leafKind P w)) a xs := by
  obtain ⟨⟨lo, hz, xs, r, o, ds, ep, g, x, d, l, nd⟩, _, _⟩ := ok a _ e
  refine ⟨lo, hz, xs, r, o, ds, ep, g, x, d, l, fun x hx => ?_, nd⟩
  obtain ⟨e', m, q1, q2⟩ := srel_keys r x hx
  rw [q1, q2]
  exact skey_is ok (ks e' m)
end
section
variable {X : Cx} {pos : Pos}
def tDNewS (P : Program) (w : World) : TE := fun _ H Q => ∀ p, H p = none → Q (.ref p) (upd H p (SDict P w p []))
theorem pe_dnewS : PE X (.Dict [] [] pos) (tDNewS X.prog X.w) := ⟨fun pins s σ H Q I h =>
  wpAny_Dict_empty ⟨.ref s.heap.objs.size, _, I.laid (a := s.heap.objs.size) (o := SDict X.prog X.w s.heap.objs.size []) (t' := s.toks) (fun _ _ q => Heap.get?_push_of_some _ q) (Nat.le_refl _)
    (sdict_ok (beq_eq_false_iff_ne.mpr (Ne.symm (Nat.ne_of_lt I.big))) (Nat.zero_le _) .nil (ep := 0) (ds := #[]) (Heap.get?_push_size _ rfl) ⟨rfl, rfl, rfl⟩ rfl rfl List.nodup_nil), rfl, h _ (I.hok.fresh (Nat.le_refl _))⟩⟩
/-- what a look into the dict asks -/
def AskS (P : Program) (w : World) (x y : V) (H : Hp) (R : Addr → Addr → List SEnt → SKey → Prop) : Prop := ∃ (a b : Addr) (es : List SEnt) (k : SKey), x = .ref a ∧ y = .ref b ∧ H b = some (.tup (skV k)) ∧ H a = some (SDict P w a es) ∧ KeysAt H es ∧ R a b es k
theorem op_inSD (hu : X.A.units + 1 < cLine) : OpR X (compareOp .In) (fun y x H Q => AskS X.prog X.w x y H fun _ _ es k => Q (.bl (lookS es k).isSome) H) := fun pins s σ H y x u v Q I ry rx ⟨a, b, es, k, ex, ey, hb, ha, ks, g⟩ => by
  subst ex ey
  cases rx
  cases ry
  obtain ⟨lo, hz, xs, r, dd⟩ := sdict_get I.hok ha ks
  refine wpAny_in_heap (tupleKind_room_in1 hu) (skey_is I.hok hb) lo dd ?_
  rcases srel_at r k with ⟨q1, q2⟩ | ⟨i, p, q1, q2, q3⟩
  · have g' : Q (.bl (lookS es k).isSome) H := g
    rw [q1] at g'
    rw [q2]
    exact ⟨.bl false, H, I.tok _, rfl, g'⟩
  · have g' : Q (.bl (lookS es k).isSome) H := g
    rw [q1] at g'
    rw [q2]
    exact ⟨.bl true, H, I.tok _, rfl, g'⟩
theorem ix_sd (hu : X.A.units + 1 < cLine) : IxR X (fun x y H Q => AskS X.prog X.w x y H fun _ _ es k => ∃ i, lookS es k = some i ∧ Q (.int i) H) := fun value slice pins s σ H x y v u Q I rx ry ⟨a, b, es, k, ex, ey, hb, ha, ks, i, hi, g⟩ hs => by
  subst ex ey
  cases rx
  cases ry
  obtain ⟨lo, hz, xs, r, dd⟩ := sdict_get I.hok ha ks
  rcases srel_at r k with ⟨q1, q2⟩ | ⟨i', p, q1, q2, q3⟩
  · rw [q1] at hi; cases hi
  · rw [q1] at hi
    obtain rfl := Option.some.inj hi
    exact tail_any dd.typeIs slot_dict_getitem.lookup (wpAny_getItem_heap (tupleKind_room_in1 hu) (skey_is I.hok hb) dd q2 ⟨_, _, I.tok _, q3, g⟩) hs
theorem set_sd (hu : X.A.units + 1 < cLine) : PSet X (fun o i v H Q => AskS X.prog X.w o i H fun a b es k => ∃ n, v = .int n ∧ lookS es k = none ∧ es.length < sizeLine ∧ Q (upd H a (SDict X.prog X.w a (es ++ [(k, b, n)])))) := fun pins s σ H o i v ov iv u Q I ro ri rv ⟨a, b, es, k, ex, ey, hb, ha, ks, n, en, hn, hl, g⟩ => by
  subst ex ey en
  cases ro
  cases ri
  obtain ⟨lo, hz, xs, r, dd⟩ := sdict_get I.hok ha ks
  have lx : xs.length ≤ sizeLine := by rw [← Paired.length r]; exact hz
  refine wpAny_setItem_heap (hsz := lx) (tupleKind_room_in1 hu) (skey_is I.hok hb) dd fun h' dd' sb => ?_
  rcases srel_at r k with ⟨q1, q2⟩ | ⟨i', p, q1, q2, q3⟩
  · rw [storedH_new q2] at dd'
    obtain ⟨q, ds, ep, hq, h2, h3, h4, _, h5⟩ := dd'
    refine ⟨_, d_write I (by rw [ha]; exact True.intro) sb ⟨q, hq⟩ (sdict_ok lo (by rw [List.length_append]; exact hl) (srel_snoc r ⟨rfl, rfl, rv⟩) hq h2 h3 h4 h5), g⟩
  · rw [q1] at hn; cases hn
end
end Ru

set_option maxHeartbeats 2000000
/-! an own exception over own bases over ValueError: def __init__(self, index): super().__init__(f'..{index}'); self.index = index -/
namespace PySem
namespace IxX
open PySem.W PySem.Calls PyProof.Rows PySem.HandSPX
/-! ### the text of __init__ -/
def iA (p1 p2 : Pos) : Arguments := { posonlyargs := [], args := [{ arg := "self", annotation := none, pos := p1 }, { arg := "index", annotation := none, pos := p2 }], vararg := none, kwonlyargs := [], kw_defaults := [], kwarg := none, defaults := [] }
def iB (msg : Str) (k : Nat) (r1 r2 r3 r4 r5 r6 r7 r8 r9 q1 q2 q3 q4 : Pos) : List Stmt :=
  [.Expr (.Call (.Attribute (.Call (.Name "super" r1) [] [] r2) "__init__" r3) [.JoinedStr [.Constant (.str msg) k r4, .FormattedValue (.Name "index" r5) (-1) none r6] r7] [] r8) r9,
   .Assign [.Attribute (.Name "self" q1) "index" q2] (.Name "index" q3) q4]
def iS : Scope := { kind := .function, names := [(PySem.Str.ofString "self", .local), (PySem.Str.ofString "index", .local), (PySem.Str.ofString "__class__", .free), (PySem.Str.ofString "super", .globalImplicit)], isGenerator := false, isCoroutine := false, more := [] }
/-- what the written part says of such a class, named nm, at C, and of its __init__, at fI -/
structure IxTxt (P : Program) (K : Frag) (mg : Str → Option Value) (nm : Str) (C fI : Addr) : Prop where
  gC : mg nm = some (.ref C)
  cls : ∃ nm q N bs bm sn sub ab col dd k0 k1 k2 k3 k5, K.lookup C = some (excClassObj nm q C N bs bm true sn sub ab col dd k0 k1 k2 k3 k5 "ValueError.__new__") ∧ refsVE bm = true
  sa : findIn K (.ref C) "__setattr__" = some (some (.builtin "object.__setattr__"))
  ga : findIn K (.ref C) "__getattribute__" = some (some (.builtin "BaseException.__getattribute__"))
  gg : findIn K (.ref C) "__getattr__" = some none
  noN : findIn K (.ref C) "index" = some none
  iC : findIn K (.ref C) "__init__" = some (some (.ref fI))
  tC : typeIn K (.ref fI) = some (.type "function")
  kC : keepIn K (.ref C) = true
  exC : subIn K (.ref C) (.type "BaseException") = some true
  tyC : typeIn K (.ref C) = some (.type "type")
  hdC : hasDictIn K C = true
  mr : mroIn K C (.ref C) = some true
  su : ks_superIn K C C "__init__" = some (some (.builtin "ValueError.__init__"))
  ve : subIn K (.ref C) (.type "ValueError") = some true
  any : nsIn K cStatics "thirdparty.any" = some none
  noS : mg "super" = none
  top : (P.main.scope.names.lookup ("super" : Str)).isSome = false
  fn : ∃ (oc : Value) (od : Option Addr) (qual : Str) (doc pm : Value) (an : Option Addr) (cda cc : Addr) (ct : Value) (osl : Array (Option Value)) (msg : Str) (k : Nat) (p1 p2 r1 r2 r3 r4 r5 r6 r7 r8 r9 q1 q2 q3 q4 : Pos),
    (r3.endLine == r8.line) = true ∧ K.lookup fI = some ⟨oc, od, .func (ksFn "__init__" qual (iA p1 p2) (iB msg k r1 r2 r3 r4 r5 r6 r7 r8 r9 q1 q2 q3 q4) iS .none .none doc pm an (.ref cda) ct cc), osl⟩ ∧ codeIn K (.ref cda) qual = true ∧ msg.length ≤ 1000 ∧
    (∃ (ccl : Value) (cdd : Option Addr) (vs : Array Value) (ccs : Array (Option Value)) (file : Str) (tf : Tok), K.lookup cda = some ⟨ccl, cdd, .fields vs, ccs⟩ ∧ vs[2]? = some (.str file tf) ∧ ((P.main.file : Str) == file) = true) ∧
    (∃ (cl : Value) (cld : Option Addr) (csl : Array (Option Value)), K.lookup cc = some ⟨cl, cld, .cell (some (.ref C)), csl⟩)
theorem one_size (v : Value) : [v].length ≤ sizeLine := by
  rw [sizeLine_eq]
  exact (by decide : 1 ≤ 16777216)
theorem kept_but {K : Frag} {h h' : Heap} {x : Addr} (X : K.In h) (hx : K.lookup x = none) (k : ∀ b o, b ≠ x → h.get? b = some o → h'.get? b = some o) : K.In h' := fun a o e =>
  k a o (fun z => by rw [z, hx] at e; cases e) (X a o e)
theorem ns_but {h h' : Heap} {L x : Addr} {m : Str → Option Value} (n : h.Ns L m) (hx : L ≠ x) (k : ∀ b o, b ≠ x → h.get? b = some o → h'.get? b = some o) : h'.Ns L m := by
  obtain ⟨o, es, ep, h1, h2⟩ := n
  exact ⟨o, es, ep, k _ _ hx h1, h2⟩
/-- what __init__ leaves of a fresh exception at x -/
structure InitEnd (h h' : Heap) (x C dx t1 : Addr) (v : Value) : Prop where
  keep : ∀ b o, b ≠ x → h.get? b = some o → h'.get? b = some o
  obj : h'.get? x = some { cls := .ref C, dict := some dx, data := .fields #[.ref t1, .none, .none, .none, .bool false, .none] }
  dbig : h.objs.size ≤ dx
  dne : dx ≠ x
  ns : h'.Ns1 dx (fun y => if y = "index" then some v else none)
section
variable {prog : Program} {w : World} {A : Around} {E : Value → Shared → Prop} {h : Heap} {g : Array GenState} {d : Drawn} {t : Nat} {os : OsState}
/-- the bound __init__ of ValueError is called: nothing of it is told but that the exception stands anew -/
theorem call_mw {nm q : Str} {C N u e t0 : Addr} {bs bm : List Value} {hdct : Bool} {sn : List Str} {sub : List Value} {ab : Bool} {col : Option Bool} {dd : Option Addr} {k0 k1 k2 k3 k5 : Option Value} {rest : List Value} {Q : Value → Shared → Prop}
    (hC : h.get? C = some (excClassObj nm q C N bs bm hdct sn sub ab col dd k0 k1 k2 k3 k5 "ValueError.__new__")) (he : h.get? e = some (excO C t0)) (hu : h.get? u = some (kxs_mw "ValueError.__init__" e)) (hz : rest.length ≤ sizeLine)
    (hq : ∀ h' t1, (∀ b o, b ≠ e → h.get? b = some o → h'.get? b = some o) → h'.get? e = some (excO C t1) → Q .none ⟨h', g, d, t, os⟩) :
    wpAny (model prog w) A (call (.ref u) rest) Q E ⟨h, g, d, t, os⟩ := by
  have F := F.excBase_ValueError
  refine wpAny_call (codeAny_of_tree ?_)
  show wpAny _ A.in1 (callAny (.ref u) ⟨rest, []⟩) _ _ _
  simp only [callAny]
  refine wpAny_bind (wpAny_load hu ?_)
  have isMw : (Value.type "method-wrapper" == Value.type "method"
      || Value.type "method-wrapper" == Value.type "builtin_function_or_method"
      || Value.type "method-wrapper" == Value.type "method-wrapper") = true := by decide
  simp only [kxs_mw, isMw, if_true]
  refine KFB.if_so (by decide) ?_
  refine wpAny_bind (check_bound_init F.toExcCallFacts hC he rfl ?_)
  refine wpAny_bind (wpAny_pure (wpAny_pure ?_))
  refine ⟨plainId_quiet F.init.plain _, codeAny_builtin F.initEntry ?_⟩
  exact exc_init_tree (cls := .ref C) (t0 := t0) (dv := none) (c2 := .none) (c3 := .none) (b4 := .bool false) he hz (fun h' k e' _ => hq h' h.objs.size k e')
end
section
variable {prog : Program} {w : World} {A : Around} {E : Value → Shared → Prop} {R : Result → Shared → Prop} {s : Shared} {K : Frag} {mg : Str → Option Value} {nm : Str} {C fI : Addr}
theorem ix_init (T : IxTxt prog K mg nm C fI) {x t0 : Addr} {i : Int} {ti : Tok} (X : K.In s.heap) (G : s.heap.Ns mainGlobals mg) (B : ∃ mb, s.heap.Ns builtinsNs mb ∧ ∀ y : Str, y ≠ "__name__" → mb y = bootBuiltins y) (hlim : s.heap.NoLimit)
    (hx : s.heap.get? x = some (excO C t0)) (hnx : K.lookup x = none) (hroom : A.depth < recursionLimit) (hi : i.natAbs.log2 < 1920)
    (hq : ∀ h' tk dx t1, InitEnd s.heap h' x C dx t1 (.int i ti) → R (.ok (.ret .none)) { s with heap := h', toks := tk }) :
    codeAny (model prog w) A (.call (.ref fI) ⟨[.ref x, .int i ti], []⟩) R s := by
  obtain ⟨oc, od, qual, doc, pm, an, cda, cc, ct, osl, msg, kk, p1, p2, r1, r2, r3, r4, r5, r6, r7, r8, r9, q1, q2, q3, q4, hline, ho, hcd, hmsg, ⟨ccl, cdd, vs, ccs, file, tf, hcode, hvs, hfile⟩, cl, cld, csl, hcell⟩ := T.fn
  obtain ⟨nm', q', N, bs, bm, sn, sub, ab, col, dd, k0, k1, k2, k3, k5, hC, hbm⟩ := T.cls
  have hcl : clsIn K C = some { name := nm', bases := bs, mro := .ref C :: bm, ns := N, qualname := q', hasDict := true, slotNames := sn, subclasses := sub, abstract := ab, collection := col, hasDel := false } := by unfold clsIn; rw [hC] <;> rfl
  obtain ⟨mb, Bn, Bb⟩ := B
  obtain ⟨hh, g, d, tk, os⟩ := s
  refine ks_codeAny_call_defAt (binds := [("self", .ref x), ("index", .int i ti)]) hroom (X _ _ ho) rfl hlim (codeRec_of X hcd) rfl (BindsTo.of_eq (by first | rfl | with_unfolding_all rfl)) (fun y hy => ?_) (fun y hy => ?_) (fun h₁ hns k => ?_)
  · have hy : y ∈ iS.names := hy
    have z : ∀ u ∈ iS.names, u.2 ≠ NameKind.cell := by decide
    exact z y hy
  · simp only [List.mem_cons, List.not_mem_nil, or_false] at hy
    rcases hy with rfl | rfl
    · rfl
    · rfl
  have X₁ : K.In h₁ := X.keeps k
  have hxL : hh.objs.size ≠ x := Nat.ne_of_gt (Heap.lt_size hx)
  refine ks_wpAt_execs_cons ?_
  refine ks_wpAt_Expr_any ?_
  rw [arm_eval_Call]
  refine wpAt_bind ?_
  refine ks_wpAt_super_base (env := callEnv _ _ _) (by rfl) (by rfl) (by decide) rfl (X₁ _ _ ho) rfl rfl rfl (X₁ _ _ hcode) rfl hvs hfile T.top ?_
  obtain ⟨oD, hD1, hD2⟩ : ∃ oD, h₁.get? C = some oD ∧ oD.data = .cls { name := nm', bases := bs, mro := .ref C :: bm, ns := N, qualname := q', hasDict := true, slotNames := sn, subclasses := sub, abstract := ab, collection := col, hasDel := false } := ⟨_, X₁ _ _ hC, rfl⟩
  have hx₁ := k _ _ hx
  have hxC : x ≠ C := fun z => by rw [z, hC] at hnx; cases hnx
  refine ks_loadName_global (by rfl) (by rfl) (loadGlobal_builtin (mg := mg) (mb := mb) (v := .type "super") (Heap.Ns.keeps G k) T.noS (Heap.Ns.keeps Bn k) ((Bb _ (by decide +kernel)).trans (by first | boot_by_name | rfl | kernel_rfl)) ⟨rfl, ?_⟩)
  refine wpAny_loadName_free (by rfl) (by rfl) (by rfl) ⟨_, X₁ _ _ hcell, rfl⟩ ?_
  refine wpAny_loadName_local (by rfl) (by rfl) hns (by rfl) ?_
  refine ks_wpAny_isType_cls hD1 hD2 ⟨rfl, ?_⟩
  refine ks_wpAny_call_super hD1 hD2 hx₁ rfl (fun c e => by cases e) (looks_mroIn X₁ T.mr) (fun h₂ e k₂ => ?_)
  have X₂ : K.In h₂ := X₁.keeps k₂
  have hx₂ := k₂ _ _ hx₁
  have hI : Looks (model prog w) h₂ (isInstance (.ref x) (.type "ValueError")) true :=
    Looks.andThen (W.InstAt.type (C := C) (od := none) ⟨hx₂, rfl, rfl, trivial⟩) (looks_subIn X₂ T.ve)
  have hmr : Looks (model prog w) h₂ (mroOf (.ref C)) (Value.ref C :: bm) := (looks_clsIn X₂ hcl).andThen .now
  have hsu : alongIn K "__init__" (((Value.ref C :: bm).dropWhile (· != .ref C)).drop 1) = some (some (.builtin "ValueError.__init__")) := by
    have z := T.su
    unfold ks_superIn at z
    rw [hcl] at z
    exact z
  refine wpAt_of_wpAny (wpAny_bind (wpAny_standAt ?_))
  have hpos : methodCallPos true (.Call (.Name "super" r1) [] [] r2) (callEnv (ksFn "__init__" qual (iA p1 p2) (iB msg kk r1 r2 r3 r4 r5 r6 r7 r8 r9 q1 q2 q3 q4) iS .none .none doc pm an (.ref cda) ct cc) hh.objs.size fI) r3 r8 = pure r8 := by
    unfold methodCallPos
    simp [hline]
  unfold methodCall
  refine wpAny_bind (wpAny_holding ?_)
  refine kxs_getMethod kxs_ValueError e (looks_opaque X₂ T.any) hmr rfl X₂ hsu hI hxC (by decide) ?_
  refine wpAny_bind (wpAny_of_eq hpos ?_)
  have hC₂ := X₂ _ _ hC
  have huN : ∀ (b : Addr) (o : Obj), h₂.get? b = some o → (h₂.push (kxs_mw "ValueError.__init__" x)).get? b = some o := fun b o e => Heap.get?_push_of_some _ e
  refine kxs_callWith (i := "ValueError.__init__") (x := x) rfl ?_
  refine evalArgs_plain (rest := []) (spliced_cons ?_)
  refine wpAny_JoinedStr (pos := r7) ?_
  have lt : (Str.ofString (toString i)).length ≤ 1921 := by
    rw [ofString_length]
    exact int_text_length_le (k := 1920) (by decide) hi
  have z0 : (Str.empty ++ msg).length ≤ sizeLine := by
    rw [Str.length_append, sizeLine_eq]
    have : (Str.empty).length = 0 := rfl
    omega
  have z1 : (Str.empty ++ msg ++ Str.ofString (toString i)).length ≤ sizeLine := by
    rw [Str.length_append, Str.length_append, sizeLine_eq]
    have : (Str.empty).length = 0 := rfl
    omega
  refine Calls.Constant_str ⟨msg, _, rfl, z0, ?_⟩
  refine wpAny_FormattedValue_plain (wpAny_Name (wpAny_loadName_local (m := fun y => List.lookup y [(Str.ofString "self", Value.ref x), (Str.ofString "index", Value.int i ti)].reverse) (by rfl) (by rfl) (Heap.Ns.keeps (Heap.Ns.keeps hns k₂) huN) (by rfl) ?_) (by decide))
  · refine wpAny_formatField_int hi ⟨_, _, rfl, z1, z1, spliced_nil ⟨Heap.get?_push_at rfl rfl, ?_⟩⟩
    refine call_mw (t0 := t0) (huN _ _ hC₂) (huN _ _ hx₂) (Heap.get?_push_at rfl rfl) (one_size _) (fun h₃ t1 k₃ hx₃ => ?_)
    have nuL : ∀ {L : Addr}, L ≠ x → ∀ {m : Str → Option Value}, h₁.Ns L m → h₃.Ns L m := fun hL m n => ns_but (Heap.Ns.keeps (Heap.Ns.keeps n k₂) huN) hL k₃
    have X₃ : K.In h₃ := kept_but (X₂.keeps huN) hnx k₃
    have hn₃ := nuL hxL hns
    refine wpAt_of_wpAny (wpAny_execs_cons (plainObj_wpAny_Assign_Attribute ?_))
    refine wpAny_Name (wpAny_loadName_local (v := .int i ti) (by rfl) (by rfl) hn₃ (by rfl) ?_) (by decide)
    refine wpAny_Name (wpAny_loadName_local (v := .ref x) (by rfl) (by rfl) hn₃ (by rfl) ?_) (by decide)
    refine set_plain X₃ (ox := excO C t1) (od := none) ⟨hx₃, rfl, rfl, trivial⟩ T.sa ?_
    refine exc_osa X₃ hx₃ hcl (show refsVE (.ref C :: bm) = true from hbm) rfl T.noN (fun h₄ tk₄ dx k₄ dn dne hx₄ hn₄ => ?_)
    refine wpAny_execs_nil ?_
    refine hq h₄ tk₄ dx t1 ⟨fun b o hb e => k₄ b o hb (k₃ b o hb (huN _ _ (k₂ _ _ (k b o e)))), hx₄, ?_, dne, hn₄⟩
    exact Nat.le_of_lt (Nat.lt_of_lt_of_le hn₃.lt dn)
/-- a made one -/
structure OwnMade (h h' : Heap) (e C d : Addr) (v : Value) : Prop where
  keep : ∀ b o, h.get? b = some o → h'.get? b = some o
  new : h.objs.size ≤ e
  obj : ∃ oe vs, h'.get? e = some oe ∧ oe.cls = .ref C ∧ oe.dict = some d ∧ oe.data = .fields vs ∧ vs[1]? = some .none
  dbig : h.objs.size ≤ d
  dne : d ≠ e
  ns : h'.Ns1 d (fun y => if y = "index" then some v else none)
theorem ix_made (T : IxTxt prog K mg nm C fI) {i : Int} {ti : Tok} (X : K.In s.heap) (G : s.heap.Ns mainGlobals mg) (B : ∃ mb, s.heap.Ns builtinsNs mb ∧ ∀ y : Str, y ≠ "__name__" → mb y = bootBuiltins y) (hlim : s.heap.NoLimit) (hroom : A.depth + 1 < recursionLimit) (hi : i.natAbs.log2 < 1920)
    (hq : ∀ h' tk e d, OwnMade s.heap h' e C d (.int i ti) → R (.ok (.ret (.ref e))) { s with heap := h', toks := tk }) :
    codeAny (model prog w) A (.call (.ref C) ⟨[.int i ti], []⟩) R s := by
  obtain ⟨nm, q, N, bs, bm, sn, sub, ab, col, dd, k0, k1, k2, k3, k5, hC, hbm⟩ := T.cls
  obtain ⟨hp, g, dr, tk, os⟩ := s
  have k : ∀ b o, hp.get? b = some o → ((hp.push (kdv_tup [.int i ti])).push (excO C hp.objs.size)).get? b = some o := fun b o e => Heap.get?_push_of_some _ (Heap.get?_push_of_some _ e)
  have hget : ((hp.push (kdv_tup [.int i ti])).push (excO C hp.objs.size)).get? (hp.objs.size + 1) = some (excO C hp.objs.size) := by heap_get
  have hnx : K.lookup (hp.objs.size + 1) = none := by
    cases e : K.lookup (hp.objs.size + 1) with
    | none => rfl
    | some o =>
      have z : hp.get? (hp.objs.size + 1) = some o := X _ _ e
      exact absurd (Nat.lt_of_succ_lt (Heap.lt_size z)) (Nat.lt_irrefl _)
  obtain ⟨mb, Bn, Bb⟩ := B
  refine call_own F.excBase_ValueError (fun X => refsVE_contains X bm hbm) (X _ _ hC) (looks_findIn X T.iC) (fun self => bind_fn X self T.tC) (one_size _) ?_
  refine ix_init (s := ⟨(hp.push (kdv_tup [.int i ti])).push (excO C hp.objs.size), g, dr, tk, os⟩) T (X.keeps k) (Heap.Ns.keeps G k) ⟨mb, Heap.Ns.keeps Bn k, Bb⟩ (hlim.keeps k) hget hnx ?_ hi fun h' tk' dx t1 ⟨k', hx, dn, dne, hns⟩ => ?_
  · show A.depth + 1 < recursionLimit
    exact hroom
  · have old : ∀ b o, hp.get? b = some o → h'.get? b = some o := fun b o e => k' b o (Nat.ne_of_lt (Nat.lt_succ_of_lt (Heap.lt_size e))) (k b o e)
    have z : hp.objs.size + 1 + 1 ≤ dx := by
      first
        | (simpa only [Heap.size_push] using dn)
        | exact dn
        | (have q := dn; rw [Heap.size_push, Heap.size_push] at q; exact q)
    exact ⟨rfl, hq h' tk' (hp.objs.size + 1) dx ⟨old, Nat.le_succ _, ⟨_, _, hx, rfl, rfl, rfl, rfl⟩, Nat.le_trans (Nat.le_trans (Nat.le_succ _) (Nat.le_succ _)) z, dne, hns⟩⟩
end
end IxX
end PySem
namespace L2
open PySem PySem.Spec PyProof.Rows
theorem relO_ix {v : V} {v' : Value} (r : RelV v v') (f : Str) : RelO (List.lookup f [(("index" : Str), v)]) (if f = "index" then some v' else none) := by
  by_cases hw : f = "index"
  · subst hw
    rw [if_pos rfl]
    have q : List.lookup ("index" : Str) [(("index" : Str), v)] = some v := by simp [List.lookup]
    rw [q]
    exact r
  · rw [if_neg hw]
    have qw : (f == ("index" : Str)) = false := by simpa using hw
    have q2 : List.lookup f [(("index" : Str), v)] = none := by simp [List.lookup, qw]
    rw [q2]
    trivial
section
variable {X : Cx} {nm : Str} {C fI : Addr}
/-- InvalidX(e) -/
def tMkIx (C : Addr) (ta : TA) : St → Hp → XK → Prop := fun σ H Q => ta σ H fun vs H1 => ∃ i : Int, vs = [.int i] ∧ i.natAbs.log2 < 1920 ∧ ∀ d, H1 d = none → Q (.ref C) (some d) (upd H1 d (.xd [(("index" : Str), .int i)]))
theorem pmk_ix {a : Expr} {ta : TA} {p pos : Pos} {k : Nat} (T : PySem.IxX.IxTxt X.prog X.K X.mg nm C fI) (hr : Room k X.A) (ha : PA X [a] ta) (hg : Gl X nm) (hdb : (nm == ("__debug__" : Str)) = false := by decide)
    (he : starEach (a :: []) X.env = (false, eval a X.env) :: starEach [] X.env := by rfl) (hpl : (backTo pos (starEach [] X.env)).any (·.1) = false := by rfl) :
    PMk X (.Call (.Name nm p) [a] [] pos) (tMkIx C ta) := by
  intro pins s σ H Q I h
  refine wpAny_Call_Name_kw (ld_glob I hg T.gC ?_ hdb)
  refine PySem.W.callWith_K (h₀ := X.base) I.ok.mod.kin T.kC (thn (ha.run pos pins s σ H _ I h) fun us s1 hh => ?_) he hpl
  obtain ⟨vs, H1, I1, r1, i, ev, hi, q1⟩ := hh
  subst ev
  refine ⟨I1.kIn, ?_⟩
  cases r1 with
  | cons rv rn =>
    rename_i v' us'
    cases rn
    obtain ⟨ti, rfl⟩ := rv
    show wpAny _ _ (call (.ref C) [.int i ti]) _ _ _
    have hlim := I1.nolimit
    have hglob := I1.ok.mod.glob.keeps I1.bk
    have hbl : ∃ mb, s1.heap.Ns builtinsNs mb ∧ ∀ y : Str, y ≠ "__name__" → mb y = bootBuiltins y := by
      obtain ⟨mb, b1, b2⟩ := I1.ok.mod.blt
      exact ⟨mb, b1.keeps I1.bk, b2⟩
    have hkin := I1.kIn
    obtain ⟨hp, g, dr, tk, os⟩ := s1
    refine wpAny_call (PySem.IxX.ix_made T hkin hglob hbl hlim (by have := hr.dp; omega) hi fun h' tk' e d M => ?_)
    show MkP X pins σ Q (.ref e) ⟨h', g, dr, tk', os⟩
    obtain ⟨oe, fv, hoe, hc, hd, hdat, h1⟩ := M.obj
    have hns := M.ns
    obtain ⟨G', g1, g2⟩ := restrict h' fun b => decide (b ≠ e)
    have gk : ∀ b, b ≠ e → G'.get? b = h'.get? b := fun b hb => g1 b (decide_eq_true hb)
    have ge : G'.get? e = none := g2 e (by simp)
    have old : ∀ b o, hp.get? b = some o → G'.get? b = some o := fun b o q => (gk b (Nat.ne_of_lt (Nat.lt_of_lt_of_le (Heap.lt_size q) M.new))).trans (M.keep b o q)
    have ob : ObjOk X.prog X.w (upd H1 d (.xd [(("index" : Str), .int i)])) G' d (.xd [(("index" : Str), .int i)]) :=
      ⟨_, hns.at (fun o q => (gk d M.dne).trans q), fun f => relO_ix (v := .int i) (v' := .int i ti) ⟨ti, rfl⟩ f⟩
    have J : Inv X pins σ (upd H1 d (.xd [(("index" : Str), .int i)])) ⟨G', g, dr, tk', os⟩ := I1.laid (t' := tk') old M.dbig ob
    refine ⟨e, oe, fv, ⟨G', g, dr, tk', os⟩, _, .ref C, some d, rfl, J, fun b o q => ?_, ge, hoe, ⟨hc, hd⟩, hdat, h1, ?_, rfl, I1.bare, raises_own T.exC T.tyC, q1 d (I1.hok.fresh M.dbig)⟩
    · by_cases hb : b = e
      · have q' : G'.get? b = some o := q
        rw [hb, ge] at q'; cases q'
      · exact (gk b hb).symm.trans q
    · rw [upd_ne (Ne.symm M.dne)]
      exact I1.hok.fresh M.new
/-- raise InvalidX(e) -/
def tRaiseIx (C : Addr) (W : WX) (ta : TA) : TS := fun _ σ H => tMkIx C ta σ H fun cls d H' => W cls d σ H'
theorem ps_raiseIx {a : Expr} {ta : TA} {W : WX} {p pos pos2 : Pos} {k : Nat} (hc : X.calm = true) (T : PySem.IxX.IxTxt X.prog X.K X.mg nm C fI) (hr : Room k X.A) (tk : Takes X W) (ha : PA X [a] ta) (hg : Gl X nm) (hdb : (nm == ("__debug__" : Str)) = false := by decide)
    (he : starEach (a :: []) X.env = (false, eval a X.env) :: starEach [] X.env := by rfl) (hpl : (backTo pos (starEach [] X.env)).any (·.1) = false := by rfl) :
    PS X (.Raise (some (.Call (.Name nm p) [a] [] pos)) none pos2) (tRaiseIx C W ta) := ps_raise hc tk (pmk_ix T hr ha hg hdb he hpl)
/-- e.index, e the exception that the suite holds (at a; its class cls, its dict d) -/
def tByIx (C : Addr) (a : Addr) (cls : Value) (d : Option Addr) (te : TE) : TE := fun σ H Q => te σ H fun x H1 => x = .ref a ∧ cls = .ref C ∧ ∃ (dd : Addr) (v : V), d = some dd ∧ H1 dd = some (.xd [(("index" : Str), v)]) ∧ Q v H1
theorem pe_byIx {a : Addr} {oe : Obj} {cls : Value} {d : Option Addr} {pn : List (Addr × Obj)} {e : Expr} {te : TE} {pos : Pos} (T : PySem.IxX.IxTxt X.prog X.K X.mg nm C fI) (hz : Zc cls d oe) (hf : ∃ vs, oe.data = .fields vs) (he : PE (X.suite a ((a, oe) :: pn)) e te)
    (hb : attributeBase e "index" X.env (eval e X.env) = eval e X.env := by rfl) :
    PE (X.suite a ((a, oe) :: pn)) (.Attribute e "index" pos) (tByIx C a cls d te) := by
  refine ⟨fun pins s σ H Q I h => ?_⟩
  refine attr_of hb (thn (he.run pins s σ H _ I h) fun u s1 hh => ?_)
  obtain ⟨x, H1, I1, rx, ex, ec, dd, v, ed, ea, q⟩ := hh
  subst ex
  obtain rfl : u = Value.ref a := rx
  subst ec
  subst ed
  obtain ⟨ha, _⟩ := I1.pin (a, oe) (List.mem_append_left _ List.mem_cons_self)
  obtain ⟨vs, hd⟩ := hf
  have hx : ObjOk X.prog X.w H1 s1.heap dd (.xd [(("index" : Str), v)]) := I1.hok dd _ ea
  obtain ⟨mA, hns, hr⟩ := hx
  obtain ⟨od, ho, hl⟩ := lookIn_ns hns
  have l : List.lookup ("index" : Str) [(("index" : Str), v)] = some v := by simp [List.lookup]
  obtain ⟨u, hu, ru⟩ := RelO.some_of (v := v) (o := mA "index") (by rw [← l]; exact hr "index")
  have J : PySem.W.InstAt s1.heap a oe C (some od) := ⟨ha, hz.1, by unfold PySem.W.notCls; rw [hd] <;> rfl, by rw [hz.2]; exact ho⟩
  exact HandSPX.exc_get I1.kIn J T.ga T.gg T.exC (PySem.W.findObj_own T.hdC T.noN rfl (by rw [hl, hu])) (handed_of ru) ⟨v, H1, I1.tok _, ru, q⟩
end
end L2

set_option maxHeartbeats 4000000
/-! isinstance of a caught error that has a dict; count of a list of flat things; a lambda's call in a try whose suite reads the state -/
namespace Ru
open PySem PySem.Spec PyProof.Rows L2 LamX
/-! ### isinstance(e, c) -/
/-- the error has no dict, or one that is tracked -/
def DictAt (d : Option Addr) (H : Hp) : Prop := d = none ∨ ∃ (dd : Addr) (fs : List (Str × V)), d = some dd ∧ H dd = some (.xd fs)
def rIsX (K : PySem.W.Frag) (a : Addr) (cls : Value) (d : Option Addr) : List V → Hp → VK → Prop := fun xs H Q =>
  ∃ (D : Addr) (c : V) (cv : Value) (b : Bool), cls = .ref D ∧ ExcC K D ∧ DictAt d H ∧ xs = [.ref a, c] ∧ (∀ u, RelV c u → u = cv) ∧ PySem.W.kitOne K (.ref D) cv = some b ∧ Q (.bl b) H
theorem call_isX {X : Cx} {a : Addr} {cls : Value} {d : Option Addr} {oe : Obj} {pn : List (Addr × Obj)} (hz : Zc cls d oe) (hf : ∃ vs, oe.data = .fields vs) : CallR (X.suite a ((a, oe) :: pn)) (.builtin "isinstance") (rIsX X.K a cls d) := by
  intro pins s σ H xs us Q I r h
  obtain ⟨D, c, cv, b, rfl, C, hd, rfl, hcv, e, q⟩ := h
  obtain ⟨v1, us', rfl, r1, rr⟩ : ∃ v1 us', us = v1 :: us' ∧ RelV (.ref a) v1 ∧ Vals [c] us' := by cases r with | cons p q => exact ⟨_, _, rfl, p, q⟩
  obtain ⟨v2, rfl, r2⟩ := rr.one
  obtain rfl : v1 = Value.ref a := r1
  obtain rfl := hcv _ r2
  have hp := (I.pin (a, oe) (List.mem_append_left _ List.mem_cons_self)).1
  obtain ⟨vs, hv⟩ := hf
  obtain ⟨cd, hcd, _⟩ := PySem.W.any_some C.hd
  have hcl : (PySem.W.clsIn X.K D).isSome = true := by rw [hcd]; rfl
  have fin : ∀ od : Option Obj, PySem.W.InstAt s.heap a oe D od → wpAny (model X.prog X.w) (X.suite a ((a, oe) :: pn)).A (call (.builtin "isinstance") [.ref a, v2]) (EP (X.suite a ((a, oe) :: pn)) pins σ Q) (X.suite a ((a, oe) :: pn)).xe s := fun od J =>
    PySem.W.kia_one (PySem.W.kitx_exc (od := od) hcl C.hg C.hk C.hs C.ha C.hn C.ht C.hm) I.kIn J e (fun z => nomatch z) fun tk => ⟨.bl b, H, I.kept (t' := tk) fun _ _ z => z, rfl, q⟩
  rcases hd with rfl | ⟨dd, fs, rfl, hx⟩
  · exact fin none ⟨hp, hz.1, by unfold PySem.W.notCls; rw [hv] <;> rfl, by rw [hz.2]; trivial⟩
  · have ob : ObjOk X.prog X.w H s.heap dd (.xd fs) := I.hok dd _ hx
    obtain ⟨mA, hns, hr⟩ := ob
    obtain ⟨od, ho, hl⟩ := lookIn_ns hns
    exact fin (some od) ⟨hp, hz.1, by unfold PySem.W.notCls; rw [hv] <;> rfl, by rw [hz.2]; exact ho⟩
/-! ### xs.count(y) -/
def rCntF (K : PySem.W.Frag) : V → List V → Hp → VK → Prop := fun x xs H Q => ∃ (p : Addr) (ys : List V) (y : V), x = .ref p ∧ xs = [y] ∧ SqL K H p ys ∧ flatV y = true ∧ ys.all flatV = true ∧ Q (.int (ys.countP (fun z => eqV z y) : Nat)) H
theorem cnt_flat {y : V} : ∀ {ys : List V} {us : List Value}, Vals ys us → ys.all flatV = true → us.countP (eqU y) = ys.countP (fun z => eqV z y)
  | _, _, .nil, _ => rfl
  | _, _, .cons r rs, h => by
    simp only [List.all_cons, Bool.and_eq_true] at h
    rw [List.countP_cons, List.countP_cons, cnt_flat rs h.2, eqU_of r h.1]
theorem mt_countF {X : Cx} : MtR X "list.count" (rCntF X.K) := by
  intro pins s σ H x xs v us Q I rx rxs h
  obtain ⟨p, ys, y, rfl, rfl, hs, fy, fys, q⟩ := h
  obtain rfl : v = Value.ref p := rx
  obtain ⟨uy, rfl, ry⟩ := rxs.one
  obtain ⟨its, rv, ⟨⟨cls, dd, data, sl⟩, n, ho, hc, hdn, hd⟩, hlen⟩ := I.list hs
  obtain rfl : cls = .type "list" := hc
  obtain rfl : data = .seq its.toArray n := hd
  refine call_meets PySem.F.slot_list_count ⟨_, ho, rfl⟩ PySem.F.entry_list_count (PySem.F.args_list_count_2 _ _)
    (SeqAt.list_countAt p its.toArray n dd sl uy (eqU y)) ⟨ho, fun u hu => mem_eqAt ry fy rv fys u (by simpa using hu), ?_⟩
  refine ⟨.int (ys.countP (fun z => eqV z y) : Nat), H, I.tok _, ⟨s.toks, ?_⟩, q⟩
  rw [show its.toArray.toList = its by simp, cnt_flat rv fys]
/-! ### a lambda without parameters: made, handed to a def, called there in a try -/
section
variable {X : Cx} {pins : List (Addr × Obj)} {σ : L2.St} {H : Hp} {s : Shared}
/-- the call: what the try around takes may rest on the state at the call -/
def tAct (f c' : Addr) (q : Str) (tl : XK → Hp → VK → Prop) (W : WX) : TE := fun σz Hz Q =>
  σz[0]? = some (some (.ref f)) ∧ Hz c' = some (CodeO c' q) ∧ ∃ Ez : XK, (∀ cls d Hy, Ez cls d Hy → W cls d σz Hy) ∧ tl Ez Hz Q
theorem pe_call_lam {sg : Scope} {g f c' : Addr} {cdg pm ctv : Value} {Ng : List Str} {qg a : Str} {params : Arguments} {body : Expr} {scope : Scope} {k : Nat} {pn : List (Addr × Obj)} {xe : Value → Shared → Prop} {W : WX} {t : XK → TE} {pa pc : Pos}
    (I : Inv X pins σ H s) (L : LamS X.env.scope scope)
    (lam : s.heap.get? f = some (PySem.W.kla_obj "<lambda>" (X.env.qual ++ "<lambda>") params body scope (cloFrom X.env.cells scope.names []) pm c' ctv)) (nf : H f = none) (nfr : f ∉ frs X.stack)
    (bnd : bindArgs (PySem.W.kla_fn "<lambda>" (X.env.qual ++ "<lambda>") params body scope (cloFrom X.env.cells scope.names []) pm (.ref c') ctv) ⟨[], []⟩ = pure [])
    (tk : Takes ((cxOf C8.CX0 X.prog X.w X.K X.mg X.base Ng qg sg g cdg X.A X.stack s H C8.E0).tr pn xe) W) (hr : Room (k + 1) (X.A.deeper (envOfC qg sg s.heap.objs.size g cdg)))
    (hb : ∀ (A : Around) (outer : List Env) (sB : Shared) (HB : Hp) (Ez : XK), Room k (A.deeper (lamEnv X scope sB.heap.objs.size f c')) → PE (lamCx X A outer sB HB Ez scope f c') body (t Ez))
    (hN : Ng[0]? = some a) (hv : Vis sg a) (hd : (a == ("__debug__" : Str)) = false) (hcd : (a == ("__classdict__" : Str)) = false) :
    PE ((cxOf C8.CX0 X.prog X.w X.K X.mg X.base Ng qg sg g cdg X.A X.stack s H C8.E0).tr pn xe) (.Call (.Name a pa) [] [] pc) (tAct f c' (X.env.qual ++ "<lambda>") (fun Ez Hz Q => t Ez σ Hz Q) W) := by
  refine ⟨fun pz sz σz Hz Q Iz h => ?_⟩
  obtain ⟨hs, hc, Ez, hW, ht⟩ := h
  refine wpAny_Call_Name_kw (thn ((pe_var (pos := pa) (i := 0) hN hv hd hcd).run pz sz σz Hz (fun v Hy => v = .ref f ∧ Hy = Hz) Iz ⟨.ref f, hs, rfl, rfl⟩) fun u sy ⟨v, Hy, Iy, ry, qy⟩ => ?_)
  obtain ⟨rfl, rfl⟩ := qy
  obtain rfl : u = Value.ref f := ry
  have lamY := Iy.base.keep f _ lam nf nfr (fun z => nomatch (show f ∈ ([] : List Addr) from z))
  refine PySem.W.callWith_F0 ⟨_, _, _, _, lamY⟩ ?_
  have un : Un (frs X.stack) [] H Hy s.heap sy.heap := Iy.base
  obtain ⟨⟨oc, vs, tc, hoc, hdc, hvc⟩, _, _⟩ := Iy.hok c' _ hc
  have run : codeAny (model X.prog X.w) (X.A.deeper (envOfC qg sg s.heap.objs.size g cdg)) (.call (.ref f) ⟨[], []⟩)
      (CR (L2.CX X.prog X.w) (envOfC qg sg s.heap.objs.size g cdg :: X.stack) X.prog X.w Hy sy Q Ez) sy := by
    refine PySem.W.kla_callFunE hr.depth lamY rfl L.co L.gen rfl ⟨c', oc, vs, tc, rfl, hoc, hdc, hvc⟩ ?_
    rw [bnd]
    have own1 : ∀ y ∈ scope.names, y.2 ≠ NameKind.cell := fun y hy => (L.own y hy).2
    refine wpAny_pure (wpAny_newFunctionEnv own1 (fun y hy => absurd hy (by simp)) (fun hB nsB sb => ⟨Iy.nolimit.fresh _ sb, ?_⟩) L.kind)
    show codeAny _ _ (.expr body (lamEnv X scope sy.heap.objs.size f c')) _ _
    have kp : ∀ b o, sy.heap.get? b = some o → hB.get? b = some o := fun b o e => sb.extBut b o (Nat.ne_of_lt (Heap.lt_size e)) (Heap.get?_push_of_some _ e)
    have J := lam_start2 (f := f) (c' := c') (E := Ez) (tk := sy.toks + ([] : List (Str × Value)).length) I L Iy.env0 hr.hd un nsB kp
    refine PySem.W.kla_codeExpr (wpAny_mono ((hb _ _ sy Hy Ez (hr.deeper _)).run [] _ _ Hy Q J ht) (fun v sx hq => ?_) fun e sx hq => hq)
    obtain ⟨vv, Hx, Jx, rv, q⟩ := hq
    exact ⟨vv, Hx, Jx.os, Jx.bare, Jx.base, Jx.hok, rv, q⟩
  refine wpAny_call (codeAny_mono run fun r sx hq => ?_)
  cases r with
  | error e => exact tk e sx (XE.of_call Iy (fun cls d Hx hE => hW cls d Hx hE) hq)
  | ok fl =>
    cases fl with
    | ret u => exact Iy.after hq
    | next => exact False.elim hq
    | brk => exact False.elim hq
    | cont => exact False.elim hq
end
/-- the def that calls what it got (its first parameter a); TT: what it makes of the lambda's reading -/
def Gives (X : Cx) (Ng : List Str) (x : Str) (sg : Scope) (g : Addr) (cdg : Value) (bg : List Stmt) (a q : Str) (TT : (XK → Hp → VK → Prop) → Hp → VK → Prop) : Prop :=
  ∀ (f c' : Addr) (s : Shared) (H : Hp) (Q : VK) (tl : XK → Hp → VK → Prop), Room 9 (X.A.deeper (envOfC x sg s.heap.objs.size g cdg)) →
    (∀ (W : WX) (pn : List (Addr × Obj)) (xe : Value → Shared → Prop) (pa pc : Pos), Takes ((cxOf C8.CX0 X.prog X.w X.K X.mg X.base Ng x sg g cdg X.A X.stack s H C8.E0).tr pn xe) W →
      PE ((cxOf C8.CX0 X.prog X.w X.K X.mg X.base Ng x sg g cdg X.A X.stack s H C8.E0).tr pn xe) (.Call (.Name a pa) [] [] pc) (tAct f c' q tl W)) →
    H c' = some (CodeO c' q) → TT tl H Q →
    ∃ t, PSs (cxOf C8.CX0 X.prog X.w X.K X.mg X.base Ng x sg g cdg X.A X.stack s H C8.E0) bg t ∧ t { nx := fun _ H' => Q .non H', rt := Q } (L2.start Ng [.ref f]) H
section
variable {X : Cx}
/-- x(lambda: body) -/
theorem pe_give {T : List (Addr × Str)} {TT : (XK → Hp → VK → Prop) → Hp → VK → Prop} {x a : Str} {g c P : Addr} {k : Nat} {pg : Arguments} {bg : List Stmt} {sg : Scope} {dV kV doc pm cdv ct oc : Value} {an od : Option Addr} {osl : Array (Option Value)} {Ng : List Str}
    {params : Arguments} {body : Expr} {scope : Scope} {t : XK → TE} {p lpos pos : Pos} (hg : Gl X x) (hm : X.mg x = some (.ref g)) (hk : PySem.W.keepIn X.K (.ref g) = true)
    (lk : X.K.lookup g = some ⟨oc, od, .func (PySem.W.fnOf x x pg bg sg dV kV doc pm an cdv ct), osl⟩) (hcg : PySem.W.codeIn X.K cdv x = true) (hbi : L2.Binds X.K (PySem.W.fnOf x x pg bg sg dV kV doc pm an cdv ct) [a] [])
    (Sg : FnScope Ng [a] sg) (hNg : Ng[0]? = some a) (hva : Vis sg a) (hG : Gives X Ng x sg g cdv bg a (X.env.qual ++ "<lambda>") TT)
    (TB : TabB X.base X.mg c P) (hcode : X.env.code = .ref c) (hmT : (P, X.env.qual ++ "<lambda>") ∈ T) (hu : ∀ p ∈ T, p.1 = P → p.2 = X.env.qual ++ "<lambda>") (hr : Room (k + 2) X.A) (h9 : 9 ≤ k + 1) (L : LamS X.env.scope scope) (hdef : defaultsOf params X.env = ([], []))
    (bnd : ∀ (q : Str) (cl : List (Str × Addr)) (pm cv ctv : Value), bindArgs (PySem.W.kla_fn "<lambda>" q params body scope cl pm cv ctv) ⟨[], []⟩ = pure [])
    (hb : ∀ (A : Around) (outer : List Env) (s : Shared) (H : Hp) (E : XK) (f c' : Addr), Room k (A.deeper (lamEnv X scope s.heap.objs.size f c')) → PE (lamCx X A outer s H E scope f c') body (t E))
    (hdb : (x == ("__debug__" : Str)) = false := by decide) (hd : (a == ("__debug__" : Str)) = false := by decide) (hcd : (a == ("__classdict__" : Str)) = false := by decide) :
    PE X (.Call (.Name x p) [.Lambda params body scope lpos] [] pos) (tLam T TT t) := by
  refine ⟨fun pins s σ H Q I h => ?_⟩
  obtain ⟨hT, go⟩ := h
  refine wpAny_Call_Name_kw (ld_glob I hg hm ?_ hdb)
  refine PySem.W.callWith_K (h₀ := X.base) I.ok.mod.kin hk ?_ (by rfl) (by rfl)
  show wpAny _ _ (spliced ((false, eval (.Lambda params body scope lpos) X.env) :: backTo pos (starEach [] X.env))) _ _ s
  refine Calls.spliced_cons (lam_make2 I TB hcode hmT hu hT hdef (L.has I.ok) fun f c' pm' ctv Hy sy Iy eN Ty lamY nf nfr hco => ?_)
  refine Calls.spliced_nil ⟨Iy.kIn, ?_⟩
  have run : codeAny (model X.prog X.w) X.A (.call (.ref g) ⟨[.ref f], []⟩) (CR C8.CX0 X.stack X.prog X.w Hy sy Q C8.E0) sy := by
    refine run_ofS (N := Ng) (ps := [a]) (us := [.ref f]) (vs := [.ref f]) lk hcg Sg hr Iy.env0 (hbi sy [.ref f] Iy.kIn rfl) (.cons rfl .nil) rfl fun hr' => ?_
    exact hG f c' sy Hy Q (fun E Hz Q' => t E σ Hz Q') (hr'.mono h9) (fun W pn xe pa pc tk => pe_call_lam Iy L lamY nf nfr (bnd _ _ _ _ _) tk hr' (fun A outer s H E hr2 => hb A outer s H E f c' hr2) hNg hva hd hcd) hco (go Hy eN Ty)
  refine wpAny_call (codeAny_mono run fun r sx hq => ?_)
  cases r with
  | error e => exact (show False from hq).elim
  | ok fl =>
    cases fl with
    | ret u => exact Iy.after hq
    | next => exact False.elim hq
    | brk => exact False.elim hq
    | cont => exact False.elim hq
end
end Ru

set_option maxHeartbeats 4000000
/-! own operators: a + b of two instances of a class with its own __add__; len(a) with its own __len__ -/
namespace Ru
open PySem PySem.Spec PyProof.Rows L2 StX
/-- the class stands first in its own order -/
def mroHd (K : PySem.W.Frag) (C : Addr) : Bool := match PySem.W.clsIn K C with
  | some cd => (match cd.mro with
    | .ref D :: _ => decide (D = C)
    | _ => false)
  | none => false
section
variable {prog : Program} {w : World} {A : Around} {E : Value → Shared → Prop} {s : Shared} {K : PySem.W.Frag} {C f : Addr} {nm : String}
theorem mro_hd {h : Heap} (X : K.In h) (hm : mroHd K C = true) : ∃ rest, PySem.W.Looks (model prog w) h (mroOf (.ref C)) (.ref C :: rest) := by
  unfold mroHd at hm
  cases e : PySem.W.clsIn K C with
  | none => rw [e] at hm; cases hm
  | some cd =>
    rw [e] at hm
    have L : PySem.W.Looks (model prog w) h (mroOf (.ref C)) cd.mro := (PySem.W.looks_clsIn X e).andThen .now
    cases em : cd.mro with
    | nil =>
      have hm2 : (match cd.mro with
        | .ref D :: _ => decide (D = C)
        | _ => false) = true := hm
      rw [em] at hm2; cases hm2
    | cons v rest =>
      have hm2 : (match cd.mro with
        | .ref D :: _ => decide (D = C)
        | _ => false) = true := hm
      rw [em] at hm2 L
      cases v with
      | ref D =>
        have e2 : D = C := of_decide_eq_true hm2
        rw [e2] at L
        exact ⟨rest, L⟩
      | _ => cases hm2
theorem fills_own {h : Heap} {g : Array GenState} {d : Drawn} {t : Nat} {os : OsState} {Q : Bool → Shared → Prop} (X : K.In h) (hm : mroHd K C = true) (ha : PySem.W.findIn K (.ref C) (dunder nm) = some (some (.ref f))) (hq : Q true ⟨h, g, d, t, os⟩) :
    wpAny (model prog w) A (fillsNumberSlot (.ref C) nm) Q E ⟨h, g, d, t, os⟩ := by
  obtain ⟨rest, L⟩ := mro_hd (prog := prog) (w := w) X hm
  unfold fillsNumberSlot
  refine wpAny_bind (L.at ?_)
  simp only [List.anyM]
  refine wpAny_bind (wpAny_bind ?_)
  refine wpAny_bind ((PySem.W.looks_findIn X ha).at ?_)
  have ho : ownNameWrapper (.ref f) (dunder nm) = false := rfl
  dsimp only
  rw [ho]
  exact wpAny_pure (wpAny_pure (wpAny_pure hq))
/-- a.m(b) by the class, its answer never NotImplemented -/
theorem try_own {a b : Addr} {m : Str} {Q : Option Value → Shared → Prop} (X : K.In s.heap) {oa : Obj} (ho : s.heap.get? a = some oa) (hc : oa.cls = .ref C) (ha : PySem.W.findIn K (.ref C) m = some (some (.ref f))) (hf : PySem.W.isFn K (.ref f) = true)
    (h : wpAny (model prog w) A (call (.ref f) [.ref a, .ref b]) (fun v s' => v ≠ .notImplemented ∧ Q (some v) s') E s) : wpAny (model prog w) A (tryMethod (.ref a) m (.ref b)) Q E s := by
  obtain ⟨hh, g, d, t, os⟩ := s
  have sp : PySem.W.Looks (model prog w) hh (specialOf (.ref a) m) (some (.ref f)) := (NwA.type_at ho hc).andThen (PySem.W.looks_findIn X ha)
  unfold tryMethod callSpecial?
  refine wpAny_bind (wpAny_bind (sp.at ?_))
  refine wpAny_holding (wpAny_bind ((PySem.W.bind_fn X _ (beq_iff_eq.mp hf)).at ?_))
  refine wpAny_bind (wpAny_mono h (fun v s' ⟨hn, hq⟩ => ?_) fun _ _ z => z)
  refine wpAny_pure ?_
  cases v <;> first | exact wpAny_pure hq | exact absurd rfl hn
theorem bin1_own {a b : Addr} {Q : Option Value → Shared → Prop} (X : K.In s.heap) (hm : mroHd K C = true) {oa ob : Obj} (ha : s.heap.get? a = some oa) (hac : oa.cls = .ref C) (hb : s.heap.get? b = some ob) (hbc : ob.cls = .ref C)
    (hi : PySem.W.findIn K (.ref C) (dunder nm) = some (some (.ref f))) (hf : PySem.W.isFn K (.ref f) = true)
    (h : wpAny (model prog w) A (call (.ref f) [.ref a, .ref b]) (fun v s' => v ≠ .notImplemented ∧ Q (some v) s') E s) : wpAny (model prog w) A (binaryOp1 nm (.ref a) (.ref b)) Q E s := by
  have ht : ∀ {α : Type} {x : α}, True := fun {_ _} => trivial
  obtain ⟨hh, g, d, t, os⟩ := s
  simp only [binaryOp1]
  refine wpAny_bind ((NwA.type_at ha hac).at (wpAny_bind ((NwA.type_at hb hbc).at (wpAny_bind (fills_own X hm hi ?_)))))
  simp only [beq_self_eq_true, if_true, pure_bind, Bool.and_false, Bool.false_and, Bool.false_eq_true, if_false]
  exact wpAny_bind (try_own X ha hac hi hf (wpAny_mono h (fun v s' ⟨hn, hq⟩ => ⟨hn, wpAny_pure hq⟩) fun _ _ z => z))
end
section
variable {X : Cx} {CX : CXT} {k : Nat} {f C : Addr} {fd : FuncData} {ps : List Str} {sp : Sp} {E : XK}
theorem relV_ni {v : V} {u : Value} (r : RelV v u) : u ≠ .notImplemented := fun z => by
  subst z
  cases v <;> first | (obtain ⟨_, e⟩ := r; cases e) | cases r
theorem ins_obj {P : Program} {w : World} {H : Hp} {h : Heap} {a C dx : Addr} {fs : List (Str × V)} (hok : HOk P w H h) (e : H a = some (.ins C dx fs)) : ∃ oa, h.get? a = some oa ∧ oa.cls = .ref C := by
  obtain ⟨mA, O, r, _, _, _⟩ := ins_get hok e
  exact ⟨_, O.obj, rfl⟩
/-- a + b of instances of C -/
def rOwnB (C : Addr) (sp : Sp) (E : XK) : R2 := fun x y H Q => ∃ a dx fs b dy gs, x = .ref a ∧ y = .ref b ∧ H a = some (.ins C dx fs) ∧ H b = some (.ins C dy gs) ∧ sp [.ref a, .ref b] H Q E
theorem op_ownAdd (hm : mroHd X.K C = true) (mt : Meth X.K C "__add__" f) (F : FnOk X.prog X.w X.K X.mg X.base CX k f fd ps sp) (hb : Binds X.K fd ps []) (hr : Room k X.A) (hx : Passes CX X E) : OpR X (binaryOp .Add) (rOwnB C sp E) := by
  intro pins s σ H x y v u Q I rx ry h
  obtain ⟨a, dx, fs, b, dy, gs, rfl, rfl, ea, eb, q⟩ := h
  obtain rfl : v = Value.ref a := rx
  obtain rfl : u = Value.ref b := ry
  obtain ⟨oa, ha, hac⟩ := ins_obj I.hok ea
  obtain ⟨ob, hb', hbc⟩ := ins_obj I.hok eb
  unfold binaryOp
  refine wpAny_holding (wpAny_bind (bin1_own (nm := "add") (C := C) (f := f) I.kIn hm ha hac hb' hbc mt.at_ mt.fn ?_))
  refine thn (run_fn (us := [.ref a, .ref b]) (vs := [.ref a, .ref b]) F hr hb .nil hx I (.cons rfl (.cons rfl .nil)) q) fun v s' e => ?_
  have ev := e
  obtain ⟨vv, H', I', rv, _⟩ := e
  exact ⟨relV_ni rv, wpAny_pure ev⟩
/-- len(a), a an instance of C with its own __len__ -/
theorem call_lenOwn (mt : Meth X.K C "__len__" f) (F : FnOk X.prog X.w X.K X.mg X.base CX k f fd ps sp) (hb : Binds X.K fd ps []) (hr : Room (k + 1) X.A) (hx : Passes CX X.nox E) :
    CallR X (.builtin "len") (fun xs H Q => ∃ a dx fs, xs = [.ref a] ∧ H a = some (.ins C dx fs) ∧ sp [.ref a] H (fun v H' => ∃ n : Nat, v = .int n ∧ n < 2 ^ 62 ∧ Q (.int n) H') E) := by
  intro pins s σ H xs us Q I r h
  obtain ⟨a, dx, fs, rfl, ea, q⟩ := h
  obtain ⟨u, rfl, ru⟩ := r.one
  obtain rfl : u = Value.ref a := ru
  obtain ⟨oa, ha, hac⟩ := ins_obj I.hok ea
  refine Calls.call_function_entry kind_len plain_len entry_len (args_len1 _) ?_
  have X0 := I.kIn
  have run : codeAny (model X.prog X.w) X.A.in1 (.call (.ref f) ⟨[.ref a], []⟩) (CR CX X.stack X.prog X.w H s (fun v H' => ∃ n : Nat, v = .int n ∧ n < 2 ^ 62 ∧ Q (.int n) H') E) s := by
    refine F.run X.A.in1 X.stack s H ⟨[.ref a], []⟩ [.ref a] [.ref a] _ E hr.in1 I.env0.in1 (hb s [.ref a] X0 ?_) (.cons rfl .nil) q
    have e := F.len _ _ _ _ q
    exact e
  have sp1 : PySem.W.Looks (model X.prog X.w) s.heap (specialOf (.ref a) (PySem.Str.ofString "__len__")) (some (.ref f)) := (NwA.type_at ha hac).andThen (PySem.W.looks_findIn X0 mt.at_)
  unfold Builtin.«len»
  refine wpAny_bind (m := oneArg "len" _) (wpAny_pure ?_)
  obtain ⟨hh, g, d, t, os⟩ := s
  refine wpAny_bind (m := callSpecial? (.ref a) (PySem.Str.ofString "__len__")) ?_
  unfold callSpecial?
  refine wpAny_bind (sp1.at ?_)
  refine wpAny_holding (wpAny_bind ((PySem.W.bind_fn X0 _ (beq_iff_eq.mp mt.fn)).at ?_))
  refine wpAny_bind (wpAny_call (codeAny_mono run fun r s' hq => ?_))
  cases r with
  | error er => exact False.elim (hx pins σ H _ er s' (I.wish _) hq)
  | ok fl =>
    cases fl with
    | ret u =>
      obtain ⟨v, H', I3, rv, n, rfl, hn, q3⟩ := I.after hq
      obtain ⟨tn, rfl⟩ := rv
      refine wpAny_pure ?_
      show wpAny _ _ (holding [Value.int (n : Int) tn] (asIndex (Value.int (n : Int) tn)) >>= _) _ _ _
      refine wpAny_bind (wpAny_holding (wpAny_pure ?_))
      refine wpAny_bind (wpAny_letGo ?_)
      have n0 : ¬ (((n : Nat) : Int) < 0) := by omega
      have n1 : ¬ (((n : Nat) : Int) ≥ 2 ^ 63) := by
        have : (n : Int) < 2 ^ 62 := by exact_mod_cast hn
        omega
      simp only [n0, n1, if_false]
      exact wpAny_bind (wpAny_mkInt (wpAny_pure ⟨_, rfl, ⟨.int (n : Int), H', I3.tok _, ⟨_, rfl⟩, q3⟩⟩))
    | next => exact False.elim hq
    | brk => exact False.elim hq
    | cont => exact False.elim hq
end
section
variable {X : Cx} {CX : CXT} {k i : Nat} {f C : Addr} {fd : FuncData} {ps : List Str} {sp : Sp} {E : XK} {x : Str} {e : Expr} {es : List Expr} {t : TA} {te : TE} {p pos sq : Pos}
theorem toR {P : Program} {w : World} {K : PySem.W.Frag} {mg : Str → Option Value} {base : Heap} (F : FnOk P w K mg base CX k f fd ps sp) (hb : Binds K fd ps []) : FnR P w K mg base CX k f sp := by
  intro A outer s H us vs Q E hr e0 r h
  have hl : us.length = ps.length := by rw [← r.length]; exact F.len _ _ _ _ h
  have KX : K.In s.heap := e0.mod.kin.keeps fun b o q => (e0.bs b o q).1
  have z := hb s us KX (by rw [List.append_nil]; exact hl)
  rw [List.append_nil] at z
  exact F.run A outer s H ⟨us, []⟩ us vs Q E hr e0 z r h
/-- x(e, ..), x a name of the def that holds the class at C -/
def tMakeL (C : Addr) (i : Nat) (sp : Sp) (E : XK) (t : TA) : TE := fun σ H Q => σ[i]? = some (some (.ref C)) ∧ tMakeR C sp E t σ H Q
theorem pe_makeL (M : Mk X.K C f) (F : FnR X.prog X.w X.K X.mg X.base CX k f sp) (hr : Room (k + 1) X.A) (hN : X.N[i]? = some x) (hv : Vis X.env.scope x) (hx : Passes CX X E) (ha : PA X (e :: es) t)
    (hdb : (x == ("__debug__" : Str)) = false := by decide) (hcd : (x == ("__classdict__" : Str)) = false := by decide)
    (he : starEach (e :: es) X.env = (false, eval e X.env) :: starEach es X.env := by rfl) (hpl : (backTo pos (starEach es X.env)).any (·.1) = false := by rfl) : PE X (.Call (.Name x p) (e :: es) [] pos) (tMakeL C i sp E t) := by
  refine ⟨fun pins s σ H Q I h => ?_⟩
  obtain ⟨hs, ht⟩ := h
  refine wpAny_Call_Name_kw (thn ((pe_var (pos := p) hN hv hdb hcd).run pins s σ H (fun v Hy => v = .ref C ∧ Hy = H) I ⟨.ref C, hs, rfl, rfl⟩) fun u sy ⟨v, Hy, Iy, ry, qy⟩ => ?_)
  obtain ⟨rfl, rfl⟩ := qy
  obtain rfl : u = Value.ref C := ry
  exact PySem.W.callWith_K (h₀ := X.base) I.ok.mod.kin M.kp (thn (ha.run pos pins sy σ _ _ Iy ht) fun us sz ⟨vs, Hz, Iz, r, q⟩ => ⟨Iz.kIn, run_makeR M F hr hx Iz r q⟩) he hpl
/-- x(), x the class at C -/
theorem pe_makeR0 (M : Mk X.K C f) (F : FnR X.prog X.w X.K X.mg X.base CX k f sp) (hr : Room (k + 1) X.A) (hg : Gl X x) (hm : X.mg x = some (.ref C)) (hx : Passes CX X E) (hdb : (x == ("__debug__" : Str)) = false := by decide) :
    PE X (.Call (.Name x p) [] [] pos) (tMakeR C sp E tNil) := by
  refine ⟨fun pins s σ H Q I h => ?_⟩
  refine wpAny_Call_Name_kw (ld_glob I hg hm ?_ hdb)
  exact PySem.W.callWith_K0 I.kIn M.kp (run_makeR (us := []) (vs := []) M F hr hx I .nil h)
/-- x(*e), x the class at C -/
def tMakeSt (K : PySem.W.Frag) (C : Addr) (sp : Sp) (E : XK) (te : TE) : TE := fun σ H Q => te σ H fun y H1 => ∃ a xs, y = V.ref a ∧ (SqT K H1 a xs ∨ SqL K H1 a xs) ∧
  ∀ x dx, H1 x = Option.none → H1 dx = Option.none → dx ≠ x → sp (V.ref x :: xs) (upd (upd H1 dx (.own x)) x (.ins C dx [])) (fun v H2 => v = .non ∧ Q (.ref x) H2) E
theorem pe_makeSt (M : Mk X.K C f) (F : FnR X.prog X.w X.K X.mg X.base CX k f sp) (hr : Room (k + 1) X.A) (hg : Gl X x) (hm : X.mg x = some (.ref C)) (hx : Passes CX X E) (he : PE X e te) (hdb : (x == ("__debug__" : Str)) = false := by decide)
    (hst : starEach [.Starred e sq] X.env = [(true, eval e X.env)] := by rfl) : PE X (.Call (.Name x p) [.Starred e sq] [] pos) (tMakeSt X.K C sp E te) := by
  refine ⟨fun pins s σ H Q I h => ?_⟩
  refine wpAny_Call_Name_kw (ld_glob I hg hm ?_ hdb)
  refine PySem.W.callWith_S (h₀ := X.base) I.ok.mod.kin M.kp (thn (he.run pins s σ H _ I h) fun v sy ⟨y, Hy, Iy, ry, a, xs, ey, hxs, q⟩ => ?_) hst
  subst ey
  obtain rfl : v = Value.ref a := ry
  exact star_any Iy hxs fun us sz Iz rv => ⟨Iz.kIn, run_makeR M F hr hx Iz rv q⟩
/-- nothing is raised there -/
theorem passNo {P : Program} {w : World} (hp : X.prog = P) (hw : X.w = w) : Passes (L2.CX P w) X (fun _ _ _ => False) := fun pins σ H s e s' I c => by
  obtain ⟨_, _, _, _, _, _, _, _, _, _, _, _, z⟩ := c
  exact z.elim
/-- lcm(i, j) -/
def rLcm : List V → Hp → VK → Prop := fun vs H Q => ∃ i j : Nat, vs = [.int i, .int j] ∧ i < 2 ^ 62 ∧ j < 2 ^ 62 ∧ Q (.int ((Nat.lcm i j : Nat) : Int)) H
theorem cr_lcm : CallR X (.builtin "math.lcm") rLcm := by
  intro pins s σ H vs us Q I r h
  obtain ⟨i, j, rfl, hi, hj, q⟩ := h
  obtain ⟨u1, u2, rfl, r1, r2⟩ := r.two
  obtain ⟨t1, rfl⟩ := r1
  obtain ⟨t2, rfl⟩ := r2
  have e1 : ((i : Int)).natAbs = i := rfl
  have e2 : ((j : Int)).natAbs = j := rfl
  exact PySem.W.mc_lcm (by rw [e1]; exact Nat.lt_trans hi (by decide)) (by rw [e2]; exact Nat.lt_trans hj (by decide)) fun _ => ⟨.int _, H, I.tok _, ⟨_, rfl⟩, q⟩
end
end Ru

namespace W6
open PySem PySem.Spec PyProof.Rows L2
def top (i : Nat) : Stmt := PySem.Challenge.pw_warmswitch_k01_weather_validated.main.body.getD i (.Pass ⟨0, 0, 0, 0⟩)
abbrev s_first_invalid : Stmt := top 11
abbrev s_added_rounds : Stmt := top 14
abbrev s_Weather_init : Stmt := inClass (top 17) 2
abbrev s_Weather_constant : Stmt := inClass (top 17) 3
abbrev s_Weather_len : Stmt := inClass (top 17) 5
abbrev s_Weather_add : Stmt := inClass (top 17) 10
abbrev s__law_mix : Stmt := top 19
abbrev s__law_next : Stmt := top 20
abbrev s__law_alike : Stmt := top 21
abbrev s__law_error : Stmt := top 22
abbrev s__law_changes : Stmt := top 23
abbrev s__law_weather : Stmt := top 24
abbrev s_law : Stmt := top 25
abbrev s_Weather_changes : Stmt := inClass (top 17) 4
theorem sc_first_invalid : FnScope ["values", "least", "greatest", "most", "index", "value"] ["values", "least", "greatest", "most"] (defScope s_first_invalid) := ⟨rfl, rfl, rfl, by decide +kernel, rfl, by decide +kernel, by decide +kernel⟩
theorem sc_added_rounds : FnScope ["one", "other", "many", "tick"] ["one", "other"] (defScope s_added_rounds) := ⟨rfl, rfl, rfl, by decide +kernel, rfl, by decide +kernel, by decide +kernel⟩
theorem sc_Weather_init : FnScope ["self", "changes", "index"] ["self", "changes"] (defScope s_Weather_init) := ⟨rfl, rfl, rfl, by decide +kernel, rfl, by decide +kernel, by decide +kernel⟩
theorem sc_Weather_constant : FnScope ["cls", "change"] ["cls", "change"] (defScope s_Weather_constant) := ⟨rfl, rfl, rfl, by decide +kernel, rfl, by decide +kernel, by decide +kernel⟩
theorem sc_Weather_len : FnScope ["self"] ["self"] (defScope s_Weather_len) := ⟨rfl, rfl, rfl, by decide +kernel, rfl, by decide +kernel, by decide +kernel⟩
theorem sc_Weather_add : FnScope ["self", "other", "both"] ["self", "other"] (defScope s_Weather_add) := ⟨rfl, rfl, rfl, by decide +kernel, rfl, by decide +kernel, by decide +kernel⟩
theorem sc__law_mix : FnScope ["_law_script", "_law_seed", "_law_mixed", "_law_cell"] ["_law_script", "_law_seed"] (defScope s__law_mix) := ⟨rfl, rfl, rfl, by decide +kernel, rfl, by decide +kernel, by decide +kernel⟩
theorem sc__law_next : FnScope ["_law_h", "_law_limit", "_law_cell"] ["_law_h", "_law_limit"] (defScope s__law_next) := ⟨rfl, rfl, rfl, by decide +kernel, rfl, by decide +kernel, by decide +kernel⟩
theorem sc__law_alike : FnScope ["_law_found", "_law_due", "_law_k"] ["_law_found", "_law_due"] (defScope s__law_alike) := ⟨rfl, rfl, rfl, by decide +kernel, rfl, by decide +kernel, by decide +kernel⟩
theorem sc__law_error : FnScope ["_law_call", "e", "_law_kinds", "_law_name"] ["_law_call"] (defScope s__law_error) := ⟨rfl, rfl, rfl, by decide +kernel, rfl, by decide +kernel, by decide +kernel⟩
theorem sc__law_changes : FnScope ["_law_h", "_law_most", "_law_wide", "_law_found", "_law_low", "_law_k"] ["_law_h", "_law_most"] (defScope s__law_changes) := ⟨rfl, rfl, rfl, by decide +kernel, rfl, by decide +kernel, by decide +kernel⟩
theorem sc__law_weather : FnScope ["_law_changes_here", "_law_a"] ["_law_changes_here"] (defScope s__law_weather) := ⟨rfl, rfl, rfl, by decide +kernel, rfl, by decide +kernel, by decide +kernel⟩
theorem sc_law : FnScope ["_law_script", "_law_h", "_law_turn", "_law_changes_here", "_law_k", "_law_bad", "_law_results", "_law_error_here", "_law_one", "_law_many"] ["_law_script"] (defScope s_law) := ⟨rfl, rfl, rfl, by decide +kernel, rfl, by decide +kernel, by decide +kernel⟩
theorem sc_Weather_changes : FnScope ["self"] ["self"] (defScope s_Weather_changes) := ⟨rfl, rfl, rfl, by decide +kernel, rfl, by decide +kernel, by decide +kernel⟩
/-- where things stand -/
structure Ad where
  c_Weather : Addr
  c_Heater : Addr
  c_Drift : Addr
  c_Stretch : Addr
  c_Timeline : Addr
  c_Course : Addr
  c_HeatingSum : Addr
  c_Room : Addr
  f_first_invalid : Addr
  d_first_invalid : FuncData
  f_added_rounds : Addr
  d_added_rounds : FuncData
  f_Weather_init : Addr
  d_Weather_init : FuncData
  f_Weather_constant : Addr
  d_Weather_constant : FuncData
  f_Weather_len : Addr
  d_Weather_len : FuncData
  f_Weather_add : Addr
  d_Weather_add : FuncData
  f__law_mix : Addr
  d__law_mix : FuncData
  f__law_next : Addr
  d__law_next : FuncData
  f__law_alike : Addr
  d__law_alike : FuncData
  f__law_error : Addr
  d__law_error : FuncData
  f__law_changes : Addr
  d__law_changes : FuncData
  f__law_weather : Addr
  d__law_weather : FuncData
  f_law : Addr
  d_law : FuncData
  f_Weather_changes : Addr
  d_Weather_changes : FuncData
  p_Weather_changes : Addr
  p_Weather_constant : Addr
/-- what the written part says -/
structure Txt (K : PySem.W.Frag) (mg : Str → Option Value) (a : Ad) : Prop where
  cl_Weather : Cls K a.c_Weather
  mg_Weather : mg "Weather" = some (.ref a.c_Weather)
  na_Weather__changes : NoAttr K a.c_Weather "_changes"
  F_first_invalid : Fun K "first_invalid" "first_invalid" s_first_invalid a.f_first_invalid a.d_first_invalid
  mg_first_invalid : mg "first_invalid" = some (.ref a.f_first_invalid)
  F_added_rounds : Fun K "added_rounds" "added_rounds" s_added_rounds a.f_added_rounds a.d_added_rounds
  mg_added_rounds : mg "added_rounds" = some (.ref a.f_added_rounds)
  F_Weather_init : Fun K "__init__" "Weather.__init__" s_Weather_init a.f_Weather_init a.d_Weather_init
  mk_Weather : Mk K a.c_Weather a.f_Weather_init
  F_Weather_constant : Fun K "constant" "Weather.constant" s_Weather_constant a.f_Weather_constant a.d_Weather_constant
  cm_Weather_constant : ClX.CMet K a.c_Weather (.type "type") "constant" a.p_Weather_constant a.f_Weather_constant
  F_Weather_len : Fun K "__len__" "Weather.__len__" s_Weather_len a.f_Weather_len a.d_Weather_len
  me_Weather_len : Meth K a.c_Weather "__len__" a.f_Weather_len
  F_Weather_add : Fun K "__add__" "Weather.__add__" s_Weather_add a.f_Weather_add a.d_Weather_add
  me_Weather_add : Meth K a.c_Weather "__add__" a.f_Weather_add
  F__law_mix : Fun K "_law_mix" "_law_mix" s__law_mix a.f__law_mix a.d__law_mix
  mg__law_mix : mg "_law_mix" = some (.ref a.f__law_mix)
  F__law_next : Fun K "_law_next" "_law_next" s__law_next a.f__law_next a.d__law_next
  mg__law_next : mg "_law_next" = some (.ref a.f__law_next)
  F__law_alike : Fun K "_law_alike" "_law_alike" s__law_alike a.f__law_alike a.d__law_alike
  mg__law_alike : mg "_law_alike" = some (.ref a.f__law_alike)
  F__law_error : Fun K "_law_error" "_law_error" s__law_error a.f__law_error a.d__law_error
  mg__law_error : mg "_law_error" = some (.ref a.f__law_error)
  F__law_changes : Fun K "_law_changes" "_law_changes" s__law_changes a.f__law_changes a.d__law_changes
  mg__law_changes : mg "_law_changes" = some (.ref a.f__law_changes)
  F__law_weather : Fun K "_law_weather" "_law_weather" s__law_weather a.f__law_weather a.d__law_weather
  mg__law_weather : mg "_law_weather" = some (.ref a.f__law_weather)
  F_law : Fun K "law" "law" s_law a.f_law a.d_law
  mg_law : mg "law" = some (.ref a.f_law)
  F_Weather_changes : Fun K "changes" "Weather.changes" s_Weather_changes a.f_Weather_changes a.d_Weather_changes
  pr_Weather_changes : PropOf K a.c_Weather "changes" a.p_Weather_changes a.f_Weather_changes
  mg_lcm : mg "lcm" = some (.builtin "math.lcm")
  z_bool : mg "bool" = none
  z_dict : mg "dict" = none
  z_enumerate : mg "enumerate" = none
  z_int : mg "int" = none
  z_isinstance : mg "isinstance" = none
  z_len : mg "len" = none
  z_list : mg "list" = none
  z_max : mg "max" = none
  z_min : mg "min" = none
  z_range : mg "range" = none
  z_sorted : mg "sorted" = none
  z_str : mg "str" = none
  z_tuple : mg "tuple" = none
  cv_Weather_MAX_CHANGE : ∃ t, Con K a.c_Weather "MAX_CHANGE" (.int 100) (.int 100 t)
  cv_Weather_MAX_TICKS : ∃ t, Con K a.c_Weather "MAX_TICKS" (.int 24) (.int 24 t)
section
variable {K : PySem.W.Frag} {mg : Str → Option Value} {a : Ad}
theorem b_first_invalid (T : Txt K mg a) : Binds K a.d_first_invalid ["values", "least", "greatest", "most"] [] := T.F_first_invalid.binds (ps := ["values", "least", "greatest", "most"]) fun _ _ _ _ _ _ us hl => match us, hl with | [_, _, _, _], _ => rfl
theorem b_added_rounds (T : Txt K mg a) : Binds K a.d_added_rounds ["one", "other"] [] := T.F_added_rounds.binds (ps := ["one", "other"]) fun _ _ _ _ _ _ us hl => match us, hl with | [_, _], _ => rfl
theorem b_Weather_constant (T : Txt K mg a) : Binds K a.d_Weather_constant ["cls", "change"] [] := T.F_Weather_constant.binds (ps := ["cls", "change"]) fun _ _ _ _ _ _ us hl => match us, hl with | [_, _], _ => rfl
theorem b_Weather_len (T : Txt K mg a) : Binds K a.d_Weather_len ["self"] [] := T.F_Weather_len.binds (ps := ["self"]) fun _ _ _ _ _ _ us hl => match us, hl with | [_], _ => rfl
theorem b_Weather_add (T : Txt K mg a) : Binds K a.d_Weather_add ["self", "other"] [] := T.F_Weather_add.binds (ps := ["self", "other"]) fun _ _ _ _ _ _ us hl => match us, hl with | [_, _], _ => rfl
theorem b__law_mix (T : Txt K mg a) : Binds K a.d__law_mix ["_law_script", "_law_seed"] [] := T.F__law_mix.binds (ps := ["_law_script", "_law_seed"]) fun _ _ _ _ _ _ us hl => match us, hl with | [_, _], _ => rfl
theorem b__law_next (T : Txt K mg a) : Binds K a.d__law_next ["_law_h", "_law_limit"] [] := T.F__law_next.binds (ps := ["_law_h", "_law_limit"]) fun _ _ _ _ _ _ us hl => match us, hl with | [_, _], _ => rfl
theorem b__law_alike (T : Txt K mg a) : Binds K a.d__law_alike ["_law_found", "_law_due"] [] := T.F__law_alike.binds (ps := ["_law_found", "_law_due"]) fun _ _ _ _ _ _ us hl => match us, hl with | [_, _], _ => rfl
theorem b__law_error (T : Txt K mg a) : Binds K a.d__law_error ["_law_call"] [] := T.F__law_error.binds (ps := ["_law_call"]) fun _ _ _ _ _ _ us hl => match us, hl with | [_], _ => rfl
theorem b__law_changes (T : Txt K mg a) : Binds K a.d__law_changes ["_law_h", "_law_most"] [] := T.F__law_changes.binds (ps := ["_law_h", "_law_most"]) fun _ _ _ _ _ _ us hl => match us, hl with | [_, _], _ => rfl
theorem b__law_weather (T : Txt K mg a) : Binds K a.d__law_weather ["_law_changes_here"] [] := T.F__law_weather.binds (ps := ["_law_changes_here"]) fun _ _ _ _ _ _ us hl => match us, hl with | [_], _ => rfl
theorem b_law (T : Txt K mg a) : Binds K a.d_law ["_law_script"] [] := T.F_law.binds (ps := ["_law_script"]) fun _ _ _ _ _ _ us hl => match us, hl with | [_], _ => rfl
theorem b_Weather_changes (T : Txt K mg a) : Binds K a.d_Weather_changes ["self"] [] := T.F_Weather_changes.binds (ps := ["self"]) fun _ _ _ _ _ _ us hl => match us, hl with | [_], _ => rfl
end
end W6

/-! what stands in the heap; the promises of the law's helpers -/
namespace W6
open PySem PySem.Spec PyProof.Rows L2
/-- all but two objects as they were -/
def Keep (x y : Addr) (H H' : Hp) : Prop := ∀ b o, b ≠ x → b ≠ y → H b = some o → H' b = some o
theorem Keep.refl (x y : Addr) (H : Hp) : Keep x y H H := fun _ _ _ _ h => h
theorem Keep.trans {x y : Addr} {H H1 H2 : Hp} (a : Keep x y H H1) (b : Keep x y H1 H2) : Keep x y H H2 := fun c o h1 h2 h => b c o h1 h2 (a c o h1 h2 h)
theorem Keep.of {x y : Addr} {H H1 : Hp} (a : Same H H1) : Keep x y H H1 := fun c o _ _ h => a c o h
/-- the draws: the mixed number, the cells, the index -/
def LH (H : Hp) (x y : Addr) : Prop := ∃ (m i : Int) (cs : List Int), H x = some (.lst [.int m, .ref y, .int i]) ∧ H y = some (.lst (cs.map V.int)) ∧ 0 ≤ m ∧ m < 2147483647 ∧ 0 ≤ i ∧ cs.length ≤ 63
theorem LH.ne {H : Hp} {x y : Addr} (h : LH H x y) : x ≠ y := by
  obtain ⟨m, i, cs, h1, h2, _⟩ := h
  refine ne_of h1 h2 fun e => ?_
  injection e with e
  cases cs with
  | nil => cases e
  | cons a r =>
    cases r with
    | nil => cases e
    | cons b r => simp at e
theorem LH.same {H H' : Hp} {x y : Addr} (h : LH H x y) (s : Same H H') : LH H' x y := by
  obtain ⟨m, i, cs, h1, h2, r⟩ := h
  exact ⟨m, i, cs, s _ _ h1, s _ _ h2, r⟩
/-- a free place is none of the two -/
theorem LH.off {H : Hp} {x y p : Addr} (h : LH H x y) (hp : H p = none) : p ≠ x ∧ p ≠ y := by
  obtain ⟨m, i, cs, h1, h2, r⟩ := h
  exact ⟨(ne_of_none h1 hp).symm, (ne_of_none h2 hp).symm⟩
theorem Keep.free {x y p : Addr} {H H' : Hp} (k : Keep x y H H') (h' : LH H' x y) (hp : H' p = none) : H p = none := by
  have o := h'.off hp
  cases e : H p with
  | none => rfl
  | some u => rw [k p u o.1 o.2 e] at hp; cases hp
/-- a new object -/
theorem same_upd {H : Hp} {p : Addr} {o : HO} (h : H p = none) : Same H (upd H p o) := fun b u e => by rw [upd_ne (ne_of_none e h)]; exact e
def spNext : Sp := fun vs H Q _ => ∃ (x y : Addr) (lim : Int), vs = [.ref x, .int lim] ∧ LH H x y ∧ 0 < lim ∧ lim < 18446744073709551616 ∧ ∀ r H', 0 ≤ r → r < lim → LH H' x y → Keep x y H H' → Q (.int r) H'
def spMix (K : PySem.W.Frag) : Sp := fun vs H Q _ => ∃ (c : Addr) (ns : List Int) (z : Int), vs = [.ref c, .int z] ∧ SqL K H c (ns.map V.int) ∧ 0 ≤ z ∧ z < 2147483647 ∧ ns.length ≤ 63 ∧ ∀ x y H', LH H' x y → Same H H' → H x = none → H y = none → Q (.ref x) H'
/-- some changes of a weather -/
def CH (cs : List Int) : Prop := 1 ≤ cs.length ∧ cs.length ≤ 24 ∧ ∀ c ∈ cs, -100 ≤ c ∧ c ≤ 100
def spChanges : Sp := fun vs H Q _ => ∃ (x y : Addr) (most : Int), vs = [.ref x, .int most] ∧ LH H x y ∧ 1 ≤ most ∧ most ≤ 24 ∧ ∀ p cs H', CH cs → (cs.length : Int) ≤ most → H' p = some (.tup (cs.map V.int)) → H p = none → LH H' x y → Keep x y H H' → Q (.ref p) H'
end W6
namespace W6
open PySem PySem.Spec PyProof.Rows L2
def spSetting : Sp := fun vs H Q _ => ∃ (x y : Addr), vs = [.ref x] ∧ LH H x y ∧ ∀ p (g lo hi st : Int) (on : Bool) H', 1 ≤ g → g ≤ 200 → lo ≤ hi → -100000000000 ≤ lo → hi ≤ 200000000000 → -1000000000000 ≤ st → st ≤ 1000000000000 → hi - lo ≤ 100000000000 → lo - 200000000000 ≤ st → st ≤ lo + 300000000000 →
  H' p = some (.tup [.int g, .int lo, .int hi, .int st, .bl on]) → H p = none → LH H' x y → Keep x y H H' → Q (.ref p) H'
def spDivisor : Sp := fun vs H Q _ => ∃ (x y : Nat), vs = [.int x, .int y] ∧ Q (.int ((Nat.gcd x y : Nat) : Int)) H
end W6
namespace W6
theorem ifF {c : Bool} {A B : Prop} (h : c = false) (b : B) : if c = true then A else B := by rw [h]; exact b
theorem ifT {c : Bool} {A B : Prop} (h : c = true) (x : A) : if c = true then A else B := by rw [h]; exact x
theorem dF {p : Prop} [Decidable p] (h : ¬ p) : decide p = false := decide_eq_false h
theorem dT {p : Prop} [Decidable p] (h : p) : decide p = true := decide_eq_true h
theorem nF {p : Prop} [Decidable p] (h : p) : (!decide p) = false := by rw [decide_eq_true h]; rfl
theorem nT {p : Prop} [Decidable p] (h : ¬ p) : (!decide p) = true := by rw [decide_eq_false h]; rfl
end W6

/-! the objects of the program in the heap, and the promises of its defs -/
namespace W6
open PySem PySem.Spec PyProof.Rows L2
/-- all but one as it was -/
def Fr1 (x : Addr) (H H' : Hp) : Prop := ∀ b o, b ≠ x → H b = some o → H' b = some o
theorem Fr1.of {x : Addr} {H H' : Hp} (h : Same H H') : Fr1 x H H' := fun b o _ e => h b o e
theorem Fr1.trans {x : Addr} {H H1 H2 : Hp} (a : Fr1 x H H1) (b : Fr1 x H1 H2) : Fr1 x H H2 := fun c o h e => b c o h (a c o h e)
theorem Fr1.upd {x : Addr} {H : Hp} {o : HO} : Fr1 x H (L2.upd H x o) := fun b u h e => by rw [upd_ne h]; exact e
/-- behind an __init__ all that stood before the instance was made stands -/
theorem Fr1.made {x dx C : Addr} {H H' : Hp} (nx : H x = none) (nd : H dx = none) (h : Fr1 x (L2.upd (L2.upd H dx (.own x)) x (.ins C dx [])) H') : Same H H' := fun b o e =>
  h b o (ne_of_none e nx) (by rw [upd_ne (ne_of_none e nx), upd_ne (ne_of_none e nd)]; exact e)
theorem same_made {x dx C : Addr} {H : Hp} (nx : H x = none) (nd : H dx = none) : Same H (L2.upd (L2.upd H dx (.own x)) x (.ins C dx [])) := fun b o e => by
  rw [upd_ne (ne_of_none e nx), upd_ne (ne_of_none e nd)]; exact e
/-- without some objects -/
def del (H : Hp) (S : List Addr) : Hp := fun b => if b ∈ S then none else H b
theorem del_in {H : Hp} {S : List Addr} {b : Addr} (h : b ∉ S) : del H S b = H b := if_neg h
theorem del_same {H : Hp} {S : List Addr} : Same (del H S) H := fun b o e => by
  by_cases h : b ∈ S
  · unfold del at e; rw [if_pos h] at e; cases e
  · rw [del_in h] at e; exact e
theorem del_some {H : Hp} {S : List Addr} {b : Addr} {o : HO} (e : del H S b = some o) : b ∉ S ∧ H b = some o := by
  by_cases h : b ∈ S
  · unfold del at e; rw [if_pos h] at e; cases e
  · rw [del_in h] at e; exact ⟨h, e⟩
theorem Fr1.del {x : Addr} {H H' : Hp} {S : List Addr} (h : Fr1 x H H') : Fr1 x (del H S) (del H' S) := fun b o n e => by
  obtain ⟨q, e⟩ := del_some e
  rw [del_in q]; exact h b o n e
theorem Same.del {H H' : Hp} {S : List Addr} (h : Same H H') : Same (del H S) (del H' S) := fun b o e => by
  obtain ⟨q, e⟩ := del_some e
  rw [del_in q]; exact h b o e
section
variable (a : Ad)
def WAt (H : Hp) (z : Addr) (cs : List Int) : Prop := ∃ dx t, H z = some (.ins a.c_Weather dx [("_changes", .ref t)]) ∧ H t = some (.tup (cs.map V.int))
def HAt (H : Hp) (z : Addr) (g lo hi : Int) : Prop := ∃ dx, H z = some (.ins a.c_Heater dx [("_gain", .int g), ("_low", .int lo), ("_high", .int hi)])
def sumsV (cs : List Int) (gg : Int) : List V := (List.range cs.length).map fun r => V.int (Th.pre cs gg r)
def DAt (H : Hp) (z : Addr) (cs : List Int) (gg : Int) : Prop := (CH cs ∧ 0 ≤ gg ∧ gg ≤ 200) ∧ ∃ dx l, H z = some (.ins a.c_Drift dx [("round_ticks", .int cs.length), ("round_sum", .int (Th.rsum cs gg)), ("_sums", .ref l)]) ∧ H l = some (.lst (sumsV cs gg))
def DDs (H : Hp) (t : Addr) (cs : List Int) (g : Int) : Prop := ∃ d0 d1, H t = some (.tup [.ref d0, .ref d1]) ∧ DAt a H d0 cs 0 ∧ DAt a H d1 cs g
def SAt (H : Hp) (z : Addr) (cs : List Int) (g : Int) (on : Bool) (b : Nat) (base : Int) : Prop := ∃ dx td d, H z = some (.ins a.c_Stretch dx [("on", .bl on), ("begin", .int b), ("_drifts", .ref td), ("_drift", .ref d), ("_base", .int base)]) ∧ DDs a H td cs g ∧ DAt a H d cs (Th.gon g on)
def bkV : Option Nat → V
  | none => .non
  | some k => .int k
def TAt (H : Hp) (z : Addr) (bs : List Nat) (back : Option Nat) : Prop := ∃ dx lb, H z = some (.ins a.c_Timeline dx [("back", bkV back), ("last", .int ((bs.length : Int) - 1)), ("_begins", .ref lb)]) ∧ H lb = some (.lst (bs.map fun (b : Nat) => V.int (b : Int)))
/-- the heating of ticks that count 1 each -/
def YAt (H : Hp) (z : Addr) (p : Th.Par) (bs : List Nat) (back : Option Nat) : Prop := ∃ dx am tl ls, H z = some (.ins a.c_HeatingSum dx [("_on", .bl (Th.onn p 0)), ("_amounts", .ref am), ("_timeline", .ref tl), ("_sums", .ref ls)]) ∧ H am = some (.tup [.int 1]) ∧ TAt a H tl bs back ∧ H ls = some (.lst (bs.map fun b => V.int (Th.Hc p b)))
def CAt (H : Hp) (z : Addr) (p : Th.Par) (bs : List Nat) (back : Option Nat) : Prop := ∃ (dx ls tl hs : Addr) (qs : List Addr), H z = some (.ins a.c_Course dx [("_low", .int p.lo), ("_high", .int p.hi), ("_stretches", .ref ls), ("_timeline", .ref tl), ("_heating", .ref hs)]) ∧
  H ls = some (.lst (qs.map V.ref)) ∧ qs.length = bs.length ∧ (∀ (i : Nat) (q : Addr) (b : Nat), qs[i]? = some q → bs[i]? = some b → SAt a H q p.ch p.g (Th.onn p b) b (Th.baB p b)) ∧ TAt a H tl bs back ∧ YAt a H hs p bs back
end
section
variable {a : Ad} {H H' : Hp} {z : Addr}
theorem WAt.same {cs : List Int} (h : WAt a H z cs) (s : Same H H') : WAt a H' z cs := let ⟨dx, t, h1, h2⟩ := h; ⟨dx, t, s _ _ h1, s _ _ h2⟩
theorem HAt.same {g lo hi : Int} (h : HAt a H z g lo hi) (s : Same H H') : HAt a H' z g lo hi := let ⟨dx, h1⟩ := h; ⟨dx, s _ _ h1⟩
theorem DAt.same {cs : List Int} {g : Int} (h : DAt a H z cs g) (s : Same H H') : DAt a H' z cs g := let ⟨b, dx, t, h1, h2⟩ := h; ⟨b, dx, t, s _ _ h1, s _ _ h2⟩
theorem DDs.same {cs : List Int} {g : Int} (h : DDs a H z cs g) (s : Same H H') : DDs a H' z cs g := let ⟨d0, d1, h1, h2, h3⟩ := h; ⟨d0, d1, s _ _ h1, h2.same s, h3.same s⟩
theorem SAt.same {cs : List Int} {g base : Int} {on : Bool} {b : Nat} (h : SAt a H z cs g on b base) (s : Same H H') : SAt a H' z cs g on b base := let ⟨dx, td, d, h1, h2, h3⟩ := h; ⟨dx, td, d, s _ _ h1, h2.same s, h3.same s⟩
theorem TAt.same {bs : List Nat} {back : Option Nat} (h : TAt a H z bs back) (s : Same H H') : TAt a H' z bs back := let ⟨dx, lb, h1, h2⟩ := h; ⟨dx, lb, s _ _ h1, s _ _ h2⟩
theorem YAt.same {p : Th.Par} {bs : List Nat} {back : Option Nat} (h : YAt a H z p bs back) (s : Same H H') : YAt a H' z p bs back := let ⟨dx, am, tl, ls, h1, h2, h3, h4⟩ := h; ⟨dx, am, tl, ls, s _ _ h1, s _ _ h2, h3.same s, s _ _ h4⟩
theorem CAt.same {p : Th.Par} {bs : List Nat} {back : Option Nat} (h : CAt a H z p bs back) (s : Same H H') : CAt a H' z p bs back :=
  let ⟨dx, ls, tl, hs, qs, h1, h2, h3, h4, h5, h6⟩ := h; ⟨dx, ls, tl, hs, qs, s _ _ h1, s _ _ h2, h3, fun i q b e1 e2 => (h4 i q b e1 e2).same s, h5.same s, h6.same s⟩
end
/-! ### promises -/
def spGain : Sp := fun vs H Q _ => ∃ g : Int, vs = [.int g] ∧ 1 ≤ g ∧ g ≤ 200 ∧ Q .non H
def spNum : Sp := fun vs H Q _ => ∃ n l u : Int, vs = [.int n, .int l, .int u] ∧ l ≤ n ∧ n ≤ u ∧ Q .non H
section
variable (a : Ad)
/-- the first value that is out of range or too many; none without one -/
def spFi : Sp := fun vs H Q _ => ∃ (t : Addr) (cs : List Int) (lo hi most : Int), vs = [.ref t, .int lo, .int hi, .int most] ∧ H t = some (.tup (cs.map V.int)) ∧
  (∀ H', Same H H' → cs ≠ [] → (∀ (i : Nat) (c : Int), cs[i]? = some c → (i : Int) < most ∧ lo ≤ c ∧ c ≤ hi) → Q .non H') ∧ (∀ H' (i : Nat) (c : Int), Same H H' → cs[i]? = some c → ¬ ((i : Int) < most ∧ lo ≤ c ∧ c ≤ hi) → (∀ (j : Nat) (d : Int), j < i → cs[j]? = some d → (j : Int) < most ∧ lo ≤ d ∧ d ≤ hi) → Q (.int i) H') ∧ (∀ H', Same H H' → cs = [] → Q (.int 0) H')
def spCb : Sp := fun vs H Q _ => ∃ lo hi : Int, vs = [.int lo, .int hi] ∧ Q (.bl (decide (-1000000000000 ≤ lo ∧ lo ≤ hi ∧ hi ≤ 1000000000000))) H
/-- Weather's __init__ with the tuple of its changes -/
def spWi : Sp := fun vs H Q _ => ∃ (x dx p : Addr) (cs : List Int), vs = [.ref x, .ref p] ∧ H x = some (.ins a.c_Weather dx []) ∧ H p = some (.tup (cs.map V.int)) ∧ CH cs ∧ ∀ H', Fr1 x H H' → WAt a H' x cs → Q .non H'
def spWs : Sp := fun vs H Q E => ∃ ws rest, vs = ws ++ rest ∧ ws.length = ["self"].length ∧ rest.length ≤ sizeLine ∧ ∀ p, H p = Option.none → spWi a (ws ++ [V.ref p]) (upd H p (.tup rest)) Q E
def spWeather : Sp := fun vs H Q _ => ∃ (t : Addr) (cs : List Int), vs = [.ref t] ∧ H t = some (.tup (cs.map V.int)) ∧ CH cs ∧ cs.length ≤ 6 ∧ ∀ z H', Same H H' → WAt a H' z cs → Q (.ref z) H'
def spHi : Sp := fun vs H Q _ => ∃ (x dx : Addr) (g lo hi : Int), vs = [.ref x, .int g, .int lo, .int hi] ∧ H x = some (.ins a.c_Heater dx []) ∧ 1 ≤ g ∧ g ≤ 200 ∧ lo ≤ hi ∧ -1000000000000 ≤ lo ∧ hi ≤ 1000000000000 ∧ ∀ H', Fr1 x H H' → HAt a H' x g lo hi → Q .non H'
def spDi : Sp := fun vs H Q _ => ∃ (x dx t : Addr) (cs : List Int) (gg : Int), vs = [.ref x, .ref t, .int gg] ∧ H x = some (.ins a.c_Drift dx []) ∧ H t = some (.tup (cs.map V.int)) ∧ CH cs ∧ 0 ≤ gg ∧ gg ≤ 200 ∧ ∀ H', Fr1 x H H' → DAt a H' x cs gg → Q .non H'
def spSum : Sp := fun vs H Q _ => ∃ (x : Addr) (t : Nat) (cs : List Int) (gg : Int), vs = [.ref x, .int t] ∧ DAt a H x cs gg ∧ ∀ H', Same H H' → Q (.int (Th.sumTo cs gg t)) H'
def spBoth : Sp := fun vs H Q _ => ∃ (t : Addr) (cs : List Int) (g : Int), vs = [.ref t, .int g] ∧ H t = some (.tup (cs.map V.int)) ∧ CH cs ∧ 1 ≤ g ∧ g ≤ 200 ∧ ∀ z H', Same H H' → DDs a H' z cs g → Q (.ref z) H'
def spSi : Sp := fun vs H Q _ => ∃ (S : List Addr) (x dx td : Addr) (cs : List Int) (g d : Int) (on : Bool) (b : Nat), vs = [.ref x, .ref td, .bl on, .int b, .int d] ∧ H x = some (.ins a.c_Stretch dx []) ∧ x ∉ S ∧ DDs a (del H S) td cs g ∧ ∀ H', Fr1 x H H' → SAt a (del H' S) x cs g on b (d - Th.sumTo cs (Th.gon g on) b) → Q .non H'
def spDeg : Sp := fun vs H Q _ => ∃ (x : Addr) (t b : Nat) (cs : List Int) (g base : Int) (on : Bool), vs = [.ref x, .int t] ∧ SAt a H x cs g on b base ∧ ∀ H', Same H H' → Q (.int (Th.Dg cs (Th.gon g on) base t)) H'
def spState : Sp := fun vs H Q _ => ∃ (x : Addr) (b : Nat) (cs : List Int) (g base : Int) (on : Bool), vs = [.ref x] ∧ SAt a H x cs g on b base ∧ ∀ z H', Same H H' → H z = none → H' z = some (.tup [.int (((b % cs.length : Nat)) : Int), .int (Th.Dg cs (Th.gon g on) base b), .bl on]) → Q (.ref z) H'
def spSwitched : Sp := fun vs H Q _ => ∃ (S : List Addr) (x : Addr) (e b : Nat) (cs : List Int) (g base : Int) (on : Bool), vs = [.ref x, .int e] ∧ (∀ s ∈ S, ∃ o, H s = some o) ∧ SAt a (del H S) x cs g on b base ∧ ∀ z H', Same H H' → H z = none → SAt a (del H' S) z cs g (!on) e (Th.Dg cs (Th.gon g on) base e - Th.sumTo cs (Th.gon g (!on)) e) → Q (.ref z) H'
def spLevel : Sp := fun vs H Q _ => ∃ (x : Addr) (b : Nat) (cs : List Int) (g base : Int) (on : Bool), vs = [.ref x] ∧ SAt a H x cs g on b base ∧ Q (if Th.rsum cs (Th.gon g on) = 0 then .int cs.length else .non) H
def optV : Option Nat → V
  | none => .non
  | some k => .int k
def spFb : Sp := fun vs H Q _ => ∃ (x : Addr) (b : Nat) (cs : List Int) (g base bound sgn : Int) (on : Bool), vs = [.ref x, .int bound, .int sgn] ∧ SAt a H x cs g on b base ∧ b ≤ 1000000000000000000 ∧ (sgn = 1 ∨ sgn = -1) ∧
  ∀ r H', Same H H' → Th.FB cs (Th.gon g on) base b sgn bound r → Q (optV r) H'
def spHst : Sp := fun vs H Q _ => ∃ (d lo hi : Int) (b : Bool), vs = [.int d, .int lo, .int hi, .bl b] ∧ Q (.bl (Th.hst d lo hi b)) H
def spEnd : Sp := fun vs H Q _ => ∃ (c x dx : Addr) (fs : List (Str × V)) (p : Th.Par) (b : Nat), vs = [.ref c, .ref x] ∧ H c = some (.ins a.c_Course dx fs) ∧ fs.lookup ("_low" : Str) = some (.int p.lo) ∧ fs.lookup ("_high" : Str) = some (.int p.hi) ∧ fs.lookup ("first_beyond" : Str) = none ∧ SAt a H x p.ch p.g (Th.onn p b) b (Th.baB p b) ∧ b ≤ 1000000000000000000 ∧
  ∀ r H', Same H H' → Th.FB p.ch (Th.ggB p b) (Th.baB p b) b (Th.sgB p b) (Th.bdB p b) r → Q (optV r) H'
end
end W6

namespace W6
open PySem PySem.Spec PyProof.Rows L2
theorem ix_of {n : Nat} {z : Int} (h0 : 0 ≤ z) (h1 : z < n) : ixN n z = some z.toNat := by
  unfold ixN
  rw [if_pos h0, if_pos h1]
theorem at_int {xs : List V} {z : Int} {v : V} (h0 : 0 ≤ z) (h : xs[z.toNat]? = some v) : atI xs z = some v := by
  unfold atI
  have hl := (List.getElem?_eq_some_iff.mp h).1
  rw [ix_of h0 (by omega)]
  exact h
theorem map_at {cs : List Int} {j : Nat} (h : j < cs.length) : (cs.map V.int)[j]? = some (.int (cs.getD j 0)) := by
  simp [h]
theorem pick {cs : List Int} {i : Int} (i0 : 0 ≤ i) : ∃ c : Int, atI (cs.map V.int ++ [V.int 0]) (i % (if (((cs.map V.int).length : Nat) : Int) > 1 then (((cs.map V.int).length : Nat) : Int) else 1)) = some (.int c) ∧ (1000000000000000000 ≤ c → 0 < cs.length) := by
  rw [List.length_map]
  cases cs with
  | nil =>
    refine ⟨0, ?_, fun h => by omega⟩
    simp only [List.length_nil, Int.natCast_zero]
    rw [if_neg (by omega), show i % 1 = 0 by omega]
    rfl
  | cons e r =>
    generalize hn : (if (((e :: r).length : Nat) : Int) > 1 then (((e :: r).length : Nat) : Int) else 1) = n
    have hn2 : n = ((e :: r).length : Nat) := by
      subst hn
      simp only [List.length_cons]
      split <;> omega
    have npos : 0 < n := by rw [hn2]; simp only [List.length_cons]; omega
    have h0 : 0 ≤ i % n := Int.emod_nonneg _ (by omega)
    have h1 : i % n < n := Int.emod_lt_of_pos _ npos
    refine ⟨(e :: r).getD (i % n).toNat 0, at_int h0 ?_, fun _ => by simp⟩
    have hl : (i % n).toNat < (e :: r).length := by omega
    rw [List.getElem?_append_left (by rw [List.length_map]; exact hl)]
    exact map_at hl
section
variable {P : Program} {w : World} {K : PySem.W.Frag} {mg : Str → Option Value} {base : Heap} {a : Ad}
theorem ok__law_next (T : Txt K mg a) : FnOk P w K mg base CX0 1 a.f__law_next a.d__law_next ["_law_h", "_law_limit"] spNext := by
  refine T.F__law_next.ok sc__law_next (fun vs H Q E h => ?_) (fun cdv A outer s H vs Q E hr h => ?_)
  · obtain ⟨x, y, lim, rfl, _⟩ := h
    rfl
  · obtain ⟨x, y, lim, rfl, lh, l0, l1, k⟩ := h
    have hne := lh.ne
    obtain ⟨m, i, cs, hx, hy, m0, m1, i0, cl⟩ := id lh
    refine ⟨_, (pss_cons (ps_set (i := 2) sc__law_next.nd rfl (Or.inl rfl) (pe_ix ix_list (pe_op op_cat (pe_ix ix_list (pv 0) pe_int (fun _ _ => rfl)) (pe_lst (pa_cons pe_int pa_nil))) (pe_op op_mod (pe_ix ix_list (pv 0) pe_int (fun _ _ => rfl)) (pe_callB (call_max2 rfl) (by rfl) T.z_max (by decide +kernel) (pa_cons pe_int (pa_cons (pe_callB call_len_seq (by rfl) T.z_len PySem.boot_len (pa_cons (pe_ix ix_list (pv 0) pe_int (fun _ _ => rfl)) pa_nil)) pa_nil)))) (fun _ _ => rfl)))
      (pss_cons (ps_if (pt_cmpR op_ge (pv 2) (pe_op op_pow pe_int pe_int) (nomark _)) (pss_cons (ps_asg (pe_op op_fdivW (pv 2) (pv 1)) (pg_sub (pe_ix ix_list (pv 0) pe_int (fun _ _ => rfl)) (pe_op op_mod (pe_ix ix_list (pv 0) pe_int (fun _ _ => rfl)) (pe_callB call_len_seq (by rfl) T.z_len PySem.boot_len (pa_cons (pe_ix ix_list (pv 0) pe_int (fun _ _ => rfl)) pa_nil))) set_list))
      (pss_one (ps_ret (pe_op op_mod (pv 2) (pv 1))))) pss_nil)
      (pss_cons (ps_asg (pe_op op_mod (pe_op op_add (pe_op op_add (pe_op op_mul (pe_ix ix_list (pv 0) pe_int (fun _ _ => rfl)) pe_int) (pe_op op_mul (pv 2) pe_int)) pe_int) pe_int) (pg_sub (pv 0) pe_int set_list))
      (pss_cons (ps_asg (pe_op op_add (pe_ix ix_list (pv 0) pe_int (fun _ _ => rfl)) pe_int) (pg_sub (pv 0) pe_int set_list))
      (pss_one (ps_ret (pe_op op_mod (pe_op op_fdiv (pe_ix ix_list (pv 0) pe_int (fun _ _ => rfl)) pe_int) (pv 1)))))))), ?_⟩
    refine ⟨_, rfl, x, _, _, _, rfl, rfl, SqL.of hx, rfl, (by show 1 ≤ sizeLine; decide), fun p hp => ?_⟩
    have op := lh.off hp
    have y1 : (upd H p (.lst [V.int 0])) y = some (.lst (cs.map V.int)) := by rw [upd_ne op.2.symm]; exact hy
    refine ⟨y, p, _, _, rfl, rfl, y1, upd_same, (by rw [List.length_map]; exact Nat.le_trans (Nat.add_le_add_right cl _) (by decide)), fun q hq => ?_⟩
    have s1 : Same H (upd (upd H p (.lst [V.int 0])) q (.lst (cs.map V.int ++ [V.int 0]))) := (same_upd hp).trans (same_upd hq)
    generalize hH2 : upd (upd H p (.lst [V.int 0])) q (.lst (cs.map V.int ++ [V.int 0])) = H2 at s1
    have q2 : H2 q = some (.lst (cs.map V.int ++ [V.int 0])) := by rw [← hH2]; exact upd_same
    have x2 := s1 _ _ hx
    have y2 := s1 _ _ hy
    obtain ⟨c, hc, hc2⟩ := pick (cs := cs) i0
    refine ⟨_, rfl, x, _, _, _, rfl, rfl, SqL.of x2, rfl, _, rfl, x, _, _, _, rfl, rfl, SqL.of x2, rfl, y, _, rfl, .inl (SqL.of y2), _, _, rfl, _, _, rfl, rfl, (by dsimp only; split <;> omega), q, _, _, _, rfl, rfl, SqL.of q2, hc, ?_⟩
    refine ⟨_, rfl, _, _, rfl, rfl, ⟨by decide, by decide, by decide⟩, _, _, rfl, rfl, _, rfl, ?_⟩
    refine ite2 (fun big => ?_) (fun small => ?_)
    · have big' : (1000000000000000000 : Int) ≤ c := of_decide_eq_true big
      have cpos := hc2 big'
      have jn : (0 : Int) ≤ i % (((cs.map V.int).length : Nat) : Int) := Int.emod_nonneg _ (by rw [List.length_map]; omega)
      have jl : i % (((cs.map V.int).length : Nat) : Int) < (((cs.map V.int).length : Nat) : Int) := Int.emod_lt_of_pos _ (by rw [List.length_map]; omega)
      refine ⟨_, rfl, _, rfl, _, _, rfl, rfl, wide_div (b := 64) l0 (by omega) (by decide) (by decide), _, rfl, x, _, _, _, rfl, rfl, SqL.of x2, rfl, _, rfl, x, _, _, _, rfl, rfl, SqL.of x2, rfl, _, rfl, x, _, _, _, rfl, rfl, SqL.of x2, rfl, y, _, rfl, .inl (SqL.of y2), _, _, rfl, rfl, (by rw [List.length_map]; omega), y, _, _, _, rfl, rfl, y2, ix_of jn jl, ?_⟩
      refine ⟨_, rfl, _, rfl, _, _, rfl, rfl, l0, k _ _ (Int.emod_nonneg _ (by omega)) (Int.emod_lt_of_pos _ l0) ?_ ?_⟩
      · · refine ⟨m, i, cs.set (i % (((cs.map V.int).length : Nat) : Int)).toNat (c / lim), by rw [upd_ne hne]; exact x2, by rw [upd_same, List.map_set], m0, m1, i0, by rw [List.length_set]; exact cl⟩
      · intro b o h1 h2 h3
        rw [upd_ne h2]
        exact s1 _ _ h3
    · refine ⟨_, rfl, x, _, _, _, rfl, rfl, SqL.of x2, rfl, _, _, rfl, rfl, .inr ⟨by decide, by decide⟩, _, rfl, _, _, rfl, rfl, .inr ⟨by decide, by decide⟩, _, _, rfl, rfl, _, _, rfl, rfl, _, _, rfl, rfl, (by show (0 : Int) < 2147483647; decide), _, rfl, x, _, _, _, rfl, rfl, x2, rfl, ?_⟩
      refine ⟨_, rfl, x, _, _, _, rfl, rfl, SqL.of upd_same, rfl, _, _, rfl, rfl, _, rfl, x, _, _, _, rfl, rfl, upd_same, rfl, ?_⟩
      refine ⟨_, rfl, x, _, _, _, rfl, rfl, SqL.of upd_same, rfl, _, _, rfl, rfl, ⟨by decide, by decide⟩, _, rfl, _, _, rfl, rfl, l0, k _ _ (Int.emod_nonneg _ (by omega)) (Int.emod_lt_of_pos _ l0) ?_ ?_⟩
      · exact ⟨_, _, cs, upd_same, by rw [upd_ne hne.symm, upd_ne hne.symm]; exact y2, Int.emod_nonneg _ (by omega), Int.emod_lt_of_pos _ (by omega), by omega, cl⟩
      · intro b o h1 h2 h3
        rw [upd_ne h1, upd_ne h1]
        exact s1 _ _ h3
theorem ok__law_mix (T : Txt K mg a) : FnOk P w K mg base CX0 1 a.f__law_mix a.d__law_mix ["_law_script", "_law_seed"] (spMix K) := by
  refine T.F__law_mix.ok sc__law_mix (fun vs H Q E h => ?_) (fun cdv A outer s H vs Q E hr h => ?_)
  · obtain ⟨c, ns, z, rfl, _⟩ := h
    rfl
  · obtain ⟨c, ns, z, rfl, hS, z0, z1, hl, k⟩ := h
    refine ⟨_, (pss_cons (ps_set (i := 2) sc__law_mix.nd rfl (Or.inl rfl) (pv 1))
      (pss_cons (ps_for PassesOwn.never rfl (pi_list (pv 0)) (pg_name (i := 3) sc__law_mix.nd rfl (Or.inl rfl))
        (pss_one (ps_set (i := 2) sc__law_mix.nd rfl (Or.inl rfl) (pe_op op_mod (pe_op op_add (pe_op op_add (pe_op op_mul (pv 2) pe_int) (pe_op op_mod (pv 3) pe_int)) pe_int) pe_int))))
      (pss_one (ps_ret (pe_lst (pa_cons (pv 2) (pa_cons (pe_callTy call_list_of (by rfl) T.z_list (by decide +kernel) (pa_cons (pv 0) pa_nil)) (pa_cons pe_int pa_nil)))))))), ?_⟩
    refine ⟨_, rfl, _, rfl, c, rfl, ⟨_, hS⟩, for_list (K := K) (a := c) (xs := ns.map V.int) (fun i σ H' => ∃ (m : Int) (v : Option V), σ = [some (.ref c), some (.int z), some (.int m), v] ∧ 0 ≤ m ∧ m < 2147483647 ∧ H' = H) ⟨z, none, rfl, z0, z1, rfl⟩ (fun i σ H' _ ⟨_, _, _, _, _, e⟩ => e ▸ hS) ?_ ?_⟩
    · rintro i v σ H' hi ⟨m, o, rfl, m0, m1, rfl⟩
      obtain ⟨u, rfl⟩ : ∃ u, v = V.int u := by
        rw [List.getElem?_map] at hi
        cases e : ns[i]? with
        | none => rw [e] at hi; cases hi
        | some u => rw [e] at hi; exact ⟨u, (Option.some.inj hi).symm⟩
      refine ⟨_, rfl, _, _, rfl, rfl, .inr ⟨by decide, by decide⟩, _, rfl, _, _, rfl, rfl, (by show (0 : Int) < 2147483629; decide), _, _, rfl, rfl, _, _, rfl, rfl, _, _, rfl, rfl, (by show (0 : Int) < 2147483647; decide), ?_⟩
      exact ⟨_, _, rfl, Int.emod_nonneg _ (by omega), Int.emod_lt_of_pos _ (by omega), rfl⟩
    · rintro σ H' ⟨m, o, rfl, m0, m1, rfl⟩
      refine ⟨_, rfl, _, rfl, c, _, rfl, .inl hS, fun y hy => ⟨by show 3 ≤ sizeLine; decide, fun x hx => ?_⟩⟩
      have nyx : y ≠ x := ne_of_none upd_same hx
      have hx0 : H' x = none := by rw [upd_ne nyx.symm] at hx; exact hx
      refine k x y _ ⟨m, 0, ns, upd_same, by rw [upd_ne nyx]; exact upd_same, m0, m1, by omega, hl⟩ ((same_upd hy).trans (same_upd hx)) hx0 hy
end
end W6

namespace W6
open PySem PySem.Spec PyProof.Rows L2
section
variable {P : Program} {w : World} {K : PySem.W.Frag} {mg : Str → Option Value} {base : Heap} {a : Ad}
theorem three {r : Int} (h0 : 0 ≤ r) (h1 : r < 3) (A B C : V) : ∃ v, atI [A, B, C] r = some v ∧ (v = A ∨ v = B ∨ v = C) := by
  rcases (show r = 0 ∨ r = 1 ∨ r = 2 by omega) with rfl | rfl | rfl
  · exact ⟨A, rfl, .inl rfl⟩
  · exact ⟨B, rfl, .inr (.inl rfl)⟩
  · exact ⟨C, rfl, .inr (.inr rfl)⟩
theorem ok__law_changes (T : Txt K mg a) : FnOk P w K mg base CX0 2 a.f__law_changes a.d__law_changes ["_law_h", "_law_most"] spChanges := by
  have G__law_next : FnOk P w K mg base CX0 1 a.f__law_next a.d__law_next ["_law_h", "_law_limit"] spNext := ok__law_next T
  refine T.F__law_changes.ok sc__law_changes (fun vs H Q E h => ?_) (fun cdv A outer s H vs Q E hr h => ?_)
  · obtain ⟨x, y, z, rfl, _⟩ := h
    rfl
  · obtain ⟨x, y, most, rfl, lh, m1, m2, k⟩ := h
    refine ⟨_, (pss_cons (ps_par (i := 2) (j := 3) (by rfl) sc__law_changes.nd rfl rfl (by decide) rfl rfl (pa_cons (pe_ix ix_list (pe_lst (pa_cons pe_int (pa_cons pe_int (pa_cons pe_int pa_nil)))) (pe_call G__law_next (hr.mono (by decide)) (by rfl) T.mg__law_next T.F__law_next.kp (b__law_next T) .nil pass0 (pa_cons (pv 0) (pa_cons pe_int pa_nil))) (fun _ _ => rfl)) (pa_cons (pe_lst pa_nil) pa_nil)) (by rfl))
      (pss_cons (ps_set (i := 4) sc__law_changes.nd rfl (Or.inl rfl) (pe_op op_sub (pe_op op_sub (pe_call G__law_next (hr.mono (by decide)) (by rfl) T.mg__law_next T.F__law_next.kp (b__law_next T) .nil pass0 (pa_cons (pv 0) (pa_cons (pe_op op_add (pe_op op_mul pe_int (pv 2)) pe_int) pa_nil))) (pv 2)) (pe_op op_fdiv (pv 2) pe_int)))
      (pss_cons (ps_for PassesOwn.never rfl (pi_range1 (by rfl) T.z_range (pa_cons (pe_op op_add pe_int (pe_call G__law_next (hr.mono (by decide)) (by rfl) T.mg__law_next T.F__law_next.kp (b__law_next T) .nil pass0 (pa_cons (pv 0) (pa_cons (pv 1) pa_nil)))) pa_nil)) (pg_name (i := 5) sc__law_changes.nd rfl (Or.inl rfl))
        (pss_one (ps_expr (pe_bm PySem.F.plainAttrs_list PySem.F.slot_list_append PySem.F.type_list_append mt_append (pv 3) (pa_cons (pe_op op_mul (pe_callB (call_max2 rfl) (by rfl) T.z_max (by decide +kernel) (pa_cons (pe_un un_neg pe_int) (pa_cons (pe_callB (call_min2 rfl) (by rfl) T.z_min (by decide +kernel) (pa_cons pe_int (pa_cons (pe_op op_add (pv 4) (pe_call G__law_next (hr.mono (by decide)) (by rfl) T.mg__law_next T.F__law_next.kp (b__law_next T) .nil pass0 (pa_cons (pv 0) (pa_cons (pe_op op_add (pv 2) pe_int) pa_nil)))) pa_nil))) pa_nil))) (pe_callTy call_int1 (by rfl) T.z_int (by decide +kernel) (pa_cons (pe_cmpR op_gt (pe_call G__law_next (hr.mono (by decide)) (by rfl) T.mg__law_next T.F__law_next.kp (b__law_next T) .nil pass0 (pa_cons (pv 0) (pa_cons pe_int pa_nil))) pe_int (nomark _)) pa_nil))) pa_nil)))))
      (pss_one (ps_ret (pe_callTy call_tuple_of (by rfl) T.z_tuple (by decide +kernel) (pa_cons (pv 3) pa_nil))))))), ?_⟩
    refine ⟨by show 3 ≤ sizeLine; decide, fun p hp => ⟨_, rfl, x, y, 3, rfl, lh.same (same_upd hp), by decide, by decide, fun r H2 r0 r1 lh2 k2 => ?_⟩⟩
    have op := lh.off hp
    have hp2 : H2 p = some (.lst [.int 3, .int 9, .int 100]) := k2 _ _ op.1 op.2 upd_same
    have kk : Keep x y H H2 := (Keep.of (same_upd hp)).trans k2
    obtain ⟨v, hv, hv2⟩ := three r0 r1 (V.int 3) (V.int 9) (V.int 100)
    obtain ⟨wd, rfl, w1, w2⟩ : ∃ wd : Int, v = .int wd ∧ 3 ≤ wd ∧ wd ≤ 100 := by
      rcases hv2 with rfl | rfl | rfl
      · exact ⟨3, rfl, by decide, by decide⟩
      · exact ⟨9, rfl, by decide, by decide⟩
      · exact ⟨100, rfl, by decide, by decide⟩
    refine ⟨p, _, _, _, rfl, rfl, SqL.of hp2, hv, Nat.zero_le _, fun q hq => ⟨_, _, rfl, ?_⟩⟩
    have oq := lh2.off hq
    have q0 : H q = none := kk.free lh2 hq
    refine ⟨_, rfl, _, rfl, _, _, rfl, rfl, .inl ⟨by decide, by decide⟩, _, _, rfl, rfl, x, y, _, rfl, lh2.same (same_upd hq), by omega, by omega, fun r2 H3 r20 r21 lh3 k3 => ?_⟩
    have hq3 : H3 q = some (.lst []) := k3 _ _ oq.1 oq.2 upd_same
    have kk3 : Keep x y H H3 := (kk.trans (Keep.of (same_upd hq))).trans k3
    refine ⟨_, rfl, _, _, rfl, rfl, _, rfl, _, _, rfl, rfl, ⟨by decide, by decide⟩, _, _, rfl, rfl, ?_⟩
    refine ⟨_, rfl, _, rfl, x, y, most, rfl, lh3, by omega, by omega, fun r4 H4 r40 r41 lh4 k4 => ⟨_, _, rfl, rfl, 1 + r4, rfl, by omega, by omega, ?_⟩⟩
    generalize hlow : r2 - wd - wd / 2 = low
    have hq4 : H4 q = some (.lst []) := k4 _ _ oq.1 oq.2 hq3
    refine for_range (lo := 0) (n := (1 + r4).toNat) (fun i σ H' => ∃ (cs : List Int) (v : Option V), σ = [some (.ref x), some (.int most), some (.int wd), some (.ref q), some (.int low), v] ∧ H' q = some (.lst (cs.map V.int)) ∧ cs.length = i ∧ (∀ c ∈ cs, -100 ≤ c ∧ c ≤ 100) ∧ LH H' x y ∧ Keep x y H H')
      ⟨[], none, (by rw [← hlow]; rfl), hq4, rfl, (by intro c hc; cases hc), lh4, kk3.trans k4⟩ ?_ ?_
    · rintro i σ H' hi ⟨cs, v, rfl, hq', hl, hb, lh', kk'⟩
      refine ⟨_, rfl, .inl ⟨rfl, _, SqL.of hq'⟩, _, rfl, _, rfl, _, rfl, _, rfl, _, _, rfl, rfl, x, y, _, rfl, lh', by omega, by omega, fun r5 H5 r50 r51 lh5 k5 => ?_⟩
      have hq5 := k5 _ _ oq.1 oq.2 hq'
      refine ⟨_, _, rfl, rfl, _, _, rfl, _, _, rfl, _, rfl, x, y, 5, rfl, lh5, by decide, by decide, fun r6 H6 r60 r61 lh6 k6 => ?_⟩
      have hq6 := k6 _ _ oq.1 oq.2 hq5
      refine ⟨_, _, rfl, rfl, .inr ⟨_, rfl, ?_⟩⟩
      generalize hm : (if (if low + r5 < 100 then low + r5 else 100) > -100 then (if low + r5 < 100 then low + r5 else 100) else -100) = mx
      have mb : -100 ≤ mx ∧ mx ≤ 100 := by
        subst hm
        split <;> split <;> omega
      refine ⟨_, _, rfl, rfl, .inl ⟨by omega, by omega⟩, q, _, _, rfl, rfl, hq6, by rw [List.length_map]; exact small1000 (by omega), ?_⟩
      generalize hc : mx * (if decide (0 < r6) = true then 1 else 0) = c
      have cb : -100 ≤ c ∧ c ≤ 100 := by
        subst hc
        split
        · rw [Int.mul_one]; exact mb
        · rw [Int.mul_zero]; omega
      refine ⟨cs ++ [c], _, rfl, by rw [upd_same, List.map_append, ← hc, ← hm]; rfl, by rw [List.length_append, List.length_singleton, hl], ?_, ?_, ?_⟩
      · intro z hz
        rcases List.mem_append.mp hz with hz | hz
        · exact hb z hz
        · obtain rfl := List.mem_singleton.mp hz
          exact cb
      · obtain ⟨m, j, cl, e1, e2, e3⟩ := lh6
        exact ⟨m, j, cl, by rw [upd_ne oq.1.symm]; exact e1, by rw [upd_ne oq.2.symm]; exact e2, e3⟩
      · intro b o h1 h2 h3
        rw [upd_ne (ne_of_none h3 q0)]
        exact k6 _ _ h1 h2 (k5 _ _ h1 h2 (kk' _ _ h1 h2 h3))
    · rintro σ H' ⟨cs, v, rfl, hq', hl, hb, lh', kk'⟩
      refine ⟨_, rfl, q, _, rfl, .inl ⟨SqL.of hq', fun z hz => ?_⟩⟩
      have oz := lh'.off hz
      refine k z cs _ ⟨by omega, by omega, hb⟩ (by omega) upd_same (kk'.free lh' hz) (lh'.same (same_upd hz)) (kk'.trans (Keep.of (same_upd hz)))
end
end W6

namespace W6
open PySem PySem.Spec PyProof.Rows L2
section
variable {P : Program} {w : World} {K : PySem.W.Frag} {mg : Str → Option Value} {base : Heap} {a : Ad}
theorem two {r : Int} (h0 : 0 ≤ r) (h1 : r < 2) (A B : V) : ∃ v, atI [A, B] r = some v ∧ (v = A ∨ v = B) := by
  rcases (show r = 0 ∨ r = 1 by omega) with rfl | rfl
  · exact ⟨A, rfl, .inl rfl⟩
  · exact ⟨B, rfl, .inr rfl⟩
theorem five {r : Int} (h0 : 0 ≤ r) (h1 : r < 5) (A B C D F : V) : ∃ v, atI [A, B, C, D, F] r = some v ∧ (v = A ∨ v = B ∨ v = C ∨ v = D ∨ v = F) := by
  rcases (show r = 0 ∨ r = 1 ∨ r = 2 ∨ r = 3 ∨ r = 4 by omega) with rfl | rfl | rfl | rfl | rfl
  · exact ⟨A, rfl, .inl rfl⟩
  · exact ⟨B, rfl, .inr (.inl rfl)⟩
  · exact ⟨C, rfl, .inr (.inr (.inl rfl))⟩
  · exact ⟨D, rfl, .inr (.inr (.inr (.inl rfl)))⟩
  · exact ⟨F, rfl, .inr (.inr (.inr (.inr rfl)))⟩
end
end W6

namespace W6
open PySem PySem.Spec PyProof.Rows L2 Ru StX
section
variable {P : Program} {w : World} {K : PySem.W.Frag} {mg : Str → Option Value} {base : Heap} {a : Ad}
theorem ok_first_invalid (T : Txt K mg a) : FnOk P w K mg base CX0 1 a.f_first_invalid a.d_first_invalid ["values", "least", "greatest", "most"] spFi := by
  refine T.F_first_invalid.ok sc_first_invalid (fun vs H Q E h => ?_) (fun cdv A outer s H vs Q E hr h => ?_)
  · obtain ⟨t, cs, lo, hi, most, rfl, _⟩ := h
    rfl
  · obtain ⟨t, cs, lo, hi, most, rfl, ht, k1, k2, k3⟩ := h
    refine ⟨_, (pss_cons (ps_for PassesOwn.never rfl (pi_enumT (by rfl) T.z_enumerate (pa_cons (pv 0) pa_nil)) (pg_tup rfl (pgs_cons (pg_name (i := 4) sc_first_invalid.nd rfl (Or.inl rfl)) (pgs_cons (pg_name (i := 5) sc_first_invalid.nd rfl (Or.inl rfl)) pgs_nil)))
        (pss_one (ps_if (PW.pt (pw_or (pt_cmpR op_ge (pv 4) (pv 3) (nomark _)) (pw_or1 (pt_not (pt_chain op_le op_le (pv 1) (pv 5) (pv 2)))))) (pss_one (ps_ret (pv 4))) pss_nil)))
      (pss_one (ps_ret (pe_ifExp (pt_cmpR op_eq (pe_callB call_len_seq (by rfl) T.z_len PySem.boot_len (pa_cons (pv 0) pa_nil)) pe_int (nomark _)) pe_int pe_non)))), ?_⟩
    refine ⟨_, rfl, t, cs.map V.int, rfl, SqT.of ht, for_enumT (fun i σ H' => (∃ u v : Option V, σ = [some (.ref t), some (.int lo), some (.int hi), some (.int most), u, v] ∧ Same H H') ∧ ∀ (j : Nat) (d : Int), j < i → cs[j]? = some d → (j : Int) < most ∧ lo ≤ d ∧ d ≤ hi) ⟨⟨none, none, rfl, Same.refl _⟩, fun j d hj => absurd hj (Nat.not_lt_zero _)⟩ (fun i σ H' ⟨⟨_, _, _, s⟩, _⟩ => SqT.of (s _ _ ht)) ?_ ?_⟩
    · rintro i v σ H' tt hi' ⟨⟨u1, u2, rfl, sm⟩, ok⟩ htt
      obtain ⟨c, hc, rfl⟩ : ∃ c, cs[i]? = some c ∧ v = V.int c := by
        rw [List.getElem?_map] at hi'
        cases e : cs[i]? with
        | none => rw [e] at hi'; cases hi'
        | some c => rw [e] at hi'; exact ⟨c, rfl, (Option.some.inj hi').symm⟩
      have sm2 : Same H (upd H' tt (.tup [.int (i : Nat), .int c])) := sm.trans (same_upd htt)
      refine ⟨tt, _, rfl, SqT.of upd_same, rfl, _, _, rfl, _, _, rfl, rfl, ?_⟩
      refine ⟨_, rfl, _, rfl, _, _, rfl, rfl, _, rfl, ?_⟩
      by_cases c1 : most ≤ (i : Int)
      · refine ifT (dT c1) ⟨_, rfl, ?_⟩
        exact k2 _ i c sm2 hc (fun q => by omega) ok
      · refine ifF (dF c1) ⟨_, rfl, _, rfl, _, _, rfl, rfl, _, rfl, ?_⟩
        by_cases c2 : lo ≤ c
        · refine ifT (dT c2) ⟨_, rfl, _, _, rfl, rfl, _, rfl, ?_⟩
          by_cases c3 : c ≤ hi
          · refine ifF (nF c3) ?_
            refine ⟨⟨_, _, rfl, sm2⟩, fun j d hj e => ?_⟩
            by_cases q : j < i
            · exact ok j d q e
            · obtain rfl : j = i := by omega
              rw [hc] at e; cases e
              exact ⟨by omega, c2, c3⟩
          · refine ifT (nT c3) ⟨_, rfl, ?_⟩
            exact k2 _ i c sm2 hc (fun q => c3 q.2.2) ok
        · refine ifF (dF c2) ⟨_, rfl, ?_⟩
          refine ifT rfl ⟨_, rfl, ?_⟩
          exact k2 _ i c sm2 hc (fun q => c2 q.2.1) ok
    · rintro σ H' ⟨⟨u1, u2, rfl, sm⟩, ok⟩
      refine ⟨_, rfl, t, _, rfl, .inr (SqT.of (sm _ _ ht)), rfl, _, rfl, ?_⟩
      by_cases e0 : cs = []
      · subst e0
        exact ifT rfl (k3 _ sm rfl)
      · refine ifF (dF (by intro q; injection q with q; rw [List.length_map] at q; exact e0 (List.eq_nil_of_length_eq_zero (by omega)))) ?_
        refine k1 _ sm e0 fun i c hc => ok i c ?_ hc
        rw [List.length_map]
        exact (List.getElem?_eq_some_iff.mp hc).1
/-- Weather(..) -/
theorem ok_Weather_init (T : Txt K mg a) : FnR P w K mg base CX0 2 a.f_Weather_init (spWs a) := by
  have G_first_invalid : FnOk P w K mg base CX0 1 a.f_first_invalid a.d_first_invalid ["values", "least", "greatest", "most"] spFi := ok_first_invalid T
  obtain ⟨oc, od, kV, doc, pm, an, cdv, ct, osl, e, lk, hcd⟩ := T.F_Weather_init.ex
  rw [e] at lk
  refine fn_star (ps := ["self"]) (pv := "changes") (sp := spWi a) lk hcd sc_Weather_init cxUp_none (bind_star1 (B := fun us => bindArgs (PySem.W.fnOf "__init__" "Weather.__init__" (defArgs s_Weather_init) (defBody s_Weather_init) (defScope s_Weather_init) .none kV doc pm an cdv ct) ⟨us, []⟩) (fun _ => rfl) (fun _ _ _ => rfl)) (fun A outer s H vs Q E hr h => ?_)
  obtain ⟨x, dx, p, cs, rfl, hx, hp, ⟨c1, c2, c3⟩, k⟩ := h
  obtain ⟨tt, cvT⟩ := T.cv_Weather_MAX_TICKS
  obtain ⟨tc, cvC⟩ := T.cv_Weather_MAX_CHANGE
  have npx : p ≠ x := ne_of hp hx (fun z => nomatch z)
  refine ⟨_, PSs.nox ((pss_cons (ps_set (i := 2) sc_Weather_init.nd rfl (Or.inl rfl) (pe_call G_first_invalid (hr.mono (by decide)) (by rfl) T.mg_first_invalid T.F_first_invalid.kp (b_first_invalid T) .nil pass0 (pa_cons (pv 1) (pa_cons (pe_un un_neg (pe_con (pv 0) rfl)) (pa_cons (pe_con (pv 0) rfl) (pa_cons (pe_con (pv 0) rfl) pa_nil))))))
      (pss_cons (ps_if (pt_cmpR op_notN (pv 2) pe_non (nomark _)) (pss_one (ps_never)) pss_nil)
      (pss_one (ps_fld (pv 0) (pv 1) rfl))))), ?_⟩
  refine ⟨_, rfl, _, rfl, x, _, dx, _, _, _, rfl, hx, T.cl_Weather, cvC, rfl, _, rfl, _, rfl, x, _, dx, _, _, _, rfl, hx, T.cl_Weather, cvC, rfl, _, rfl, x, _, dx, _, _, _, rfl, hx, T.cl_Weather, cvT, rfl, p, cs, _, _, _, rfl, hp, fun H' sm _ _ => ?_, fun H' i c sm hc bad _ => ?_, fun H' _ e0 => ?_⟩
  · refine ⟨_, rfl, rfl, _, rfl, ?_⟩
    refine ifF rfl ?_
    refine ⟨_, rfl, _, rfl, x, _, dx, _, rfl, sm _ _ hx, T.cl_Weather, T.na_Weather__changes, by show 0 < 1000; decide, ?_⟩
    exact k _ ((Fr1.of sm).trans Fr1.upd) ⟨dx, p, by rw [upd_same]; rfl, by rw [upd_ne npx]; exact sm _ _ hp⟩
  · have := c3 c (List.mem_of_getElem? hc)
    have := (List.getElem?_eq_some_iff.mp hc).1
    exact absurd ⟨by omega, by omega, by omega⟩ bad
  · rw [e0] at c1
    exact absurd c1 (by decide)
/-- what the making of a weather asks -/
theorem weather_made {H : Hp} {Q : VK} {E : XK} {cs : List Int} (c : CH cs) (k : ∀ z H', Same H H' → WAt a H' z cs → Q (.ref z) H') : ∀ x dx, H x = none → H dx = none → dx ≠ x → spWs a (V.ref x :: cs.map V.int) (upd (upd H dx (.own x)) x (.ins a.c_Weather dx [])) (fun v H2 => v = .non ∧ Q (.ref x) H2) E := fun x dx nx nd ne =>
  ⟨[.ref x], cs.map V.int, rfl, rfl, by rw [List.length_map]; exact Nat.le_of_lt (small1000 (by have := c.2.1; omega)), fun p hp => by
    have npx : x ≠ p := ne_of_none upd_same hp
    have s1 := same_upd (o := .tup (cs.map V.int)) hp
    exact ⟨x, dx, p, cs, rfl, s1 _ _ upd_same, upd_same, c, fun H' fr wt => ⟨rfl, k x H' (Fr1.made nx nd ((Fr1.of s1).trans fr)) wt⟩⟩⟩
end
end W6

namespace W6
open PySem PySem.Spec PyProof.Rows L2 Ru StX LamX
/-- where the errors' classes stand -/
structure Er where
  c : Fin 5 → Addr
  cW : Addr
  fI : Addr
def erName : Fin 5 → Str
  | 0 => "contradiction"
  | 1 => "heater"
  | 2 => "number"
  | 3 => "weather"
  | 4 => "other weather"
/-- what the written part says of the errors -/
structure ErT (P : Program) (K : PySem.W.Frag) (mg : Str → Option Value) (er : Er) : Prop where
  g_WarmthError : mg "WarmthError" = some (.ref er.cW)
  g_Contradiction : mg "Contradiction" = some (.ref (er.c 0))
  g_InvalidHeater : mg "InvalidHeater" = some (.ref (er.c 1))
  g_InvalidNumber : mg "InvalidNumber" = some (.ref (er.c 2))
  g_InvalidWeather : mg "InvalidWeather" = some (.ref (er.c 3))
  g_OtherWeather : mg "OtherWeather" = some (.ref (er.c 4))
  z_ValueError : mg "ValueError" = none
  ix : PySem.IxX.IxTxt P K mg "InvalidWeather" (er.c 3) er.fI
  ex : ∀ j, ExcC K (er.c j)
  kit : ∀ i j, PySem.W.kitOne K (.ref (er.c j)) (.ref (er.c i)) = some (decide (i = j))
  kitV : ∀ j, PySem.W.kitOne K (.ref (er.c j)) (.type "ValueError") = some true
  exm : ∀ j, PySem.W.exmOne K (.ref (er.c j)) (.ref er.cW) = some true
/-- what an error is told as -/
def ErOf (er : Er) (cls : Value) (d : Option Addr) (H : Hp) (xs : List V) : Prop :=
  ∃ j : Fin 5, cls = .ref (er.c j) ∧ ((j = 3 ∧ ∃ (dd : Addr) (i : Int), d = some dd ∧ H dd = some (.xd [(("index" : Str), .int i)]) ∧ xs = [.str "weather", .int i]) ∨ (j ≠ 3 ∧ d = none ∧ xs = [.str (erName j)]))
def qNone (Q : VK) : VK := fun _ H1 => [V.str "none"].length ≤ sizeLine ∧ ∀ p, H1 p = none → Q (.ref p) (upd H1 p (.tup [.str "none"]))
/-- told: the error's tuple, or ("none",) -/
def TTe (er : Er) : (XK → Hp → VK → Prop) → Hp → VK → Prop := fun tl H Q =>
  tl (fun cls d H' => ∃ xs, ErOf er cls d H' xs ∧ ∀ p H'', Same H' H'' → H'' p = some (.tup xs) → Q (.ref p) H'') H (qNone Q)
/-- the suite's reading -/
def tErr (K : PySem.W.Frag) (er : Er) (ea : Addr) (cls : Value) (d : Option Addr) : TS :=
  tSeq (tAsg (tLst (tCons (tCB (rIsX K ea cls d) (tCons (tVar 1) (tCons (tC (.ref (er.c 0))) tNil))) (tCons (tCB (rIsX K ea cls d) (tCons (tVar 1) (tCons (tC (.ref (er.c 1))) tNil))) (tCons (tCB (rIsX K ea cls d) (tCons (tVar 1) (tCons (tC (.ref (er.c 2))) tNil))) tNil)))) (gName 2))
  (tSeq (tDrop (tBM K "list" rExtend (tVar 2) (tCons (tLst (tCons (tCB (rIsX K ea cls d) (tCons (tVar 1) (tCons (tC (.ref (er.c 3))) tNil))) (tCons (tCB (rIsX K ea cls d) (tCons (tVar 1) (tCons (tC (.ref (er.c 4))) tNil))) tNil))) tNil)))
  (tSeq (tIfS (tOr (tTest (tOp rNe (tBM K "list" (rCntF K) (tVar 2) (tCons (tC (.bl true)) tNil)) (tC (.int 1)))) (tNot (tB (tCB (rIsX K ea cls d) (tCons (tVar 1) (tCons (tC (.ty "ValueError")) tNil)))))) (tRet (tTup (tCons (tC (.str "other")) tNil))) tNext)
  (tSeq (tAsg (tOp (rIxL K) (tLst (tCons (tC (.str "contradiction")) (tCons (tC (.str "heater")) (tCons (tC (.str "number")) (tCons (tC (.str "weather")) (tCons (tC (.str "other weather")) tNil)))))) (tBM K "list" (rIndex K) (tVar 2) (tCons (tC (.bl true)) tNil))) (gName 3))
  (tRet (tIf (tTest (tOp rEq (tVar 3) (tC (.str "weather")))) (tTup (tCons (tVar 3) (tCons (tByIx (er.c 3) ea cls d (tVar 1)) tNil))) (tTup (tCons (tVar 3) tNil)))))))
theorem kinds_count (j : Fin 5) : ([.bl (decide ((0 : Fin 5) = j)), .bl (decide ((1 : Fin 5) = j)), .bl (decide ((2 : Fin 5) = j)), .bl (decide ((3 : Fin 5) = j)), .bl (decide ((4 : Fin 5) = j))] : List V).countP (fun z => eqV z (.bl true)) = 1 := by
  revert j; decide
def kindsL (j : Fin 5) : List V := [.bl (decide ((0 : Fin 5) = j)), .bl (decide ((1 : Fin 5) = j)), .bl (decide ((2 : Fin 5) = j)), .bl (decide ((3 : Fin 5) = j)), .bl (decide ((4 : Fin 5) = j))]
theorem kinds_at (j : Fin 5) : (kindsL j)[j.val]? = some (.bl true) := by
  revert j; decide
theorem kinds_no (j : Fin 5) (m : Nat) (z : V) (hm : m < j.val) (hz : (kindsL j)[m]? = some z) : eqV z (.bl true) = false := by
  have k : ∀ j m : Fin 5, m.val < j.val → eqV ((kindsL j)[m.val]?.getD .non) (.bl true) = false := by decide
  have h := k j ⟨m, by have := j.isLt; omega⟩ hm
  rw [hz] at h
  exact h
theorem names_at (j : Fin 5) : ([.str "contradiction", .str "heater", .str "number", .str "weather", .str "other weather"] : List V)[j.val]? = some (.str (erName j)) := by
  rcases j with ⟨j, hj⟩
  match j, hj with
  | 0, _ => rfl
  | 1, _ => rfl
  | 2, _ => rfl
  | 3, _ => rfl
  | 4, _ => rfl
section
variable {X : Cx} {a : Ad} {er : Er}
theorem gives_error {q : Str} {g : Addr} {cdg : Value} (T : Txt X.K X.mg a) (ER : ErT X.prog X.K X.mg er) : Gives X ["_law_call", "e", "_law_kinds", "_law_name"] "_law_error" (defScope s__law_error) g cdg (defBody s__law_error) "_law_call" q (TTe er) := by
  intro f c' s H Q tl hr act hc h
  have isX : ∀ (ea : Addr) (oe : Obj) (cls : Value) (d : Option Addr) (pn : List (Addr × Obj)), Zc cls d oe → (∃ vs, oe.data = .fields vs) →
      CallR ((cxOf C8.CX0 X.prog X.w X.K X.mg X.base ["_law_call", "e", "_law_kinds", "_law_name"] "_law_error" (defScope s__law_error) g cdg X.A X.stack s H C8.E0).nox.suite ea ((ea, oe) :: pn)) (.builtin "isinstance") (rIsX X.K ea cls d) := fun _ _ _ _ _ hz hf => call_isX hz hf
  have byX : ∀ (ea : Addr) (oe : Obj) (cls : Value) (d : Option Addr) (pn : List (Addr × Obj)) (e : Expr) (te : TE) (pos : Pos), Zc cls d oe → (∃ vs, oe.data = .fields vs) →
      PE ((cxOf C8.CX0 X.prog X.w X.K X.mg X.base ["_law_call", "e", "_law_kinds", "_law_name"] "_law_error" (defScope s__law_error) g cdg X.A X.stack s H C8.E0).nox.suite ea ((ea, oe) :: pn)) e te →
      attributeBase e "index" (cxOf C8.CX0 X.prog X.w X.K X.mg X.base ["_law_call", "e", "_law_kinds", "_law_name"] "_law_error" (defScope s__law_error) g cdg X.A X.stack s H C8.E0).env (eval e (cxOf C8.CX0 X.prog X.w X.K X.mg X.base ["_law_call", "e", "_law_kinds", "_law_name"] "_law_error" (defScope s__law_error) g cdg X.A X.stack s H C8.E0).env) = eval e (cxOf C8.CX0 X.prog X.w X.K X.mg X.base ["_law_call", "e", "_law_kinds", "_law_name"] "_law_error" (defScope s__law_error) g cdg X.A X.stack s H C8.E0).env →
      PE ((cxOf C8.CX0 X.prog X.w X.K X.mg X.base ["_law_call", "e", "_law_kinds", "_law_name"] "_law_error" (defScope s__law_error) g cdg X.A X.stack s H C8.E0).nox.suite ea ((ea, oe) :: pn)) (.Attribute e "index" pos) (tByIx (er.c 3) ea cls d te) := fun _ _ _ _ _ _ _ _ hz hf he hb => pe_byIx (X := (cxOf C8.CX0 X.prog X.w X.K X.mg X.base ["_law_call", "e", "_law_kinds", "_law_name"] "_law_error" (defScope s__law_error) g cdg X.A X.stack s H C8.E0).nox) ER.ix hz hf he hb
  refine ⟨_, PSs.nox ((pss_cons (ps_try_as (i := 1) (ts := tErr X.K er) rfl rfl sc__law_error.nd rfl rfl ⟨rfl, by decide, .inl ER.g_WarmthError⟩ L2.takes0 (by exact fun W pn xe tk _ =>
      (pss_one (ps_expr (act W pn xe _ _ tk)))) (by exact fun ea oe cls d pn hz hf =>
      (pss_cons (ps_set (i := 2) sc__law_error.nd rfl (Or.inl rfl) (pe_lst (pa_cons (pe_callB (isX ea oe cls d pn hz hf) (by rfl) T.z_isinstance (by decide +kernel) (pa_cons (pv 1) (pa_cons (pe_glob (v := .ref (er.c 0)) (by rfl) ER.g_Contradiction rfl) pa_nil))) (pa_cons (pe_callB (isX ea oe cls d pn hz hf) (by rfl) T.z_isinstance (by decide +kernel) (pa_cons (pv 1) (pa_cons (pe_glob (v := .ref (er.c 1)) (by rfl) ER.g_InvalidHeater rfl) pa_nil))) (pa_cons (pe_callB (isX ea oe cls d pn hz hf) (by rfl) T.z_isinstance (by decide +kernel) (pa_cons (pv 1) (pa_cons (pe_glob (v := .ref (er.c 2)) (by rfl) ER.g_InvalidNumber rfl) pa_nil))) pa_nil)))))
      (pss_cons (ps_expr (pe_bm PySem.F.plainAttrs_list PySem.F.slot_list_extend PySem.F.type_list_extend mt_extend (pv 2) (pa_cons (pe_lst (pa_cons (pe_callB (isX ea oe cls d pn hz hf) (by rfl) T.z_isinstance (by decide +kernel) (pa_cons (pv 1) (pa_cons (pe_glob (v := .ref (er.c 3)) (by rfl) ER.g_InvalidWeather rfl) pa_nil))) (pa_cons (pe_callB (isX ea oe cls d pn hz hf) (by rfl) T.z_isinstance (by decide +kernel) (pa_cons (pv 1) (pa_cons (pe_glob (v := .ref (er.c 4)) (by rfl) ER.g_OtherWeather rfl) pa_nil))) pa_nil))) pa_nil)))
      (pss_cons (ps_if (PW.pt (pw_or (pt_cmpR op_ne (pe_bm PySem.F.plainAttrs_list PySem.F.slot_list_count PySem.F.type_list_count mt_countF (pv 2) (pa_cons pe_bl pa_nil)) pe_int (nomark _)) (pw_or1 (pt_not (pt_val (pe_callB (isX ea oe cls d pn hz hf) (by rfl) T.z_isinstance (by decide +kernel) (pa_cons (pv 1) (pa_cons (pe_bltn (v := .ty "ValueError") (by rfl) ER.z_ValueError (by decide +kernel) rfl) pa_nil)))))))) (pss_one (ps_ret (pe_tup (pa_cons pe_str pa_nil)))) pss_nil)
      (pss_cons (ps_set (i := 3) sc__law_error.nd rfl (Or.inl rfl) (pe_ix ix_list (pe_lst (pa_cons pe_str (pa_cons pe_str (pa_cons pe_str (pa_cons pe_str (pa_cons pe_str pa_nil)))))) (pe_bm PySem.F.plainAttrs_list PySem.F.slot_list_index PySem.F.type_list_index mt_index (pv 2) (pa_cons pe_bl pa_nil)) (fun _ _ => rfl)))
      (pss_one (ps_ret (pe_ifExp (pt_cmpR op_eq (pv 3) pe_str (nomark _)) (pe_tup (pa_cons (pv 3) (pa_cons (byX ea oe cls d pn _ _ _ hz hf (pv 1) rfl) pa_nil))) (pe_tup (pa_cons (pv 3) pa_nil)))))))))))
      (pss_one (ps_ret (pe_tup (pa_cons pe_str pa_nil)))))), ?_⟩
  refine ⟨rfl, hc, _, ?_, h⟩
  rintro cls d H' ⟨xs, ⟨j, rfl, hj⟩, go⟩
  refine ⟨true, ER.exm j, fun _ ea he => ?_, fun z => nomatch z⟩
  have hD : ∀ H2, Same H' H2 → DictAt d H2 := fun H2 sm => by
    rcases hj with ⟨_, dd, i, rfl, hx, _⟩ | ⟨_, rfl, _⟩
    · exact .inr ⟨dd, _, rfl, sm _ _ hx⟩
    · exact .inl rfl
  have c0 := hD _ (Same.refl _)
  refine ⟨_, rfl, er.c j, _, _, _, rfl, ER.ex j, c0, rfl, fun u e => e, ER.kit 0 j, _, rfl, er.c j, _, _, _, rfl, ER.ex j, c0, rfl, fun u e => e, ER.kit 1 j, _, rfl, er.c j, _, _, _, rfl, ER.ex j, c0, rfl, fun u e => e, ER.kit 2 j, by show 3 ≤ sizeLine; decide, fun l hl => ?_⟩
  have s1 : Same H' (upd H' l (.lst [.bl (decide ((0 : Fin 5) = j)), .bl (decide ((1 : Fin 5) = j)), .bl (decide ((2 : Fin 5) = j))])) := same_upd hl
  generalize hH1 : upd H' l _ = H1 at s1 ⊢
  have hl1 : H1 l = some (.lst [.bl (decide ((0 : Fin 5) = j)), .bl (decide ((1 : Fin 5) = j)), .bl (decide ((2 : Fin 5) = j))]) := by rw [← hH1]; exact upd_same
  have c1 := hD _ s1
  refine ⟨_, rfl, .inl ⟨rfl, _, SqL.of hl1⟩, _, rfl, er.c j, _, _, _, rfl, ER.ex j, c1, rfl, fun u e => e, ER.kit 3 j, _, rfl, er.c j, _, _, _, rfl, ER.ex j, c1, rfl, fun u e => e, ER.kit 4 j, by show 2 ≤ sizeLine; decide, fun m hm => ?_⟩
  have nlm : l ≠ m := ne_of_none hl1 hm
  refine ⟨l, m, _, _, rfl, rfl, by rw [upd_ne nlm]; exact hl1, upd_same, by show 3 + 2 ≤ sizeLine; decide, ?_⟩
  have nl : H' l = none := hl
  have s2 : Same H' (upd (upd H1 m (.lst [.bl (decide ((3 : Fin 5) = j)), .bl (decide ((4 : Fin 5) = j))])) l (.lst ([.bl (decide ((0 : Fin 5) = j)), .bl (decide ((1 : Fin 5) = j)), .bl (decide ((2 : Fin 5) = j))] ++ [.bl (decide ((3 : Fin 5) = j)), .bl (decide ((4 : Fin 5) = j))]))) := fun b o e => by
    rw [upd_ne (ne_of_none e nl), upd_ne (ne_of_none (s1 _ _ e) hm)]
    exact s1 _ _ e
  generalize hH2 : upd (upd H1 m _) l _ = H2 at s2 ⊢
  have hl2 : H2 l = some (.lst [.bl (decide ((0 : Fin 5) = j)), .bl (decide ((1 : Fin 5) = j)), .bl (decide ((2 : Fin 5) = j)), .bl (decide ((3 : Fin 5) = j)), .bl (decide ((4 : Fin 5) = j))]) := by rw [← hH2]; exact upd_same
  have c2 := hD _ s2
  refine ⟨_, rfl, .inl ⟨rfl, _, SqL.of hl2⟩, l, _, _, rfl, rfl, SqL.of hl2, rfl, rfl, rfl, _, rfl, ?_⟩
  rw [kinds_count j]
  refine ifF rfl ?_
  refine ⟨_, rfl, er.c j, _, _, _, rfl, ER.ex j, c2, rfl, fun u e => e, ER.kitV j, _, rfl, ?_⟩
  refine ifF rfl ?_
  refine ⟨by show 5 ≤ sizeLine; decide, fun n hn => ⟨_, rfl, .inl ⟨rfl, _, SqL.of (same_upd hn _ _ hl2)⟩, l, _, _, j.val, _, rfl, rfl, SqL.of (same_upd hn _ _ hl2), rfl, rfl, kinds_at j, rfl, kinds_no j, n, _, _, .str (erName j), rfl, rfl, SqL.of upd_same, at_int (Int.natCast_nonneg _) (names_at j), _, rfl, rfl, _, rfl, ?_⟩⟩
  have s3 : Same H' (upd H2 n (.lst [.str "contradiction", .str "heater", .str "number", .str "weather", .str "other weather"])) := s2.trans (same_upd hn)
  generalize hH3 : upd H2 n _ = H3 at s3 ⊢
  rcases hj with ⟨rfl, dd, i, rfl, hx, rfl⟩ | ⟨nj, rfl, rfl⟩
  · refine ifT rfl ?_
    refine ⟨_, rfl, _, rfl, rfl, rfl, dd, _, rfl, s3 _ _ hx, by show 2 ≤ sizeLine; decide, fun p hp => ?_⟩
    exact go p _ (s3.trans (same_upd hp)) upd_same
  · have e : decide (V.str (erName j) = V.str "weather") = false := by
      have k : ∀ j : Fin 5, j ≠ 3 → decide (V.str (erName j) = V.str "weather") = false := by decide
      exact k j nj
    refine ifF e ?_
    refine ⟨_, rfl, by show 1 ≤ sizeLine; decide, fun p hp => ?_⟩
    exact go p _ (s3.trans (same_upd hp)) upd_same
end
end W6

namespace W6
open PySem PySem.Spec PyProof.Rows L2 Ru StX LamX
/-- the first change that can't be -/
def GoodAt (i : Nat) (c : Int) : Prop := (i : Int) < 24 ∧ -100 ≤ c ∧ c ≤ 100
def BadAt (cs : List Int) (i : Nat) : Prop := (cs = [] ∧ i = 0) ∨ ∃ c, cs[i]? = some c ∧ ¬ GoodAt i c ∧ ∀ (j : Nat) (d : Int), j < i → cs[j]? = some d → GoodAt j d
/-- the error InvalidWeather with its index -/
def BadW (er : Er) (cs : List Int) (H : Hp) (E : XK) : Prop := ∀ (i : Nat) (d : Addr) (H' : Hp), BadAt cs i → Same H H' → H' d = some (.xd [(("index" : Str), .int i)]) → E (.ref (er.c 3)) (some d) H'
section
variable (a : Ad) (er : Er)
def spWiX : Sp := fun vs H Q E => ∃ (x dx p : Addr) (cs : List Int), vs = [.ref x, .ref p] ∧ H x = some (.ins a.c_Weather dx []) ∧ H p = some (.tup (cs.map V.int)) ∧ cs.length ≤ 1000 ∧ (CH cs → ∀ H', Fr1 x H H' → WAt a H' x cs → Q .non H') ∧ BadW er cs H E
def spWsX : Sp := fun vs H Q E => ∃ ws rest, vs = ws ++ rest ∧ ws.length = ["self"].length ∧ rest.length ≤ sizeLine ∧ ∀ p, H p = Option.none → spWiX a er (ws ++ [V.ref p]) (upd H p (.tup rest)) Q E
end
theorem log_small {i : Nat} (h : i ≤ 1000) : (i : Int).natAbs.log2 < 1920 := by
  have e : (i : Int).natAbs = i := rfl
  rw [e]
  by_cases z : i = 0
  · subst z; decide
  · exact (Nat.log2_lt z).mpr (Nat.lt_of_le_of_lt h (Nat.lt_of_lt_of_le (by decide : 1000 < 2 ^ 10) (Nat.pow_le_pow_right (by decide) (by decide))))
section
variable {P : Program} {w : World} {K : PySem.W.Frag} {mg : Str → Option Value} {base : Heap} {a : Ad} {er : Er}
theorem okx_Weather_init (T : Txt K mg a) (ER : ErT P K mg er) : FnR P w K mg base (L2.CX P w) 3 a.f_Weather_init (spWsX a er) := by
  have G_first_invalid : FnOk P w K mg base CX0 1 a.f_first_invalid a.d_first_invalid ["values", "least", "greatest", "most"] spFi := ok_first_invalid T
  obtain ⟨oc, od, kV, doc, pm, an, cdv, ct, osl, e, lk, hcd⟩ := T.F_Weather_init.ex
  rw [e] at lk
  refine fn_star (ps := ["self"]) (pv := "changes") (sp := spWiX a er) lk hcd sc_Weather_init cxUp (bind_star1 (B := fun us => bindArgs (PySem.W.fnOf "__init__" "Weather.__init__" (defArgs s_Weather_init) (defBody s_Weather_init) (defScope s_Weather_init) .none kV doc pm an cdv ct) ⟨us, []⟩) (fun _ => rfl) (fun _ _ _ => rfl)) (fun A outer s H vs Q E hr h => ?_)
  obtain ⟨x, dx, p, cs, rfl, hx, hp, hz, k, kb⟩ := h
  obtain ⟨tt, cvT⟩ := T.cv_Weather_MAX_TICKS
  obtain ⟨tc, cvC⟩ := T.cv_Weather_MAX_CHANGE
  have npx : p ≠ x := ne_of hp hx (fun z => nomatch z)
  have idx : ∀ {i : Nat} {c : Int}, cs[i]? = some c → i ≤ 1000 := fun e => by
    have := (List.getElem?_eq_some_iff.mp e).1
    omega
  refine ⟨_, (pss_cons (ps_set (i := 2) sc_Weather_init.nd rfl (Or.inl rfl) (pe_call G_first_invalid (hr.mono (by decide)) (by rfl) T.mg_first_invalid T.F_first_invalid.kp (b_first_invalid T) .nil pass0 (pa_cons (pv 1) (pa_cons (pe_un un_neg (pe_con (pv 0) rfl)) (pa_cons (pe_con (pv 0) rfl) (pa_cons (pe_con (pv 0) rfl) pa_nil))))))
      (pss_cons (ps_if (pt_cmpR op_notN (pv 2) pe_non (nomark _)) (pss_one (ps_raiseIx rfl ER.ix hr (takes_of rfl rfl rfl rfl) (pa_cons (pv 2) pa_nil) rfl)) pss_nil)
      (pss_one (ps_fld (pv 0) (pv 1) rfl)))), ?_⟩
  refine ⟨_, rfl, _, rfl, x, _, dx, _, _, _, rfl, hx, T.cl_Weather, cvC, rfl, _, rfl, _, rfl, x, _, dx, _, _, _, rfl, hx, T.cl_Weather, cvC, rfl, _, rfl, x, _, dx, _, _, _, rfl, hx, T.cl_Weather, cvT, rfl, p, cs, _, _, _, rfl, hp, fun H' sm ne ok => ?_, fun H' i c sm hc bad first => ?_, fun H' sm e0 => ?_⟩
  · refine ⟨_, rfl, rfl, _, rfl, ?_⟩
    refine ifF rfl ?_
    refine ⟨_, rfl, _, rfl, x, _, dx, _, rfl, sm _ _ hx, T.cl_Weather, T.na_Weather__changes, by show 0 < 1000; decide, ?_⟩
    refine k ⟨?_, ?_, fun c hc => ?_⟩ _ ((Fr1.of sm).trans Fr1.upd) ⟨dx, p, by rw [upd_same]; rfl, by rw [upd_ne npx]; exact sm _ _ hp⟩
    · cases cs with
      | nil => exact absurd rfl ne
      | cons c r => exact Nat.succ_le_succ (Nat.zero_le _)
    · by_cases q : cs.length ≤ 24
      · exact q
      · have l : 24 < cs.length := by omega
        have := (ok 24 cs[24] (List.getElem?_eq_getElem l)).1
        omega
    · obtain ⟨i, hi⟩ := List.mem_iff_getElem?.mp hc
      exact (ok i c hi).2
  · refine ⟨_, rfl, rfl, _, rfl, ?_⟩
    refine ifT rfl ?_
    refine ⟨_, rfl, (i : Int), rfl, log_small (idx hc), fun d hd => ?_⟩
    exact kb i d _ (.inr ⟨c, hc, bad, first⟩) (sm.trans (same_upd hd)) upd_same
  · refine ⟨_, rfl, rfl, _, rfl, ?_⟩
    refine ifT rfl ?_
    refine ⟨_, rfl, 0, rfl, by decide, fun d hd => ?_⟩
    exact kb 0 d _ (.inl ⟨e0, rfl⟩) (sm.trans (same_upd hd)) upd_same
/-- what the making of a weather asks -/
theorem weather_madeX {H : Hp} {Q : VK} {E : XK} {cs : List Int} (hz : cs.length ≤ 1000) (k : CH cs → ∀ z H', Same H H' → WAt a H' z cs → Q (.ref z) H') (kb : BadW er cs H E) : ∀ x dx, H x = none → H dx = none → dx ≠ x → spWsX a er (V.ref x :: cs.map V.int) (upd (upd H dx (.own x)) x (.ins a.c_Weather dx [])) (fun v H2 => v = .non ∧ Q (.ref x) H2) E := fun x dx nx nd ne =>
  ⟨[.ref x], cs.map V.int, rfl, rfl, by rw [List.length_map]; exact Nat.le_of_lt (small1000 hz), fun p hp => by
    have npx : x ≠ p := ne_of_none upd_same hp
    have s1 := same_upd (o := .tup (cs.map V.int)) hp
    exact ⟨x, dx, p, cs, rfl, s1 _ _ upd_same, upd_same, hz, fun c H' fr wt => ⟨rfl, k c x H' (Fr1.made nx nd ((Fr1.of s1).trans fr)) wt⟩, fun i d H' hb sm hd => kb i d H' hb ((same_made nx nd).trans (s1.trans sm)) hd⟩⟩
end
end W6

namespace W6
open PySem PySem.Spec PyProof.Rows L2 Ru StX LamX
def rLenS (K : PySem.W.Frag) : List V → Hp → VK → Prop := fun xs H Q => ∃ p ys, xs = [.ref p] ∧ (SqL K H p ys ∨ SqT K H p ys) ∧ Q (.int ys.length) H
/-- the sums of two weathers' changes -/
def addR (cs ds : List Int) : List Int := (List.range (Nat.lcm cs.length ds.length)).map fun t => cs.getD (t % cs.length) 0 + ds.getD (t % ds.length) 0
section
variable (a : Ad) (er : Er)
def spConst : Sp := fun vs H Q E => ∃ c : Int, vs = [.ref a.c_Weather, .int c] ∧ (CH [c] → ∀ z H', Same H H' → WAt a H' z [c] → Q (.ref z) H') ∧ BadW er [c] H E
def spWeatherX : Sp := fun vs H Q E => ∃ (t : Addr) (cs : List Int), vs = [.ref t] ∧ H t = some (.tup (cs.map V.int)) ∧ 1 ≤ cs.length ∧ cs.length ≤ 6 ∧ (CH cs → ∀ z H', Same H H' → WAt a H' z cs → Q (.ref z) H') ∧ BadW er cs H E
def spLen : Sp := fun vs H Q _ => ∃ (z : Addr) (cs : List Int), vs = [.ref z] ∧ WAt a H z cs ∧ Q (.int (cs.length : Nat)) H
def spAddR : Sp := fun vs H Q _ => ∃ (t u : Addr) (cs ds : List Int), vs = [.ref t, .ref u] ∧ H t = some (.tup (cs.map V.int)) ∧ H u = some (.tup (ds.map V.int)) ∧ 1 ≤ cs.length ∧ cs.length ≤ 24 ∧ 1 ≤ ds.length ∧ ds.length ≤ 24 ∧
  ∀ p H', Same H H' → H' p = some (.lst ((addR cs ds).map V.int)) → Q (.ref p) H'
def spAddX : Sp := fun vs H Q E => ∃ (y z : Addr) (cs ds : List Int), vs = [.ref y, .ref z] ∧ WAt a H y cs ∧ WAt a H z ds ∧ CH cs ∧ CH ds ∧ (CH (addR cs ds) → ∀ v H', Same H H' → WAt a H' v (addR cs ds) → Q (.ref v) H') ∧ BadW er (addR cs ds) H E
end
theorem at_mod (cs : List Int) (i : Nat) (c1 : 1 ≤ cs.length) : atI (cs.map V.int) ((0 + (i : Int)) % (((cs.map V.int).length : Nat) : Int)) = some (V.int (cs.getD (i % cs.length) 0)) := by
  have e : (0 + (i : Int)) % (((cs.map V.int).length : Nat) : Int) = ((i % cs.length : Nat) : Int) := by
    rw [List.length_map, Int.zero_add]
    rfl
  rw [e]
  have l : i % cs.length < cs.length := Nat.mod_lt _ (by omega)
  refine at_int (Int.natCast_nonneg _) ?_
  show (cs.map V.int)[i % cs.length]? = _
  rw [List.getElem?_map, List.getElem?_eq_getElem l]
  simp [List.getD, List.getElem?_eq_getElem l]
theorem lcStep' {H H' : Hp} {D : Addr} {o : HO} (hD : H D = none) (s : Same H H') : Same H (upd H' D o) := fun b u e => by
  rw [upd_ne (ne_of_none e hD)]; exact s _ _ e
section
variable {P : Program} {w : World} {K : PySem.W.Frag} {mg : Str → Option Value} {base : Heap} {a : Ad} {er : Er}
theorem okx_Weather_constant (T : Txt K mg a) (ER : ErT P K mg er) : FnOk P w K mg base (L2.CX P w) 5 a.f_Weather_constant a.d_Weather_constant ["cls", "change"] (spConst a er) := by
  have G_Weather_init := okx_Weather_init (P := P) (w := w) (base := base) T ER
  refine T.F_Weather_constant.okX sc_Weather_constant (fun vs H Q E h => ?_) (fun cdv A outer s H vs Q E hr h => ?_)
  · obtain ⟨c, rfl, _⟩ := h
    rfl
  · obtain ⟨c, rfl, k, kb⟩ := h
    refine ⟨_, (pss_one (ps_ret (pe_makeL (i := 0) T.mk_Weather G_Weather_init (hr.mono (by decide)) rfl (.inl rfl) (passes_call (takes_of rfl rfl rfl rfl) (fun _ _ _ _ h => h)) (pa_cons (pv 1) pa_nil)))), ?_⟩
    exact ⟨rfl, _, rfl, weather_madeX (cs := [c]) (by show 1 ≤ 1000; decide) k kb⟩
theorem ok_Weather_changes (T : Txt K mg a) : FnOk P w K mg base CX0 1 a.f_Weather_changes a.d_Weather_changes ["self"] (getSp a.c_Weather "_changes") := by
  refine T.F_Weather_changes.ok sc_Weather_changes (fun vs H Q E h => ?_) (fun cdv A outer s H vs Q E hr h => ?_)
  · obtain ⟨z, dx, fs, v, rfl, _⟩ := h
    rfl
  · obtain ⟨z, dx, fs, v, rfl, hz, l, q⟩ := h
    exact ⟨_, (pss_one (ps_ret (pe_fld (pv 0) rfl))), ⟨_, rfl, z, _, dx, fs, v, rfl, hz, T.cl_Weather, T.na_Weather__changes, l, q⟩⟩
theorem ok_Weather_len (T : Txt K mg a) : FnOk P w K mg base CX0 1 a.f_Weather_len a.d_Weather_len ["self"] (spLen a) := by
  refine T.F_Weather_len.ok sc_Weather_len (fun vs H Q E h => ?_) (fun cdv A outer s H vs Q E hr h => ?_)
  · obtain ⟨z, cs, rfl, _⟩ := h
    rfl
  · obtain ⟨z, cs, rfl, ⟨dx, t, hz, ht⟩, k⟩ := h
    refine ⟨_, (pss_one (ps_ret (pe_callB call_len_seq (by rfl) T.z_len PySem.boot_len (pa_cons (pe_fld (pv 0) rfl) pa_nil)))), ?_⟩
    refine ⟨_, rfl, z, _, dx, _, _, rfl, hz, T.cl_Weather, T.na_Weather__changes, rfl, t, _, rfl, .inr (SqT.of ht), ?_⟩
    rw [List.length_map]
    exact k
theorem ok_added_rounds (T : Txt K mg a) : FnOk P w K mg base CX0 1 a.f_added_rounds a.d_added_rounds ["one", "other"] spAddR := by
  refine T.F_added_rounds.ok sc_added_rounds (fun vs H Q E h => ?_) (fun cdv A outer s H vs Q E hr h => ?_)
  · obtain ⟨t, u, cs, ds, rfl, _⟩ := h
    rfl
  · obtain ⟨t, u, cs, ds, rfl, ht, hu, c1, c2, d1, d2, k⟩ := h
    refine ⟨_, (pss_cons (ps_set (i := 2) sc_added_rounds.nd rfl (Or.inl rfl) (pe_callBfun cr_lcm (by rfl) T.mg_lcm (pa_cons (pe_callB (show CallR _ (.builtin "len") (rLenS K) from call_len_seq) (by rfl) T.z_len PySem.boot_len (pa_cons (pv 0) pa_nil)) (pa_cons (pe_callB (show CallR _ (.builtin "len") (rLenS K) from call_len_seq) (by rfl) T.z_len PySem.boot_len (pa_cons (pv 1) pa_nil)) pa_nil))))
      (pss_one (ps_ret (pe_lc (own := [("tick", 3)]) (g := gName 3) rfl sc_added_rounds.nd (pi_range1 (by rfl) T.z_range (pa_cons (pv 2) pa_nil)) (blkOk_by (own := [("tick", 3)]) (N := ["one", "other", "many", "tick"]) (sc := (defScope s_added_rounds)) (by decide +kernel)) (fun _ _ _ _ _ => pg_name (i := 3) sc_added_rounds.nd rfl (Or.inl rfl)) (fun _ _ _ _ _ => pts_nil) (fun _ _ _ _ _ => (pe_op op_add (pe_ix (show IxR _ (rIxT K) from ix_tup) (pv 0) (pe_op op_mod (pv 3) (pe_callB (show CallR _ (.builtin "len") (rLenS K) from call_len_seq) (by rfl) T.z_len PySem.boot_len (pa_cons (pv 0) pa_nil))) (fun _ _ => rfl)) (pe_ix (show IxR _ (rIxT K) from ix_tup) (pv 1) (pe_op op_mod (pv 3) (pe_callB (show CallR _ (.builtin "len") (rLenS K) from call_len_seq) (by rfl) T.z_len PySem.boot_len (pa_cons (pv 1) pa_nil))) (fun _ _ => rfl)))))))), ?_⟩
    have n1 : (cs.map V.int).length = cs.length := List.length_map _
    have n2 : (ds.map V.int).length = ds.length := List.length_map _
    have lcd : Nat.lcm cs.length ds.length ≤ 24 * 24 := Nat.le_trans (Nat.lcm_le_mul (by omega) (by omega)) (Nat.mul_le_mul c2 d2)
    refine ⟨_, rfl, t, _, rfl, .inr (SqT.of ht), _, rfl, u, _, rfl, .inr (SqT.of hu), (cs.map V.int).length, (ds.map V.int).length, rfl, by omega, by omega, ?_⟩
    rw [n1, n2]
    refine ⟨_, rfl, ((Nat.lcm cs.length ds.length : Nat) : Int), rfl, by omega, by omega, fun D hD => lc_range (lo := 0) (n := ((Nat.lcm cs.length ds.length : Nat) : Int).toNat) (fun i H' => Same H H' ∧ H' D = some (.lst ((List.range i).map fun t => V.int (cs.getD (t % cs.length) 0 + ds.getD (t % ds.length) 0)))) ⟨same_upd hD, upd_same⟩ ?_ ?_⟩
    · intro i H' hi ⟨sm, hd⟩
      have h1 := sm _ _ ht
      have h2 := sm _ _ hu
      have p1 : (0 : Int) < ((cs.map V.int).length : Nat) := by rw [n1]; omega
      have p2 : (0 : Int) < ((ds.map V.int).length : Nat) := by rw [n2]; omega
      have q1 := at_mod cs i c1
      have q2 := at_mod ds i d1
      refine ⟨rfl, _, rfl, _, rfl, _, rfl, t, _, rfl, .inr (SqT.of h1), _, _, rfl, rfl, p1, t, _, _, _, rfl, rfl, SqT.of h1, q1, _, rfl, _, rfl, _, rfl, u, _, rfl, .inr (SqT.of h2), _, _, rfl, rfl, p2, u, _, _, _, rfl, rfl, SqT.of h2, q2, _, _, rfl, rfl, ?_⟩
      have iM : i < 24 * 24 := by omega
      refine ⟨_, hd, by rw [List.length_map, List.length_range]; exact small1000 (by omega), lcStep' hD sm, by rw [upd_same, List.range_succ, List.map_append]; rfl⟩
    · rintro H' ⟨sm, hd⟩
      refine k _ _ sm ?_
      rw [hd, addR, List.map_map]
      rfl
theorem addR_len (cs ds : List Int) : (addR cs ds).length = Nat.lcm cs.length ds.length := by rw [addR, List.length_map, List.length_range]
theorem okx_Weather_add (T : Txt K mg a) (ER : ErT P K mg er) : FnOk P w K mg base (L2.CX P w) 6 a.f_Weather_add a.d_Weather_add ["self", "other"] (spAddX a er) := by
  have G_Weather_init := okx_Weather_init (P := P) (w := w) (base := base) T ER
  have G_added_rounds : FnOk P w K mg base CX0 1 a.f_added_rounds a.d_added_rounds ["one", "other"] spAddR := ok_added_rounds T
  have G_Weather_changes : FnOk P w K mg base CX0 1 a.f_Weather_changes a.d_Weather_changes ["self"] (getSp a.c_Weather "_changes") := ok_Weather_changes T
  refine T.F_Weather_add.okX sc_Weather_add (fun vs H Q E h => ?_) (fun cdv A outer s H vs Q E hr h => ?_)
  · obtain ⟨y, z, cs, ds, rfl, _⟩ := h
    rfl
  · obtain ⟨y, z, cs, ds, rfl, ⟨dy, t, hy, ht⟩, ⟨dz, u, hz, hu⟩, c, d, k, kb⟩ := h
    refine ⟨_, (pss_cons (ps_set (i := 2) sc_Weather_add.nd rfl (Or.inl rfl) (pe_call G_added_rounds (hr.mono (by decide)) (by rfl) T.mg_added_rounds T.F_added_rounds.kp (b_added_rounds T) .nil pass0 (pa_cons (pe_fld (pv 0) rfl) (pa_cons (pe_prop (pv 1) T.cl_Weather T.pr_Weather_changes G_Weather_changes (hr.mono (by decide)) (b_Weather_changes T) .nil pass0 rfl) pa_nil))))
      (pss_one (ps_ret (pe_makeSt T.mk_Weather G_Weather_init (hr.mono (by decide)) (by rfl) T.mg_Weather (passes_call (takes_of rfl rfl rfl rfl) (fun _ _ _ _ h => h)) (pv 2))))), ?_⟩
    refine ⟨_, rfl, y, _, dy, _, _, rfl, hy, T.cl_Weather, T.na_Weather__changes, rfl, _, rfl, z, dz, _, rfl, hz, z, dz, _, _, rfl, hz, rfl, t, u, cs, ds, rfl, ht, hu, c.1, c.2.1, d.1, d.2.1, fun p H' sm hp => ?_⟩
    have lcd : Nat.lcm cs.length ds.length ≤ 24 * 24 := Nat.le_trans (Nat.lcm_le_mul (by have := c.1; omega) (by have := d.1; omega)) (Nat.mul_le_mul c.2.1 d.2.1)
    exact ⟨_, rfl, p, _, rfl, .inr (SqL.of hp), weather_madeX (by rw [addR_len]; omega) (fun g v H2 s2 wt => k g v H2 (sm.trans s2) wt) fun i d H2 hb s2 hd => kb i d H2 hb (sm.trans s2) hd⟩
theorem okx__law_weather (T : Txt K mg a) (ER : ErT P K mg er) : FnOk P w K mg base (L2.CX P w) 6 a.f__law_weather a.d__law_weather ["_law_changes_here"] (spWeatherX a er) := by
  have G_Weather_init := okx_Weather_init (P := P) (w := w) (base := base) T ER
  refine T.F__law_weather.okX sc__law_weather (fun vs H Q E h => ?_) (fun cdv A outer s H vs Q E hr h => ?_)
  · obtain ⟨t, cs, rfl, _⟩ := h
    rfl
  · obtain ⟨t, cs, rfl, ht, c1, c6, k, kb⟩ := h
    refine ⟨_, (pss_cons (ps_set (i := 1) sc__law_weather.nd rfl (Or.inl rfl) (pe_op op_cat (pe_callTy call_list_of (by rfl) T.z_list (by decide +kernel) (pa_cons (pv 0) pa_nil)) (pe_op op_rep (pe_lst (pa_cons pe_int pa_nil)) pe_int)))
      (pss_cons (ps_if (pt_cmpR op_lt (pe_callB call_len_seq (by rfl) T.z_len PySem.boot_len (pa_cons (pv 0) pa_nil)) pe_int (nomark _)) (pss_one (ps_ret (pe_ifExp (pt_cmpR op_eq (pe_callB call_len_seq (by rfl) T.z_len PySem.boot_len (pa_cons (pv 0) pa_nil)) pe_int (nomark _)) (pe_makeR T.mk_Weather G_Weather_init (hr.mono (by decide)) (by rfl) T.mg_Weather (passes_call (takes_of rfl rfl rfl rfl) (fun _ _ _ _ h => h)) (pa_cons (pe_ix ix_list (pv 1) pe_int (fun _ _ => rfl)) pa_nil)) (pe_makeR T.mk_Weather G_Weather_init (hr.mono (by decide)) (by rfl) T.mg_Weather (passes_call (takes_of rfl rfl rfl rfl) (fun _ _ _ _ h => h)) (pa_cons (pe_ix ix_list (pv 1) pe_int (fun _ _ => rfl)) (pa_cons (pe_ix ix_list (pv 1) pe_int (fun _ _ => rfl)) pa_nil)))))) pss_nil)
      (pss_cons (ps_if (pt_cmpR op_lt (pe_callB call_len_seq (by rfl) T.z_len PySem.boot_len (pa_cons (pv 0) pa_nil)) pe_int (nomark _)) (pss_one (ps_ret (pe_ifExp (pt_cmpR op_eq (pe_callB call_len_seq (by rfl) T.z_len PySem.boot_len (pa_cons (pv 0) pa_nil)) pe_int (nomark _)) (pe_makeR T.mk_Weather G_Weather_init (hr.mono (by decide)) (by rfl) T.mg_Weather (passes_call (takes_of rfl rfl rfl rfl) (fun _ _ _ _ h => h)) (pa_cons (pe_ix ix_list (pv 1) pe_int (fun _ _ => rfl)) (pa_cons (pe_ix ix_list (pv 1) pe_int (fun _ _ => rfl)) (pa_cons (pe_ix ix_list (pv 1) pe_int (fun _ _ => rfl)) pa_nil)))) (pe_makeR T.mk_Weather G_Weather_init (hr.mono (by decide)) (by rfl) T.mg_Weather (passes_call (takes_of rfl rfl rfl rfl) (fun _ _ _ _ h => h)) (pa_cons (pe_ix ix_list (pv 1) pe_int (fun _ _ => rfl)) (pa_cons (pe_ix ix_list (pv 1) pe_int (fun _ _ => rfl)) (pa_cons (pe_ix ix_list (pv 1) pe_int (fun _ _ => rfl)) (pa_cons (pe_ix ix_list (pv 1) pe_int (fun _ _ => rfl)) pa_nil)))))))) pss_nil)
      (pss_cons (ps_if (pt_cmpR op_eq (pe_callB call_len_seq (by rfl) T.z_len PySem.boot_len (pa_cons (pv 0) pa_nil)) pe_int (nomark _)) (pss_one (ps_ret (pe_makeR T.mk_Weather G_Weather_init (hr.mono (by decide)) (by rfl) T.mg_Weather (passes_call (takes_of rfl rfl rfl rfl) (fun _ _ _ _ h => h)) (pa_cons (pe_ix ix_list (pv 1) pe_int (fun _ _ => rfl)) (pa_cons (pe_ix ix_list (pv 1) pe_int (fun _ _ => rfl)) (pa_cons (pe_ix ix_list (pv 1) pe_int (fun _ _ => rfl)) (pa_cons (pe_ix ix_list (pv 1) pe_int (fun _ _ => rfl)) (pa_cons (pe_ix ix_list (pv 1) pe_int (fun _ _ => rfl)) pa_nil)))))))) pss_nil)
      (pss_one (ps_ret (pe_makeR T.mk_Weather G_Weather_init (hr.mono (by decide)) (by rfl) T.mg_Weather (passes_call (takes_of rfl rfl rfl rfl) (fun _ _ _ _ h => h)) (pa_cons (pe_ix ix_list (pv 1) pe_int (fun _ _ => rfl)) (pa_cons (pe_ix ix_list (pv 1) pe_int (fun _ _ => rfl)) (pa_cons (pe_ix ix_list (pv 1) pe_int (fun _ _ => rfl)) (pa_cons (pe_ix ix_list (pv 1) pe_int (fun _ _ => rfl)) (pa_cons (pe_ix ix_list (pv 1) pe_int (fun _ _ => rfl)) (pa_cons (pe_ix ix_list (pv 1) pe_int (fun _ _ => rfl)) pa_nil))))))))))))), ?_⟩
    refine ⟨_, rfl, t, _, rfl, .inr (SqT.of ht), fun l hl => ⟨by show 1 ≤ sizeLine; decide, fun q hq => ⟨q, _, _, rfl, rfl, upd_same, by decide, by decide, by show 1 * 6 ≤ sizeLine; decide, fun r hw => ?_⟩⟩⟩
    have l1 : (upd (upd (upd H l (.lst (cs.map V.int))) q (.lst [V.int 0])) r (.lst (List.replicate (6 : Int).toNat [V.int 0]).flatten)) l = some (.lst (cs.map V.int)) := by
      rw [upd_ne (ne_of_none (same_upd hq _ _ upd_same) hw), upd_ne (ne_of_none upd_same hq), upd_same]
    refine ⟨l, r, _, _, rfl, rfl, l1, upd_same, Nat.le_of_lt (small1000 (by rw [List.length_map]; show _ + 6 ≤ 1000; omega)), fun z hz => ?_⟩
    have sm := ((((same_upd hl).trans (same_upd hq)).trans (same_upd hw)).trans (same_upd (o := .lst (cs.map V.int ++ (List.replicate (6 : Int).toNat [V.int 0]).flatten)) hz))
    generalize hH2 : upd _ z (.lst (cs.map V.int ++ (List.replicate (6 : Int).toNat [V.int 0]).flatten)) = H2 at sm
    have hz2 : H2 z = some (.lst (cs.map V.int ++ (List.replicate (6 : Int).toNat [V.int 0]).flatten)) := by rw [← hH2]; exact upd_same
    have ht2 := sm _ _ ht
    have kk : CH cs → ∀ y H', Same H2 H' → WAt a H' y cs → Q (.ref y) H' := fun c y H' s wt => k c y H' (sm.trans s) wt
    have kk2 : BadW er cs H2 E := fun i d H' hb s hd => kb i d H' hb (sm.trans s) hd
    match cs, c1, c6 with
    | [], c1, _ => simp at c1
    | [u], _, _ =>
      refine ⟨_, rfl, t, _, rfl, .inr (SqT.of ht2), _, _, rfl, rfl, _, rfl, ifT rfl ?_⟩
      refine ⟨_, rfl, t, _, rfl, .inr (SqT.of ht2), rfl, _, rfl, ifT rfl ?_⟩
      exact ⟨_, rfl, z, _, _, _, rfl, rfl, SqL.of hz2, rfl, weather_madeX (cs := [u]) (by show 1 ≤ 1000; decide) kk kk2⟩
    | [u, v], _, _ =>
      refine ⟨_, rfl, t, _, rfl, .inr (SqT.of ht2), _, _, rfl, rfl, _, rfl, ifT rfl ?_⟩
      refine ⟨_, rfl, t, _, rfl, .inr (SqT.of ht2), rfl, _, rfl, ifF rfl ?_⟩
      exact ⟨_, rfl, z, _, _, _, rfl, rfl, SqL.of hz2, rfl, _, rfl, z, _, _, _, rfl, rfl, SqL.of hz2, rfl, weather_madeX (cs := [u, v]) (by show 2 ≤ 1000; decide) kk kk2⟩
    | [u, v, x], _, _ =>
      refine ⟨_, rfl, t, _, rfl, .inr (SqT.of ht2), _, _, rfl, rfl, _, rfl, ifF rfl ?_⟩
      refine ⟨_, rfl, t, _, rfl, .inr (SqT.of ht2), _, _, rfl, rfl, _, rfl, ifT rfl ?_⟩
      refine ⟨_, rfl, t, _, rfl, .inr (SqT.of ht2), rfl, _, rfl, ifT rfl ?_⟩
      exact ⟨_, rfl, z, _, _, _, rfl, rfl, SqL.of hz2, rfl, _, rfl, z, _, _, _, rfl, rfl, SqL.of hz2, rfl, _, rfl, z, _, _, _, rfl, rfl, SqL.of hz2, rfl, weather_madeX (cs := [u, v, x]) (by show 3 ≤ 1000; decide) kk kk2⟩
    | [u, v, x, y], _, _ =>
      refine ⟨_, rfl, t, _, rfl, .inr (SqT.of ht2), _, _, rfl, rfl, _, rfl, ifF rfl ?_⟩
      refine ⟨_, rfl, t, _, rfl, .inr (SqT.of ht2), _, _, rfl, rfl, _, rfl, ifT rfl ?_⟩
      refine ⟨_, rfl, t, _, rfl, .inr (SqT.of ht2), rfl, _, rfl, ifF rfl ?_⟩
      exact ⟨_, rfl, z, _, _, _, rfl, rfl, SqL.of hz2, rfl, _, rfl, z, _, _, _, rfl, rfl, SqL.of hz2, rfl, _, rfl, z, _, _, _, rfl, rfl, SqL.of hz2, rfl, _, rfl, z, _, _, _, rfl, rfl, SqL.of hz2, rfl, weather_madeX (cs := [u, v, x, y]) (by show 4 ≤ 1000; decide) kk kk2⟩
    | [u, v, x, y, m], _, _ =>
      refine ⟨_, rfl, t, _, rfl, .inr (SqT.of ht2), _, _, rfl, rfl, _, rfl, ifF rfl ?_⟩
      refine ⟨_, rfl, t, _, rfl, .inr (SqT.of ht2), _, _, rfl, rfl, _, rfl, ifF rfl ?_⟩
      refine ⟨_, rfl, t, _, rfl, .inr (SqT.of ht2), rfl, _, rfl, ifT rfl ?_⟩
      exact ⟨_, rfl, z, _, _, _, rfl, rfl, SqL.of hz2, rfl, _, rfl, z, _, _, _, rfl, rfl, SqL.of hz2, rfl, _, rfl, z, _, _, _, rfl, rfl, SqL.of hz2, rfl, _, rfl, z, _, _, _, rfl, rfl, SqL.of hz2, rfl, _, rfl, z, _, _, _, rfl, rfl, SqL.of hz2, rfl, weather_madeX (cs := [u, v, x, y, m]) (by show 5 ≤ 1000; decide) kk kk2⟩
    | [u, v, x, y, m, n], _, _ =>
      refine ⟨_, rfl, t, _, rfl, .inr (SqT.of ht2), _, _, rfl, rfl, _, rfl, ifF rfl ?_⟩
      refine ⟨_, rfl, t, _, rfl, .inr (SqT.of ht2), _, _, rfl, rfl, _, rfl, ifF rfl ?_⟩
      refine ⟨_, rfl, t, _, rfl, .inr (SqT.of ht2), rfl, _, rfl, ifF rfl ?_⟩
      exact ⟨_, rfl, z, _, _, _, rfl, rfl, SqL.of hz2, rfl, _, rfl, z, _, _, _, rfl, rfl, SqL.of hz2, rfl, _, rfl, z, _, _, _, rfl, rfl, SqL.of hz2, rfl, _, rfl, z, _, _, _, rfl, rfl, SqL.of hz2, rfl, _, rfl, z, _, _, _, rfl, rfl, SqL.of hz2, rfl, _, rfl, z, _, _, _, rfl, rfl, SqL.of hz2, rfl, weather_madeX (cs := [u, v, x, y, m, n]) (by show 6 ≤ 1000; decide) kk kk2⟩
    | u :: v :: x :: y :: m :: n :: o :: r, _, c6 => simp at c6
end
end W6

namespace W6
open PySem PySem.Spec PyProof.Rows L2 Ru StX
def Fl (u v : V) : Prop := u = v ∧ ((∃ n : Int, u = .int n) ∨ ∃ b : Bool, u = .bl b)
def Sq1 (R : V → V → Hp → Prop) (H : Hp) (xs ys : List V) : Prop := xs.length = ys.length ∧ xs.length ≤ 1000000 ∧ ∀ (i : Nat) (u v : V), xs[i]? = some u → ys[i]? = some v → R u v H
def AS (R : V → V → Hp → Prop) (u v : V) (H : Hp) : Prop := Fl u v ∨ ∃ (x y : Addr) (xs ys : List V), u = .ref x ∧ v = .ref y ∧ Sq1 R H xs ys ∧ ((H x = some (.lst xs) ∧ H y = some (.lst ys)) ∨ (H x = some (.tup xs) ∧ H y = some (.tup ys)))
def R0 (u v : V) (_ : Hp) : Prop := Fl u v
def R1 : V → V → Hp → Prop := AS R0
def R2 : V → V → Hp → Prop := AS R1
theorem Sq1.same {R : V → V → Hp → Prop} (m : ∀ u v H H', R u v H → Same H H' → R u v H') {H H' : Hp} {xs ys : List V} (h : Sq1 R H xs ys) (s : Same H H') : Sq1 R H' xs ys := ⟨h.1, h.2.1, fun i u v hu hv => m _ _ _ _ (h.2.2 i u v hu hv) s⟩
theorem AS.same {R : V → V → Hp → Prop} (m : ∀ u v H H', R u v H → Same H H' → R u v H') (u v : V) (H H' : Hp) (h : AS R u v H) (s : Same H H') : AS R u v H' := by
  rcases h with h | ⟨x, y, xs, ys, e1, e2, q, h⟩
  · exact .inl h
  · refine .inr ⟨x, y, xs, ys, e1, e2, q.same m s, ?_⟩
    rcases h with ⟨h1, h2⟩ | ⟨h1, h2⟩
    · exact .inl ⟨s _ _ h1, s _ _ h2⟩
    · exact .inr ⟨s _ _ h1, s _ _ h2⟩
theorem R0.mono : ∀ u v H H', R0 u v H → Same H H' → R0 u v H' := fun _ _ _ _ h _ => h
theorem R1.mono : ∀ u v H H', R1 u v H → Same H H' → R1 u v H' := AS.same R0.mono
def spAk (R : V → V → Hp → Prop) : Sp := fun vs H Q _ => ∃ u v, vs = [u, v] ∧ R u v H ∧ ∀ H', Same H H' → Q (.bl true) H'
section
variable {P : Program} {w : World} {K : PySem.W.Frag} {mg : Str → Option Value} {base : Heap} {a : Ad}
theorem kitN' {s : String} (h1 : kitB s "tuple" = some false) (h2 : kitB s "list" = some false) : PySem.W.kitAny K (.type s) [.type "tuple", .type "list"] = some false := by
  unfold PySem.W.kitAny
  rw [kit_ty h1]
  unfold PySem.W.kitAny
  rw [kit_ty h2]
  try rfl
theorem kitTup' : PySem.W.kitAny K (.type "tuple") [.type "tuple", .type "list"] = some true := by
  unfold PySem.W.kitAny
  rw [kit_ty (r := true) (by decide +kernel)]
  try rfl
theorem kitLst' : PySem.W.kitAny K (.type "list") [.type "tuple", .type "list"] = some true := by
  unfold PySem.W.kitAny
  rw [kit_ty (r := false) (by decide +kernel)]
  unfold PySem.W.kitAny
  rw [kit_ty (r := true) (by decide +kernel)]
  try rfl
theorem alikeF (T : Txt K mg a) : FnOk P w K mg base CX0 1 a.f__law_alike a.d__law_alike ["_law_found", "_law_due"] (spAk R0) := by
  refine T.F__law_alike.ok sc__law_alike (fun vs H Q E h => ?_) (fun cdv A outer s H vs Q E hr h => ?_)
  · obtain ⟨u, v, rfl, _⟩ := h
    rfl
  · obtain ⟨u, v, rfl, f, k⟩ := h
    revert f
    intro f
    obtain ⟨rfl, ⟨c, rfl⟩ | ⟨b, rfl⟩⟩ := f
    · refine ⟨_, (pss_cons (ps_if (pt_val (pe_callB call_isi (by rfl) T.z_isinstance (by decide +kernel) (pa_cons (pv 1) (pa_cons (pe_bltn (v := .ty "dict") (by rfl) T.z_dict (by decide +kernel) rfl) pa_nil)))) (pss_one ps_never) pss_nil)
      (pss_cons (ps_if (pt_val (pe_callB call_isiT (by rfl) T.z_isinstance (by decide +kernel) (pa_cons (pv 1) (pa_cons (pe_tup (pa_cons (pe_bltn (v := .ty "tuple") (by rfl) T.z_tuple (by decide +kernel) rfl) (pa_cons (pe_bltn (v := .ty "list") (by rfl) T.z_list (by decide +kernel) rfl) pa_nil))) pa_nil)))) (pss_cons ps_never (pss_cons ps_never (pss_one ps_never))) pss_nil)
      (pss_cons (ps_if (PW.pt (pw_or (pt_cmpR op_isN (pv 1) pe_non (nomark _)) (pw_or1 (pt_val (pe_callB call_isi (by rfl) T.z_isinstance (by decide +kernel) (pa_cons (pv 1) (pa_cons (pe_bltn (v := .ty "str") (by rfl) T.z_str (by decide +kernel) rfl) pa_nil))))))) (pss_one ps_never) pss_nil)
      (pss_one (ps_ret (pe_and (pe_callB call_isi (by rfl) T.z_isinstance (by decide +kernel) (pa_cons (pv 0) (pa_cons (pe_bltn (v := .ty "int") (by rfl) T.z_int (by decide +kernel) rfl) pa_nil))) (pe_and (pe_cmpR op_eq (pe_callB call_isi (by rfl) T.z_isinstance (by decide +kernel) (pa_cons (pv 0) (pa_cons (pe_bltn (v := .ty "bool") (by rfl) T.z_bool (by decide +kernel) rfl) pa_nil))) (pe_callB call_isi (by rfl) T.z_isinstance (by decide +kernel) (pa_cons (pv 1) (pa_cons (pe_bltn (v := .ty "bool") (by rfl) T.z_bool (by decide +kernel) rfl) pa_nil))) (nomark _)) (pe_one (pe_cmpR op_eq (pv 0) (pv 1) (nomark _)))))))))), ?_⟩
      refine ⟨_, rfl, .int c, .ty "dict", .type "int", .type "dict", false, rfl, .ty _, .base (.int c), kit_ty (by decide +kernel), _, rfl, ?_⟩
      refine ifF rfl ?_
      refine ⟨_, rfl, by show 2 ≤ sizeLine; decide, fun tp ntp => ?_⟩
      have s1 := same_upd (o := .tup [.ty "tuple", .ty "list"]) ntp
      refine ⟨.int c, tp, [.ty "tuple", .ty "list"], .type "int", [.type "tuple", .type "list"], false, rfl, upd_same, .cons (.ty _) (.cons (.ty _) .nil), .base (.int c), kitN' (by decide +kernel) (by decide +kernel), _, rfl, ?_⟩
      refine ifF rfl ?_
      refine ⟨_, rfl, rfl, _, rfl, ?_⟩
      refine ifF rfl ?_
      refine ⟨_, rfl, .int c, .ty "str", .type "int", .type "str", false, rfl, .ty _, .base (.int c), kit_ty (by decide +kernel), _, rfl, ?_⟩
      refine ifF rfl ?_
      refine ⟨_, rfl, .int c, .ty "int", .type "int", .type "int", true, rfl, .ty _, .base (.int c), kit_ty (by decide +kernel), true, rfl, ?_⟩
      refine ifT rfl ?_
      refine ⟨_, rfl, .int c, .ty "bool", .type "int", .type "bool", false, rfl, .ty _, .base (.int c), kit_ty (by decide +kernel), ?_⟩
      refine ⟨_, rfl, .int c, .ty "bool", .type "int", .type "bool", false, rfl, .ty _, .base (.int c), kit_ty (by decide +kernel), rfl, true, congrArg V.bl (dT rfl), ?_⟩
      refine ifT rfl ?_
      refine ⟨_, rfl, _, rfl, rfl, ?_⟩
      rw [show (decide (V.int c = V.int c)) = true from decide_eq_true rfl]
      exact k _ s1
    · refine ⟨_, (pss_cons (ps_if (pt_val (pe_callB call_isi (by rfl) T.z_isinstance (by decide +kernel) (pa_cons (pv 1) (pa_cons (pe_bltn (v := .ty "dict") (by rfl) T.z_dict (by decide +kernel) rfl) pa_nil)))) (pss_one ps_never) pss_nil)
      (pss_cons (ps_if (pt_val (pe_callB call_isiT (by rfl) T.z_isinstance (by decide +kernel) (pa_cons (pv 1) (pa_cons (pe_tup (pa_cons (pe_bltn (v := .ty "tuple") (by rfl) T.z_tuple (by decide +kernel) rfl) (pa_cons (pe_bltn (v := .ty "list") (by rfl) T.z_list (by decide +kernel) rfl) pa_nil))) pa_nil)))) (pss_cons ps_never (pss_cons ps_never (pss_one ps_never))) pss_nil)
      (pss_cons (ps_if (PW.pt (pw_or (pt_cmpR op_isN (pv 1) pe_non (nomark _)) (pw_or1 (pt_val (pe_callB call_isi (by rfl) T.z_isinstance (by decide +kernel) (pa_cons (pv 1) (pa_cons (pe_bltn (v := .ty "str") (by rfl) T.z_str (by decide +kernel) rfl) pa_nil))))))) (pss_one ps_never) pss_nil)
      (pss_one (ps_ret (pe_and (pe_callB call_isi (by rfl) T.z_isinstance (by decide +kernel) (pa_cons (pv 0) (pa_cons (pe_bltn (v := .ty "int") (by rfl) T.z_int (by decide +kernel) rfl) pa_nil))) (pe_and (pe_cmpR op_eq (pe_callB call_isi (by rfl) T.z_isinstance (by decide +kernel) (pa_cons (pv 0) (pa_cons (pe_bltn (v := .ty "bool") (by rfl) T.z_bool (by decide +kernel) rfl) pa_nil))) (pe_callB call_isi (by rfl) T.z_isinstance (by decide +kernel) (pa_cons (pv 1) (pa_cons (pe_bltn (v := .ty "bool") (by rfl) T.z_bool (by decide +kernel) rfl) pa_nil))) (nomark _)) (pe_one (pe_cmpR op_eq (pv 0) (pv 1) (nomark _)))))))))), ?_⟩
      refine ⟨_, rfl, .bl b, .ty "dict", .type "bool", .type "dict", false, rfl, .ty _, .base (.bl b), kit_ty (by decide +kernel), _, rfl, ?_⟩
      refine ifF rfl ?_
      refine ⟨_, rfl, by show 2 ≤ sizeLine; decide, fun tp ntp => ?_⟩
      have s1 := same_upd (o := .tup [.ty "tuple", .ty "list"]) ntp
      refine ⟨.bl b, tp, [.ty "tuple", .ty "list"], .type "bool", [.type "tuple", .type "list"], false, rfl, upd_same, .cons (.ty _) (.cons (.ty _) .nil), .base (.bl b), kitN' (by decide +kernel) (by decide +kernel), _, rfl, ?_⟩
      refine ifF rfl ?_
      refine ⟨_, rfl, rfl, _, rfl, ?_⟩
      refine ifF rfl ?_
      refine ⟨_, rfl, .bl b, .ty "str", .type "bool", .type "str", false, rfl, .ty _, .base (.bl b), kit_ty (by decide +kernel), _, rfl, ?_⟩
      refine ifF rfl ?_
      refine ⟨_, rfl, .bl b, .ty "int", .type "bool", .type "int", true, rfl, .ty _, .base (.bl b), kit_ty (by decide +kernel), true, rfl, ?_⟩
      refine ifT rfl ?_
      refine ⟨_, rfl, .bl b, .ty "bool", .type "bool", .type "bool", true, rfl, .ty _, .base (.bl b), kit_ty (by decide +kernel), ?_⟩
      refine ⟨_, rfl, .bl b, .ty "bool", .type "bool", .type "bool", true, rfl, .ty _, .base (.bl b), kit_ty (by decide +kernel), rfl, true, congrArg V.bl (dT rfl), ?_⟩
      refine ifT rfl ?_
      refine ⟨_, rfl, _, rfl, rfl, ?_⟩
      rw [show (decide (V.bl b = V.bl b)) = true from decide_eq_true rfl]
      exact k _ s1
set_option maxHeartbeats 0 in
theorem alikeS1 (T : Txt K mg a) : FnOk P w K mg base CX0 2 a.f__law_alike a.d__law_alike ["_law_found", "_law_due"] (spAk (AS R0)) := by
  have G__law_alike : FnOk P w K mg base CX0 1 a.f__law_alike a.d__law_alike ["_law_found", "_law_due"] (spAk R0) := alikeF T
  refine T.F__law_alike.ok sc__law_alike (fun vs H Q E h => ?_) (fun cdv A outer s H vs Q E hr h => ?_)
  · obtain ⟨u, v, rfl, _⟩ := h
    rfl
  · obtain ⟨u, v, rfl, f | ⟨x, y, xs, ys, rfl, rfl, sq, hxy⟩, k⟩ := h
    · obtain ⟨rfl, ⟨c, rfl⟩ | ⟨b, rfl⟩⟩ := f
      · refine ⟨_, (pss_cons (ps_if (pt_val (pe_callB call_isi (by rfl) T.z_isinstance (by decide +kernel) (pa_cons (pv 1) (pa_cons (pe_bltn (v := .ty "dict") (by rfl) T.z_dict (by decide +kernel) rfl) pa_nil)))) (pss_one ps_never) pss_nil)
      (pss_cons (ps_if (pt_val (pe_callB call_isiT (by rfl) T.z_isinstance (by decide +kernel) (pa_cons (pv 1) (pa_cons (pe_tup (pa_cons (pe_bltn (v := .ty "tuple") (by rfl) T.z_tuple (by decide +kernel) rfl) (pa_cons (pe_bltn (v := .ty "list") (by rfl) T.z_list (by decide +kernel) rfl) pa_nil))) pa_nil)))) (pss_cons ps_never (pss_cons ps_never (pss_one ps_never))) pss_nil)
      (pss_cons (ps_if (PW.pt (pw_or (pt_cmpR op_isN (pv 1) pe_non (nomark _)) (pw_or1 (pt_val (pe_callB call_isi (by rfl) T.z_isinstance (by decide +kernel) (pa_cons (pv 1) (pa_cons (pe_bltn (v := .ty "str") (by rfl) T.z_str (by decide +kernel) rfl) pa_nil))))))) (pss_one ps_never) pss_nil)
      (pss_one (ps_ret (pe_and (pe_callB call_isi (by rfl) T.z_isinstance (by decide +kernel) (pa_cons (pv 0) (pa_cons (pe_bltn (v := .ty "int") (by rfl) T.z_int (by decide +kernel) rfl) pa_nil))) (pe_and (pe_cmpR op_eq (pe_callB call_isi (by rfl) T.z_isinstance (by decide +kernel) (pa_cons (pv 0) (pa_cons (pe_bltn (v := .ty "bool") (by rfl) T.z_bool (by decide +kernel) rfl) pa_nil))) (pe_callB call_isi (by rfl) T.z_isinstance (by decide +kernel) (pa_cons (pv 1) (pa_cons (pe_bltn (v := .ty "bool") (by rfl) T.z_bool (by decide +kernel) rfl) pa_nil))) (nomark _)) (pe_one (pe_cmpR op_eq (pv 0) (pv 1) (nomark _)))))))))), ?_⟩
        refine ⟨_, rfl, .int c, .ty "dict", .type "int", .type "dict", false, rfl, .ty _, .base (.int c), kit_ty (by decide +kernel), _, rfl, ?_⟩
        refine ifF rfl ?_
        refine ⟨_, rfl, by show 2 ≤ sizeLine; decide, fun tp ntp => ?_⟩
        have s1 := same_upd (o := .tup [.ty "tuple", .ty "list"]) ntp
        refine ⟨.int c, tp, [.ty "tuple", .ty "list"], .type "int", [.type "tuple", .type "list"], false, rfl, upd_same, .cons (.ty _) (.cons (.ty _) .nil), .base (.int c), kitN' (by decide +kernel) (by decide +kernel), _, rfl, ?_⟩
        refine ifF rfl ?_
        refine ⟨_, rfl, rfl, _, rfl, ?_⟩
        refine ifF rfl ?_
        refine ⟨_, rfl, .int c, .ty "str", .type "int", .type "str", false, rfl, .ty _, .base (.int c), kit_ty (by decide +kernel), _, rfl, ?_⟩
        refine ifF rfl ?_
        refine ⟨_, rfl, .int c, .ty "int", .type "int", .type "int", true, rfl, .ty _, .base (.int c), kit_ty (by decide +kernel), true, rfl, ?_⟩
        refine ifT rfl ?_
        refine ⟨_, rfl, .int c, .ty "bool", .type "int", .type "bool", false, rfl, .ty _, .base (.int c), kit_ty (by decide +kernel), ?_⟩
        refine ⟨_, rfl, .int c, .ty "bool", .type "int", .type "bool", false, rfl, .ty _, .base (.int c), kit_ty (by decide +kernel), rfl, true, congrArg V.bl (dT rfl), ?_⟩
        refine ifT rfl ?_
        refine ⟨_, rfl, _, rfl, rfl, ?_⟩
        rw [show (decide (V.int c = V.int c)) = true from decide_eq_true rfl]
        exact k _ s1
      · refine ⟨_, (pss_cons (ps_if (pt_val (pe_callB call_isi (by rfl) T.z_isinstance (by decide +kernel) (pa_cons (pv 1) (pa_cons (pe_bltn (v := .ty "dict") (by rfl) T.z_dict (by decide +kernel) rfl) pa_nil)))) (pss_one ps_never) pss_nil)
      (pss_cons (ps_if (pt_val (pe_callB call_isiT (by rfl) T.z_isinstance (by decide +kernel) (pa_cons (pv 1) (pa_cons (pe_tup (pa_cons (pe_bltn (v := .ty "tuple") (by rfl) T.z_tuple (by decide +kernel) rfl) (pa_cons (pe_bltn (v := .ty "list") (by rfl) T.z_list (by decide +kernel) rfl) pa_nil))) pa_nil)))) (pss_cons ps_never (pss_cons ps_never (pss_one ps_never))) pss_nil)
      (pss_cons (ps_if (PW.pt (pw_or (pt_cmpR op_isN (pv 1) pe_non (nomark _)) (pw_or1 (pt_val (pe_callB call_isi (by rfl) T.z_isinstance (by decide +kernel) (pa_cons (pv 1) (pa_cons (pe_bltn (v := .ty "str") (by rfl) T.z_str (by decide +kernel) rfl) pa_nil))))))) (pss_one ps_never) pss_nil)
      (pss_one (ps_ret (pe_and (pe_callB call_isi (by rfl) T.z_isinstance (by decide +kernel) (pa_cons (pv 0) (pa_cons (pe_bltn (v := .ty "int") (by rfl) T.z_int (by decide +kernel) rfl) pa_nil))) (pe_and (pe_cmpR op_eq (pe_callB call_isi (by rfl) T.z_isinstance (by decide +kernel) (pa_cons (pv 0) (pa_cons (pe_bltn (v := .ty "bool") (by rfl) T.z_bool (by decide +kernel) rfl) pa_nil))) (pe_callB call_isi (by rfl) T.z_isinstance (by decide +kernel) (pa_cons (pv 1) (pa_cons (pe_bltn (v := .ty "bool") (by rfl) T.z_bool (by decide +kernel) rfl) pa_nil))) (nomark _)) (pe_one (pe_cmpR op_eq (pv 0) (pv 1) (nomark _)))))))))), ?_⟩
        refine ⟨_, rfl, .bl b, .ty "dict", .type "bool", .type "dict", false, rfl, .ty _, .base (.bl b), kit_ty (by decide +kernel), _, rfl, ?_⟩
        refine ifF rfl ?_
        refine ⟨_, rfl, by show 2 ≤ sizeLine; decide, fun tp ntp => ?_⟩
        have s1 := same_upd (o := .tup [.ty "tuple", .ty "list"]) ntp
        refine ⟨.bl b, tp, [.ty "tuple", .ty "list"], .type "bool", [.type "tuple", .type "list"], false, rfl, upd_same, .cons (.ty _) (.cons (.ty _) .nil), .base (.bl b), kitN' (by decide +kernel) (by decide +kernel), _, rfl, ?_⟩
        refine ifF rfl ?_
        refine ⟨_, rfl, rfl, _, rfl, ?_⟩
        refine ifF rfl ?_
        refine ⟨_, rfl, .bl b, .ty "str", .type "bool", .type "str", false, rfl, .ty _, .base (.bl b), kit_ty (by decide +kernel), _, rfl, ?_⟩
        refine ifF rfl ?_
        refine ⟨_, rfl, .bl b, .ty "int", .type "bool", .type "int", true, rfl, .ty _, .base (.bl b), kit_ty (by decide +kernel), true, rfl, ?_⟩
        refine ifT rfl ?_
        refine ⟨_, rfl, .bl b, .ty "bool", .type "bool", .type "bool", true, rfl, .ty _, .base (.bl b), kit_ty (by decide +kernel), ?_⟩
        refine ⟨_, rfl, .bl b, .ty "bool", .type "bool", .type "bool", true, rfl, .ty _, .base (.bl b), kit_ty (by decide +kernel), rfl, true, congrArg V.bl (dT rfl), ?_⟩
        refine ifT rfl ?_
        refine ⟨_, rfl, _, rfl, rfl, ?_⟩
        rw [show (decide (V.bl b = V.bl b)) = true from decide_eq_true rfl]
        exact k _ s1
    · have lxy := sq.1
      have lle := sq.2.1
      rcases hxy with ⟨hx, hy⟩ | ⟨hx, hy⟩
      · refine ⟨_, (pss_cons (ps_if (pt_val (pe_callB call_isi (by rfl) T.z_isinstance (by decide +kernel) (pa_cons (pv 1) (pa_cons (pe_bltn (v := .ty "dict") (by rfl) T.z_dict (by decide +kernel) rfl) pa_nil)))) (pss_one ps_never) pss_nil)
      (pss_cons (ps_if (pt_val (pe_callB call_isiT (by rfl) T.z_isinstance (by decide +kernel) (pa_cons (pv 1) (pa_cons (pe_tup (pa_cons (pe_bltn (v := .ty "tuple") (by rfl) T.z_tuple (by decide +kernel) rfl) (pa_cons (pe_bltn (v := .ty "list") (by rfl) T.z_list (by decide +kernel) rfl) pa_nil))) pa_nil)))) (pss_cons (ps_if (PW.pt (pw_or (pt_not (pt_val (pe_callB call_isiT (by rfl) T.z_isinstance (by decide +kernel) (pa_cons (pv 0) (pa_cons (pe_tup (pa_cons (pe_bltn (v := .ty "tuple") (by rfl) T.z_tuple (by decide +kernel) rfl) (pa_cons (pe_bltn (v := .ty "list") (by rfl) T.z_list (by decide +kernel) rfl) pa_nil))) pa_nil))))) (pw_or1 (pt_cmpR op_ne (pe_callB call_isi (by rfl) T.z_isinstance (by decide +kernel) (pa_cons (pv 0) (pa_cons (pe_bltn (v := .ty "list") (by rfl) T.z_list (by decide +kernel) rfl) pa_nil))) (pe_callB call_isi (by rfl) T.z_isinstance (by decide +kernel) (pa_cons (pv 1) (pa_cons (pe_bltn (v := .ty "list") (by rfl) T.z_list (by decide +kernel) rfl) pa_nil))) (nomark _))))) (pss_one (ps_ret pe_bl)) pss_nil)
      (pss_cons (ps_if (pt_cmpR op_ne (pe_callB call_len_seq (by rfl) T.z_len PySem.boot_len (pa_cons (pv 0) pa_nil)) (pe_callB call_len_seq (by rfl) T.z_len PySem.boot_len (pa_cons (pv 1) pa_nil)) (nomark _)) (pss_one (ps_ret pe_bl)) pss_nil)
      (pss_one (ps_ret (pe_cmpR (op_eqD hr.units) (pe_lc (own := [("_law_k", 2)]) (g := gName 2) rfl sc__law_alike.nd (pi_range1 (by rfl) T.z_range (pa_cons (pe_callB call_len_seq (by rfl) T.z_len PySem.boot_len (pa_cons (pv 1) pa_nil)) pa_nil)) (blkOk_by (own := [("_law_k", 2)]) (N := ["_law_found", "_law_due", "_law_k"]) (sc := (defScope s__law_alike)) (by decide +kernel)) (fun _ _ _ _ _ => pg_name (i := 2) sc__law_alike.nd rfl (Or.inl rfl)) (fun _ _ _ _ _ => pts_one (pt_not (pt_val (pe_call G__law_alike (hr.mono (by decide)) (by rfl) T.mg__law_alike T.F__law_alike.kp (b__law_alike T) .nil pass0 (pa_cons (pe_ix (show IxR _ (rIxL K) from ix_list) (pv 0) (pv 2) (fun _ _ => rfl)) (pa_cons (pe_ix (show IxR _ (rIxL K) from ix_list) (pv 1) (pv 2) (fun _ _ => rfl)) pa_nil)))))) (fun _ _ _ _ _ => (pv 2))) (pe_lst pa_nil) (nomark _)))))) pss_nil)
      (pss_cons (ps_if (PW.pt (pw_or (pt_cmpR op_isN (pv 1) pe_non (nomark _)) (pw_or1 (pt_val (pe_callB call_isi (by rfl) T.z_isinstance (by decide +kernel) (pa_cons (pv 1) (pa_cons (pe_bltn (v := .ty "str") (by rfl) T.z_str (by decide +kernel) rfl) pa_nil))))))) (pss_one (ps_ret (pe_and (pe_cmpR op_eq (pv 0) (pv 1) (nomark _)) (pe_one (pe_cmpR op_eq (pe_callB call_isi (by rfl) T.z_isinstance (by decide +kernel) (pa_cons (pv 0) (pa_cons (pe_bltn (v := .ty "str") (by rfl) T.z_str (by decide +kernel) rfl) pa_nil))) (pe_callB call_isi (by rfl) T.z_isinstance (by decide +kernel) (pa_cons (pv 1) (pa_cons (pe_bltn (v := .ty "str") (by rfl) T.z_str (by decide +kernel) rfl) pa_nil))) (nomark _)))))) pss_nil)
      (pss_one (ps_ret (pe_and (pe_callB call_isi (by rfl) T.z_isinstance (by decide +kernel) (pa_cons (pv 0) (pa_cons (pe_bltn (v := .ty "int") (by rfl) T.z_int (by decide +kernel) rfl) pa_nil))) (pe_and (pe_cmpR op_eq (pe_callB call_isi (by rfl) T.z_isinstance (by decide +kernel) (pa_cons (pv 0) (pa_cons (pe_bltn (v := .ty "bool") (by rfl) T.z_bool (by decide +kernel) rfl) pa_nil))) (pe_callB call_isi (by rfl) T.z_isinstance (by decide +kernel) (pa_cons (pv 1) (pa_cons (pe_bltn (v := .ty "bool") (by rfl) T.z_bool (by decide +kernel) rfl) pa_nil))) (nomark _)) (pe_one (pe_cmpR op_eq (pv 0) (pv 1) (nomark _)))))))))), ?_⟩
        refine ⟨_, rfl, .ref y, .ty "dict", .type "list", .type "dict", false, rfl, .ty _, .base (.lst hy), kit_ty (by decide +kernel), _, rfl, ?_⟩
        refine ifF rfl ?_
        refine ⟨_, rfl, by show 2 ≤ sizeLine; decide, fun tp ntp => ?_⟩
        have s1 := same_upd (o := .tup [.ty "tuple", .ty "list"]) ntp
        refine ⟨.ref y, tp, [.ty "tuple", .ty "list"], .type "list", [.type "tuple", .type "list"], true, rfl, upd_same, .cons (.ty _) (.cons (.ty _) .nil), .base (.lst (s1 _ _ hy)), kitLst', _, rfl, ?_⟩
        refine ifT rfl ?_
        refine ⟨_, rfl, by show 2 ≤ sizeLine; decide, fun tp2 ntp2 => ?_⟩
        have s2 := same_upd (o := .tup [.ty "tuple", .ty "list"]) ntp2
        have s12 := s1.trans s2
        refine ⟨.ref x, tp2, [.ty "tuple", .ty "list"], .type "list", [.type "tuple", .type "list"], true, rfl, upd_same, .cons (.ty _) (.cons (.ty _) .nil), .base (.lst (s12 _ _ hx)), kitLst', ?_⟩
        refine ⟨_, rfl, ?_⟩
        refine ifF rfl ?_
        refine ⟨_, rfl, .ref x, .ty "list", .type "list", .type "list", true, rfl, .ty _, .base (.lst (s12 _ _ hx)), kit_ty (by decide +kernel), _, rfl, .ref y, .ty "list", .type "list", .type "list", true, rfl, .ty _, .base (.lst (s12 _ _ hy)), kit_ty (by decide +kernel), rfl, _, rfl, ?_⟩
        refine ifF rfl ?_
        refine ⟨_, rfl, x, _, rfl, .inl (SqL.of (s12 _ _ hx)), _, rfl, y, _, rfl, .inl (SqL.of (s12 _ _ hy)), rfl, _, rfl, ?_⟩
        refine ifF (by rw [sq.1]; show (!decide (V.int _ = V.int _)) = false; rw [decide_eq_true rfl]; rfl) ?_
        refine ⟨_, rfl, y, _, rfl, .inl (SqL.of (s12 _ _ hy)), (ys.length : Int), rfl, by omega, by omega, fun D hD => lc_range (lo := 0) (n := ((ys.length : Nat) : Int).toNat) (fun i H' => Same (upd (upd H tp (.tup [.ty "tuple", .ty "list"])) tp2 (.tup [.ty "tuple", .ty "list"])) H' ∧ H' D = some (.lst [])) ⟨same_upd hD, upd_same⟩ ?_ ?_⟩
        · rintro i H' hi ⟨sm, hD'⟩
          have hi : i < ys.length := by omega
          have hi2 : i < xs.length := by omega
          have sm12 := s12.trans sm
          have hu : xs[i]? = some xs[i] := List.getElem?_eq_getElem hi2
          have hv : ys[i]? = some ys[i] := List.getElem?_eq_getElem hi
          have ei : (0 : Int) + (i : Int) = (i : Int) := Int.zero_add _
          refine ⟨rfl, _, rfl, _, rfl, x, _, _, _, rfl, rfl, SqL.of (sm12 _ _ hx), by rw [ei]; exact atI_nat hu, _, rfl, _, rfl, y, _, _, _, rfl, rfl, SqL.of (sm12 _ _ hy), by rw [ei]; exact atI_nat hv, _, _, rfl, R0.mono _ _ _ _ (sq.2.2 i _ _ hu hv) sm12, fun H2 s2' => ?_⟩
          refine ⟨_, rfl, ?_⟩
          refine ifF rfl ?_
          exact ⟨sm.trans s2', s2' _ _ hD'⟩
        · rintro H' ⟨sm, hD'⟩
          refine ⟨Nat.zero_le _, fun q nq => ⟨.list [], .list [], .lst (SqL.of (same_upd nq _ _ hD')) .nil, .lst (SqL.of upd_same) .nil, rfl, rfl, ?_⟩⟩
          exact k _ ((s12.trans sm).trans (same_upd nq))
      · refine ⟨_, (pss_cons (ps_if (pt_val (pe_callB call_isi (by rfl) T.z_isinstance (by decide +kernel) (pa_cons (pv 1) (pa_cons (pe_bltn (v := .ty "dict") (by rfl) T.z_dict (by decide +kernel) rfl) pa_nil)))) (pss_one ps_never) pss_nil)
      (pss_cons (ps_if (pt_val (pe_callB call_isiT (by rfl) T.z_isinstance (by decide +kernel) (pa_cons (pv 1) (pa_cons (pe_tup (pa_cons (pe_bltn (v := .ty "tuple") (by rfl) T.z_tuple (by decide +kernel) rfl) (pa_cons (pe_bltn (v := .ty "list") (by rfl) T.z_list (by decide +kernel) rfl) pa_nil))) pa_nil)))) (pss_cons (ps_if (PW.pt (pw_or (pt_not (pt_val (pe_callB call_isiT (by rfl) T.z_isinstance (by decide +kernel) (pa_cons (pv 0) (pa_cons (pe_tup (pa_cons (pe_bltn (v := .ty "tuple") (by rfl) T.z_tuple (by decide +kernel) rfl) (pa_cons (pe_bltn (v := .ty "list") (by rfl) T.z_list (by decide +kernel) rfl) pa_nil))) pa_nil))))) (pw_or1 (pt_cmpR op_ne (pe_callB call_isi (by rfl) T.z_isinstance (by decide +kernel) (pa_cons (pv 0) (pa_cons (pe_bltn (v := .ty "list") (by rfl) T.z_list (by decide +kernel) rfl) pa_nil))) (pe_callB call_isi (by rfl) T.z_isinstance (by decide +kernel) (pa_cons (pv 1) (pa_cons (pe_bltn (v := .ty "list") (by rfl) T.z_list (by decide +kernel) rfl) pa_nil))) (nomark _))))) (pss_one (ps_ret pe_bl)) pss_nil)
      (pss_cons (ps_if (pt_cmpR op_ne (pe_callB call_len_seq (by rfl) T.z_len PySem.boot_len (pa_cons (pv 0) pa_nil)) (pe_callB call_len_seq (by rfl) T.z_len PySem.boot_len (pa_cons (pv 1) pa_nil)) (nomark _)) (pss_one (ps_ret pe_bl)) pss_nil)
      (pss_one (ps_ret (pe_cmpR (op_eqD hr.units) (pe_lc (own := [("_law_k", 2)]) (g := gName 2) rfl sc__law_alike.nd (pi_range1 (by rfl) T.z_range (pa_cons (pe_callB call_len_seq (by rfl) T.z_len PySem.boot_len (pa_cons (pv 1) pa_nil)) pa_nil)) (blkOk_by (own := [("_law_k", 2)]) (N := ["_law_found", "_law_due", "_law_k"]) (sc := (defScope s__law_alike)) (by decide +kernel)) (fun _ _ _ _ _ => pg_name (i := 2) sc__law_alike.nd rfl (Or.inl rfl)) (fun _ _ _ _ _ => pts_one (pt_not (pt_val (pe_call G__law_alike (hr.mono (by decide)) (by rfl) T.mg__law_alike T.F__law_alike.kp (b__law_alike T) .nil pass0 (pa_cons (pe_ix (show IxR _ (rIxT K) from ix_tup) (pv 0) (pv 2) (fun _ _ => rfl)) (pa_cons (pe_ix (show IxR _ (rIxT K) from ix_tup) (pv 1) (pv 2) (fun _ _ => rfl)) pa_nil)))))) (fun _ _ _ _ _ => (pv 2))) (pe_lst pa_nil) (nomark _)))))) pss_nil)
      (pss_cons (ps_if (PW.pt (pw_or (pt_cmpR op_isN (pv 1) pe_non (nomark _)) (pw_or1 (pt_val (pe_callB call_isi (by rfl) T.z_isinstance (by decide +kernel) (pa_cons (pv 1) (pa_cons (pe_bltn (v := .ty "str") (by rfl) T.z_str (by decide +kernel) rfl) pa_nil))))))) (pss_one (ps_ret (pe_and (pe_cmpR op_eq (pv 0) (pv 1) (nomark _)) (pe_one (pe_cmpR op_eq (pe_callB call_isi (by rfl) T.z_isinstance (by decide +kernel) (pa_cons (pv 0) (pa_cons (pe_bltn (v := .ty "str") (by rfl) T.z_str (by decide +kernel) rfl) pa_nil))) (pe_callB call_isi (by rfl) T.z_isinstance (by decide +kernel) (pa_cons (pv 1) (pa_cons (pe_bltn (v := .ty "str") (by rfl) T.z_str (by decide +kernel) rfl) pa_nil))) (nomark _)))))) pss_nil)
      (pss_one (ps_ret (pe_and (pe_callB call_isi (by rfl) T.z_isinstance (by decide +kernel) (pa_cons (pv 0) (pa_cons (pe_bltn (v := .ty "int") (by rfl) T.z_int (by decide +kernel) rfl) pa_nil))) (pe_and (pe_cmpR op_eq (pe_callB call_isi (by rfl) T.z_isinstance (by decide +kernel) (pa_cons (pv 0) (pa_cons (pe_bltn (v := .ty "bool") (by rfl) T.z_bool (by decide +kernel) rfl) pa_nil))) (pe_callB call_isi (by rfl) T.z_isinstance (by decide +kernel) (pa_cons (pv 1) (pa_cons (pe_bltn (v := .ty "bool") (by rfl) T.z_bool (by decide +kernel) rfl) pa_nil))) (nomark _)) (pe_one (pe_cmpR op_eq (pv 0) (pv 1) (nomark _)))))))))), ?_⟩
        refine ⟨_, rfl, .ref y, .ty "dict", .type "tuple", .type "dict", false, rfl, .ty _, .base (.tup hy), kit_ty (by decide +kernel), _, rfl, ?_⟩
        refine ifF rfl ?_
        refine ⟨_, rfl, by show 2 ≤ sizeLine; decide, fun tp ntp => ?_⟩
        have s1 := same_upd (o := .tup [.ty "tuple", .ty "list"]) ntp
        refine ⟨.ref y, tp, [.ty "tuple", .ty "list"], .type "tuple", [.type "tuple", .type "list"], true, rfl, upd_same, .cons (.ty _) (.cons (.ty _) .nil), .base (.tup (s1 _ _ hy)), kitTup', _, rfl, ?_⟩
        refine ifT rfl ?_
        refine ⟨_, rfl, by show 2 ≤ sizeLine; decide, fun tp2 ntp2 => ?_⟩
        have s2 := same_upd (o := .tup [.ty "tuple", .ty "list"]) ntp2
        have s12 := s1.trans s2
        refine ⟨.ref x, tp2, [.ty "tuple", .ty "list"], .type "tuple", [.type "tuple", .type "list"], true, rfl, upd_same, .cons (.ty _) (.cons (.ty _) .nil), .base (.tup (s12 _ _ hx)), kitTup', ?_⟩
        refine ⟨_, rfl, ?_⟩
        refine ifF rfl ?_
        refine ⟨_, rfl, .ref x, .ty "list", .type "tuple", .type "list", false, rfl, .ty _, .base (.tup (s12 _ _ hx)), kit_ty (by decide +kernel), _, rfl, .ref y, .ty "list", .type "tuple", .type "list", false, rfl, .ty _, .base (.tup (s12 _ _ hy)), kit_ty (by decide +kernel), rfl, _, rfl, ?_⟩
        refine ifF rfl ?_
        refine ⟨_, rfl, x, _, rfl, .inr (SqT.of (s12 _ _ hx)), _, rfl, y, _, rfl, .inr (SqT.of (s12 _ _ hy)), rfl, _, rfl, ?_⟩
        refine ifF (by rw [sq.1]; show (!decide (V.int _ = V.int _)) = false; rw [decide_eq_true rfl]; rfl) ?_
        refine ⟨_, rfl, y, _, rfl, .inr (SqT.of (s12 _ _ hy)), (ys.length : Int), rfl, by omega, by omega, fun D hD => lc_range (lo := 0) (n := ((ys.length : Nat) : Int).toNat) (fun i H' => Same (upd (upd H tp (.tup [.ty "tuple", .ty "list"])) tp2 (.tup [.ty "tuple", .ty "list"])) H' ∧ H' D = some (.lst [])) ⟨same_upd hD, upd_same⟩ ?_ ?_⟩
        · rintro i H' hi ⟨sm, hD'⟩
          have hi : i < ys.length := by omega
          have hi2 : i < xs.length := by omega
          have sm12 := s12.trans sm
          have hu : xs[i]? = some xs[i] := List.getElem?_eq_getElem hi2
          have hv : ys[i]? = some ys[i] := List.getElem?_eq_getElem hi
          have ei : (0 : Int) + (i : Int) = (i : Int) := Int.zero_add _
          refine ⟨rfl, _, rfl, _, rfl, x, _, _, _, rfl, rfl, SqT.of (sm12 _ _ hx), by rw [ei]; exact atI_nat hu, _, rfl, _, rfl, y, _, _, _, rfl, rfl, SqT.of (sm12 _ _ hy), by rw [ei]; exact atI_nat hv, _, _, rfl, R0.mono _ _ _ _ (sq.2.2 i _ _ hu hv) sm12, fun H2 s2' => ?_⟩
          refine ⟨_, rfl, ?_⟩
          refine ifF rfl ?_
          exact ⟨sm.trans s2', s2' _ _ hD'⟩
        · rintro H' ⟨sm, hD'⟩
          refine ⟨Nat.zero_le _, fun q nq => ⟨.list [], .list [], .lst (SqL.of (same_upd nq _ _ hD')) .nil, .lst (SqL.of upd_same) .nil, rfl, rfl, ?_⟩⟩
          exact k _ ((s12.trans sm).trans (same_upd nq))
set_option maxHeartbeats 0 in
end
end W6

namespace W6
open PySem PySem.Spec PyProof.Rows L2 Ru StX LamX
/-- what the written part says of the class of weathers, further -/
structure WTxt (K : PySem.W.Frag) (a : Ad) : Prop where
  hm : mroHd K a.c_Weather = true
  cr : ClX.CRead K a.c_Weather (.type "type")
  v24 : ∃ t, ClX.CVal K a.c_Weather (.type "type") "MAX_TICKS" (.int 24) (.int 24 t)
  v100 : ∃ t, ClX.CVal K a.c_Weather (.type "type") "MAX_CHANGE" (.int 100) (.int 100 t)
section
variable {X : Cx} {a : Ad} {er : Er}
theorem pe_err {Tb : List (Addr × Str)} {c P_ : Addr} {k : Nat} {params : Arguments} {body : Expr} {scope : Scope} {t : XK → TE} {p lpos pos : Pos} (T : Txt X.K X.mg a) (ER : ErT X.prog X.K X.mg er) (hg : Gl X "_law_error")
    (TB : TabB X.base X.mg c P_) (hcode : X.env.code = .ref c) (hmT : (P_, X.env.qual ++ "<lambda>") ∈ Tb) (hu : ∀ p ∈ Tb, p.1 = P_ → p.2 = X.env.qual ++ "<lambda>") (hr : Room (k + 2) X.A) (h9 : 9 ≤ k + 1) (L : LamS X.env.scope scope) (hdef : defaultsOf params X.env = ([], []))
    (bnd : ∀ (q : Str) (cl : List (Str × Addr)) (pm cv ctv : Value), bindArgs (PySem.W.kla_fn "<lambda>" q params body scope cl pm cv ctv) ⟨[], []⟩ = pure [])
    (hb : ∀ (A : Around) (outer : List Env) (s : Shared) (H : Hp) (E : XK) (f c' : Addr), Room k (A.deeper (lamEnv X scope s.heap.objs.size f c')) → PE (lamCx X A outer s H E scope f c') body (t E)) :
    PE X (.Call (.Name "_law_error" p) [.Lambda params body scope lpos] [] pos) (tLam Tb (TTe er) t) := by
  have bb := b__law_error T
  obtain ⟨oc, od, kV, doc, pm, an, cdv, ct, osl, e, lk, hcd⟩ := T.F__law_error.ex
  rw [e] at lk bb
  exact pe_give hg T.mg__law_error T.F__law_error.kp lk hcd bb sc__law_error rfl (.inl rfl) (gives_error T ER) TB hcode hmT hu hr h9 L hdef bnd hb
end
section
variable {P : Program} {w : World} {K : PySem.W.Frag} {mg : Str → Option Value} {base : Heap} {a : Ad} {er : Er}
/-- a def whose code object stands at c -/
theorem okC {x qual : Str} {st : Stmt} {f c : Addr} {fd : FuncData} {N ps : List Str} {k : Nat} {sp : Sp} (F : Fun K x qual st f fd) (hc : fd.code = .ref c) (S : FnScope N ps (defScope st)) (len : ∀ vs H Q E, sp vs H Q E → vs.length = ps.length)
    (hbody : ∀ (A : Around) (outer : List Env) (s : Shared) (H : Hp) (vs : List V) (Q : VK) (E : XK), Room k (A.deeper (envOfC qual (defScope st) s.heap.objs.size f (.ref c))) → sp vs H Q E →
      ∃ t, PSs (cxOf CX0 P w K mg base N qual (defScope st) f (.ref c) A outer s H E).nox (defBody st) t ∧ t { nx := fun _ H' => Q .non H', rt := Q } (start N vs) H) : FnOk P w K mg base CX0 (k + 1) f fd ps sp := by
  obtain ⟨oc, od, kV, doc, pm, an, cdv, ct, osl, rfl, lk, hcd⟩ := F.ex
  have e : cdv = .ref c := hc
  subst e
  refine fn_of lk hcd S len fun A outer s H vs Q E hr hsp => ?_
  obtain ⟨t, h, q⟩ := hbody A outer s H vs Q E hr hsp
  exact ⟨t, h.nox, q⟩
theorem tabs_keep {Tb : List (Addr × Str)} {H H' : Hp} {x y : Addr} (lh : LH H x y) (k : Keep x y H H') (h : Tabs Tb H) : Tabs Tb H' := by
  obtain ⟨m, i, cs, h1, h2, _⟩ := lh
  have go : ∀ {b : Addr} {o : HO}, H b = some o → (∀ xs, o ≠ .lst xs) → H' b = some o := fun {b o} e n => k b o (fun z => by rw [z, h1] at e; exact n _ (Option.some.inj e).symm) (fun z => by rw [z, h2] at e; exact n _ (Option.some.inj e).symm) e
  intro p hp
  obtain ⟨ps, a1, a2, a3⟩ := h p hp
  refine ⟨ps, go a1 (fun xs z => nomatch z), a2, fun pos cv hc => ?_⟩
  obtain ⟨c, e1, e2⟩ := a3 pos cv hc
  exact ⟨c, e1, go e2 (fun xs z => nomatch z)⟩
theorem LH.ext {H H' : Hp} {x y : Addr} (h : LH H x y) (s : ExtN H H') : LH H' x y := by
  obtain ⟨m, i, cs, h1, h2, r⟩ := h
  exact ⟨m, i, cs, s _ _ h1 (fun _ z => nomatch z), s _ _ h2 (fun _ z => nomatch z), r⟩
theorem seq_if {c : TT} {A u : TS} {D : Ends} {σ : L2.St} {H : Hp} (C : L2.St → Hp → Prop) (h1 : ∀ D' : Ends, (∀ σ H, C σ H → D'.nx σ H) → tIfS c A tNext D' σ H) (h2 : ∀ σ H, C σ H → u D σ H) : tSeq (tIfS c A tNext) u D σ H := h1 _ h2
theorem g_if {i : Nat} {v : V} {c : TT} {A u : TS} {D : Ends} {σ : L2.St} {H : Hp} (C : L2.St → Hp → Prop) (h1 : ∀ D' : Ends, (∀ σ H, C σ H → D'.nx σ H) → tIfS c A tNext D' (σ.set i (some v)) H) (h2 : ∀ σ H, C σ H → u D σ H) : gName i v σ H (tSeq (tIfS c A tNext) u D) := h1 _ h2
theorem catA_of {x y : Addr} {xs ys : List V} {H : Hp} {Q : VK} (hx : H x = some (.tup xs)) (hy : H y = some (.tup ys)) (hz : xs.length + ys.length ≤ sizeLine) (k : ∀ z H', Same H H' → H' z = some (.tup (xs ++ ys)) → Q (.ref z) H') : rCatA K (.ref x) (.ref y) H Q :=
  ⟨x, y, xs, ys, rfl, rfl, SqT.of hx, SqT.of hy, hz, fun e => k y H (Same.refl _) (by rw [e]; exact hy), fun _ e => k x H (Same.refl _) (by rw [e, List.append_nil]; exact hx), fun _ _ p hp => k p _ (same_upd hp) upd_same⟩
theorem slA_of {x : Addr} {xs : List V} {lo hi : Option Int} {H : Hp} {Q : VK} (hx : H x = some (.tup xs)) (k : ∀ z H', Same H H' → H' z = some (.tup (cutV xs lo hi)) → Q (.ref z) H') : rSlA K (.ref x) lo hi H Q :=
  ⟨x, xs, rfl, SqT.of hx, fun ⟨e1, e2⟩ => k x H (Same.refl _) (by
    have e : cutV xs lo hi = xs := by
      unfold cutV
      rw [e1, e2, List.drop_zero, Nat.sub_zero, List.take_length]
    rw [e]; exact hx), fun _ p hp => k p _ (same_upd hp) upd_same⟩
theorem cut_pre' {cs : List Int} {i : Nat} (h : i ≤ cs.length) : cutV (cs.map V.int) none (some (i : Int)) = (cs.take i).map V.int := by
  unfold cutV
  rw [HT.sIx_none, HT.sIx_nat, List.length_map, Nat.min_eq_left h, List.drop_zero, Nat.sub_zero, List.map_take]
theorem cut_post' {cs : List Int} {i : Nat} (h : i ≤ cs.length) : cutV (cs.map V.int) (some (i : Int)) none = (cs.drop i).map V.int := by
  unfold cutV
  rw [HT.sIx_none, HT.sIx_nat, List.length_map, Nat.min_eq_left h, List.map_drop, List.take_of_length_le]
  rw [List.length_drop, List.length_map]
  exact Nat.le_refl _
theorem pick5 {r : Int} (h0 : 0 ≤ r) (h1 : r < 5) : ∃ e : Int, atI [V.int (-101), V.int 101, V.int (-100), V.int 100, V.int (10 ^ (20 : Int).toNat)] r = some (.int e) := by
  have h : r = 0 ∨ r = 1 ∨ r = 2 ∨ r = 3 ∨ r = 4 := by omega
  rcases h with rfl | rfl | rfl | rfl | rfl
  · exact ⟨_, rfl⟩
  · exact ⟨_, rfl⟩
  · exact ⟨_, rfl⟩
  · exact ⟨_, rfl⟩
  · exact ⟨_, rfl⟩
theorem keep_tup {H H' : Hp} {x y b : Addr} {xs : List V} (lh : LH H x y) (k : Keep x y H H') (h : H b = some (.tup xs)) : H' b = some (.tup xs) := by
  obtain ⟨m, i, cs, h1, h2, _⟩ := lh
  exact k b _ (fun z => by rw [z, h1] at h; cases h) (fun z => by rw [z, h2] at h; cases h) h
def okB (ds : List Int) (j : Nat) : Bool := decide (-100 ≤ ds.getD j 0) && decide (ds.getD j 0 ≤ 100)
/-- the places of changes that can't be, among the first so many -/
def badTo (ds : List Int) (n : Nat) : List Nat := (List.range n).filter fun i => !okB ds i
theorem badTo_yes {ds : List Int} {j : Nat} (h : okB ds j = true) : badTo ds (j + 1) = badTo ds j := by
  unfold badTo
  rw [List.range_succ, List.filter_append, List.filter_cons, h]
  exact List.append_nil _
theorem badTo_no {ds : List Int} {j : Nat} (h : okB ds j = false) : badTo ds (j + 1) = badTo ds j ++ [j] := by
  unfold badTo
  rw [List.range_succ, List.filter_append, List.filter_cons, h]
  rfl
theorem okB_iff {ds : List Int} {j : Nat} {c : Int} (h : ds[j]? = some c) : okB ds j = true ↔ -100 ≤ c ∧ c ≤ 100 := by
  have e : ds.getD j 0 = c := by simp [List.getD, h]
  unfold okB
  rw [e, Bool.and_eq_true, decide_eq_true_eq, decide_eq_true_eq]
/-- none is bad -/
theorem bad_nil {ds : List Int} (d1 : 1 ≤ ds.length) (d6 : ds.length ≤ 6) (h : badTo ds ds.length = []) : CH ds := by
  refine ⟨d1, by omega, fun c hc => ?_⟩
  obtain ⟨i, hi⟩ := List.mem_iff_getElem?.mp hc
  have il := (List.getElem?_eq_some_iff.mp hi).1
  refine (okB_iff hi).mp ?_
  cases q : okB ds i with
  | true => rfl
  | false =>
    have m : i ∈ badTo ds ds.length := List.mem_filter.mpr ⟨List.mem_range.mpr il, by rw [q]; rfl⟩
    rw [h] at m; cases m
theorem bad_nil' {ds : List Int} (c : CH ds) : badTo ds ds.length = [] := by
  refine List.filter_eq_nil_iff.mpr fun i hi => ?_
  have il := List.mem_range.mp hi
  rw [(okB_iff (List.getElem?_eq_getElem il)).mpr (c.2.2 _ (List.getElem_mem il))]
  decide
/-- the first bad one stands first -/
theorem bad_first {ds : List Int} {i : Nat} (d1 : 1 ≤ ds.length) (d6 : ds.length ≤ 6) (h : BadAt ds i) : ∃ r, badTo ds ds.length = i :: r := by
  rcases h with ⟨rfl, _⟩ | ⟨c, hc, bad, first⟩
  · simp at d1
  have il := (List.getElem?_eq_some_iff.mp hc).1
  have hb : okB ds i = false := by
    cases q : okB ds i with
    | false => rfl
    | true =>
      have := (okB_iff hc).mp q
      exact absurd ⟨by omega, this.1, this.2⟩ bad
  have pre : ∀ n, n ≤ i → badTo ds n = [] := by
    intro n hn
    refine List.filter_eq_nil_iff.mpr fun j hj => ?_
    have jl := List.mem_range.mp hj
    have jd : j < ds.length := by omega
    rw [(okB_iff (List.getElem?_eq_getElem jd)).mpr (first j _ (by omega) (List.getElem?_eq_getElem jd)).2]
    decide
  have go : ∀ n, ∃ r, badTo ds (i + 1 + n) = i :: r := by
    intro n
    induction n with
    | zero => exact ⟨[], by rw [Nat.add_zero, badTo_no hb, pre i (Nat.le_refl _)]; rfl⟩
    | succ n ih =>
      obtain ⟨r, e⟩ := ih
      cases q : okB ds (i + 1 + n) with
      | true => exact ⟨r, by rw [← Nat.add_assoc, badTo_yes q, e]⟩
      | false => exact ⟨r ++ [i + 1 + n], by rw [← Nat.add_assoc, badTo_no q, e]; rfl⟩
  obtain ⟨r, e⟩ := go (ds.length - (i + 1))
  exact ⟨r, by rw [← e]; congr 1; omega⟩
theorem te_of {er : Er} {tl : XK → Hp → VK → Prop} {H : Hp} {Q : VK} (Cd : V → Hp → Prop) (h1 : ∀ Q7 : VK, (∀ v H, Cd v H → Q7 v H) → TTe er tl H Q7) (h2 : ∀ v H, Cd v H → Q v H) : TTe er tl H Q := h1 Q h2
theorem dp_nats {K : PySem.W.Frag} {H : Hp} : ∀ ns : List Nat, DpAll K H (ns.map fun (t : Nat) => V.int t) (ns.map fun (t : Nat) => PyData.int t)
  | [] => .nil
  | n :: r => .cons (.int n) (dp_nats r)
theorem lay_ints : ∀ ns : List Int, PyData.canLayAll0 (ns.map PyData.int) = true
  | [] => rfl
  | n :: r => by
    rw [List.map_cons, PyData.canLayAll0, lay_ints r]
    rfl
theorem dep_ints : ∀ ns : List Int, PyData.depthAll (ns.map PyData.int) = 0
  | [] => by simp [PyData.depthAll]
  | n :: r => by
    have e : PyData.depthAll ((n :: r).map PyData.int) = max (PyData.depth (.int n)) (PyData.depthAll (r.map PyData.int)) := rfl
    rw [e, dep_ints r]
    simp [PyData.depth]
theorem sh_ints (ns : List Int) : SeqAt.shaped (.list (ns.map PyData.int)) = true := by
  unfold SeqAt.shaped
  rw [Bool.and_eq_true]
  refine ⟨lay_ints ns, decide_eq_true ?_⟩
  show PyData.depthAll (ns.map PyData.int) + 1 ≤ 64
  rw [dep_ints]; omega
theorem sh_nats (ns : List Nat) : SeqAt.shaped (.list (ns.map fun (t : Nat) => PyData.int t)) = true := by
  have h := sh_ints (ns.map fun (t : Nat) => (t : Int))
  rw [List.map_map] at h
  exact h
theorem sh_none : SeqAt.shaped (.tuple [.str "none"]) = true := by decide +kernel
theorem sh_weather (i : Int) : SeqAt.shaped (.tuple [.str "weather", .int i]) = true := by
  have h : SeqAt.shaped (.tuple [.str "weather", .int 0]) = true := by decide +kernel
  unfold SeqAt.shaped at h ⊢
  rw [Bool.and_eq_true] at h ⊢
  refine ⟨?_, decide_eq_true ?_⟩
  · have h1 := h.1
    simp only [PyData.canLay0, PyData.canLayAll0] at h1 ⊢
    exact h1
  · have h2 := of_decide_eq_true h.2
    simp only [PyData.depth, PyData.depthAll] at h2 ⊢
    exact h2
theorem bad_one {c : Int} {i : Nat} (h : BadAt [c] i) : i = 0 ∧ ¬ (-100 ≤ c ∧ c ≤ 100) := by
  rcases h with ⟨e, _⟩ | ⟨c', hc, bad, _⟩
  · cases e
  · have il := (List.getElem?_eq_some_iff.mp hc).1
    have i0 : i = 0 := by
      have : i < 1 := il
      omega
    subst i0
    cases hc
    exact ⟨rfl, fun q => bad ⟨by decide, q.1, q.2⟩⟩
theorem neD_same {p q : Addr} {ys : List V} {dy : List PyData} {H : Hp} {G : VK} (hp : H p = some (.tup ys)) (hq : H q = none) (dp : ∀ H' : Hp, DpAll K H' ys dy) (sh : SeqAt.shaped (.tuple dy) = true) (e : PyData.eqv (.tuple dy) (.tuple dy) = true) (g : G (.bl false) (upd H q (.tup ys))) : rNeD K (.ref p) (.ref q) (upd H q (.tup ys)) G := by
  refine ⟨.tuple dy, .tuple dy, .tup (SqT.of (same_upd hq _ _ hp)) (dp _), .tup (SqT.of upd_same) (dp _), sh, sh, ?_⟩
  rw [e]; exact g
theorem bad_empty {i : Nat} {p : Addr} {H : Hp} (h : BadAt [] i) (hp : H p = some (.tup [.str "weather", .int (i : Int)])) : H p = some (.tup [.str "weather", .int 0]) := by
  rcases h with ⟨_, e⟩ | ⟨_, e, _⟩
  · rw [e] at hp; exact hp
  · cases e
theorem noBad {cs : List Int} {i : Nat} (c : CH cs) (h : BadAt cs i) : False := by
  rcases h with ⟨rfl, _⟩ | ⟨d, hd, bad, _⟩
  · exact absurd c.1 (by decide)
  · have il := (List.getElem?_eq_some_iff.mp hd).1
    have := c.2.2 d (List.mem_of_getElem? hd)
    have := c.2.1
    exact bad ⟨by omega, by omega, by omega⟩
theorem ch_one : CH [1, 2, 3, 4, 5] := by unfold CH; decide
theorem ch_two : CH [7, 8, 9, 10] := by unfold CH; decide
theorem ch_sum : CH (addR [1, 2, 3, 4, 5] [7, 8, 9, 10]) := by unfold CH; decide +kernel
theorem ch_three : CH [1, 2, 3] := by unfold CH; decide
theorem bad_uniq {cs : List Int} {i j : Nat} (h1 : BadAt cs i) (h2 : BadAt cs j) : i = j := by
  rcases h1 with ⟨rfl, rfl⟩ | ⟨c, hc, bc, fc⟩
  · rcases h2 with ⟨_, e⟩ | ⟨d, hd, _⟩
    · exact e.symm
    · cases hd
  · rcases h2 with ⟨rfl, _⟩ | ⟨d, hd, bd, fd⟩
    · cases hc
    · by_cases q : i < j
      · exact absurd (fd i c q hc) bc
      · by_cases q2 : j < i
        · exact absurd (fc j d q2 hd) bd
        · omega
theorem bad_sum : BadAt (addR (addR [1, 2, 3, 4, 5] [7, 8, 9, 10]) [1, 2, 3]) 24 := by
  have g : ∀ j : _root_.Fin 24, GoodAt j.val ((addR (addR [1, 2, 3, 4, 5] [7, 8, 9, 10]) [1, 2, 3]).getD j.val 0) := by
    unfold GoodAt; decide +kernel
  refine .inr ⟨(addR (addR [1, 2, 3, 4, 5] [7, 8, 9, 10]) [1, 2, 3]).getD 24 0, by decide +kernel, fun q => absurd q.1 (by decide), fun j d hj hd => ?_⟩
  have e := g ⟨j, hj⟩
  have ed : (addR (addR [1, 2, 3, 4, 5] [7, 8, 9, 10]) [1, 2, 3]).getD j 0 = d := by simp only [List.getD, hd]; rfl
  rw [← ed]; exact e
theorem drop_len (cs : List Int) (j : Nat) : (cs.map V.int).drop j = (cs.drop j).map V.int := by rw [List.map_drop]
def lamT (Pt : Addr) : List (Addr × Str) := [(Pt, (("law" : Str) ++ ".<locals>.") ++ "<lambda>")]
def spLawE (K : PySem.W.Frag) (Pt : Addr) : Sp := fun vs H Q _ => ∃ (c : Addr) (ns : List Int), vs = [.ref c] ∧ SqL K H c (ns.map V.int) ∧ ns.length ≤ 63 ∧ Tabs (lamT Pt) H ∧ ∀ H', Q (.bl true) H'
theorem ok_law {cl Pt : Addr} (T : Txt K mg a) (ER : ErT P K mg er) (WT : WTxt K a) (hc : a.d_law.code = .ref cl) (TB : TabB base mg cl Pt) : FnOk P w K mg base CX0 12 a.f_law a.d_law ["_law_script"] (spLawE K Pt) := by
  have G__law_mix : FnOk P w K mg base CX0 1 a.f__law_mix a.d__law_mix ["_law_script", "_law_seed"] (spMix K) := ok__law_mix T
  have G__law_next : FnOk P w K mg base CX0 1 a.f__law_next a.d__law_next ["_law_h", "_law_limit"] spNext := ok__law_next T
  have G__law_changes : FnOk P w K mg base CX0 2 a.f__law_changes a.d__law_changes ["_law_h", "_law_most"] spChanges := ok__law_changes T
  have G__law_alike : FnOk P w K mg base CX0 2 a.f__law_alike a.d__law_alike ["_law_found", "_law_due"] (spAk (AS R0)) := alikeS1 T
  have G__law_weather := okx__law_weather (P := P) (w := w) (base := base) T ER
  have G_Weather_constant := okx_Weather_constant (P := P) (w := w) (base := base) T ER
  have G_Weather_init := okx_Weather_init (P := P) (w := w) (base := base) T ER
  have G_Weather_add := okx_Weather_add (P := P) (w := w) (base := base) T ER
  have G_Weather_len : FnOk P w K mg base CX0 1 a.f_Weather_len a.d_Weather_len ["self"] (spLen a) := ok_Weather_len T
  have G_Weather_changes : FnOk P w K mg base CX0 1 a.f_Weather_changes a.d_Weather_changes ["self"] (getSp a.c_Weather "_changes") := ok_Weather_changes T
  refine okC T.F_law hc sc_law (fun vs H Q E h => ?_) (fun A outer s H vs Q E hr h => ?_)
  · obtain ⟨c, ns, rfl, _⟩ := h
    rfl
  · obtain ⟨c, ns, rfl, hS, hl, hT, k⟩ := h
    refine ⟨_, (pss_cons (ps_set (i := 1) sc_law.nd rfl (Or.inl rfl) (pe_call G__law_mix (hr.mono (by decide)) (by rfl) T.mg__law_mix T.F__law_mix.kp (b__law_mix T) .nil pass0 (pa_cons (pv 0) (pa_cons pe_int pa_nil))))
      (pss_cons (ps_for PassesOwn.never rfl (pi_range1 (by rfl) T.z_range (pa_cons pe_int pa_nil)) (pg_name (i := 2) sc_law.nd rfl (Or.inl rfl))
        (pss_cons (ps_set (i := 3) sc_law.nd rfl (Or.inr rfl) (pe_call G__law_changes (hr.mono (by decide)) (by rfl) T.mg__law_changes T.F__law_changes.kp (b__law_changes T) .nil pass0 (pa_cons (pv 1) (pa_cons pe_int pa_nil))))
      (pss_cons (ps_if (pt_cmpR op_eq (pe_call G__law_next (hr.mono (by decide)) (by rfl) T.mg__law_next T.F__law_next.kp (b__law_next T) .nil pass0 (pa_cons (pv 1) (pa_cons pe_int pa_nil))) pe_int (nomark _)) (pss_cons (ps_set (i := 4) sc_law.nd rfl (Or.inl rfl) (pe_call G__law_next (hr.mono (by decide)) (by rfl) T.mg__law_next T.F__law_next.kp (b__law_next T) .nil pass0 (pa_cons (pv 1) (pa_cons (pe_callB call_len_seq (by rfl) T.z_len PySem.boot_len (pa_cons (pv 3) pa_nil)) pa_nil))))
      (pss_one (ps_set (i := 3) sc_law.nd rfl (Or.inr rfl) (pe_op op_catA (pe_op op_catA (pe_slice sl_tupA (pv 3) po_none (po_some (pv 4))) (pe_tup (pa_cons (pe_ix ix_list (pe_lst (pa_cons (pe_un un_neg pe_int) (pa_cons pe_int (pa_cons (pe_un un_neg pe_int) (pa_cons pe_int (pa_cons (pe_op op_pow pe_int pe_int) pa_nil)))))) (pe_call G__law_next (hr.mono (by decide)) (by rfl) T.mg__law_next T.F__law_next.kp (b__law_next T) .nil pass0 (pa_cons (pv 1) (pa_cons pe_int pa_nil))) (fun _ _ => rfl)) pa_nil))) (pe_slice sl_tupA (pv 3) (po_some (pe_op op_add (pv 4) pe_int)) po_none))))) pss_nil)
      (pss_cons (ps_asg (pe_tup (pa_cons (pe_lc (own := [("_law_k", 4)]) (g := gName 4) rfl sc_law.nd (pi_range1 (by rfl) T.z_range (pa_cons (pe_callB call_len_seq (by rfl) T.z_len PySem.boot_len (pa_cons (pv 3) pa_nil)) pa_nil)) (blkOk_by (own := [("_law_k", 4)]) (N := ["_law_script", "_law_h", "_law_turn", "_law_changes_here", "_law_k", "_law_bad", "_law_results", "_law_error_here", "_law_one", "_law_many"]) (sc := (defScope s_law)) (by decide +kernel)) (fun _ _ _ _ _ => pg_name (i := 4) sc_law.nd rfl (Or.inl rfl)) (fun _ _ _ _ _ => pts_one (pt_not (pt_chain op_le op_le (pe_un un_neg pe_int) (pe_ix (show IxR _ (rIxT K) from ix_tup) (pv 3) (pv 4) (fun _ _ => rfl)) pe_int))) (fun _ _ _ _ _ => (pv 4))) (pa_cons (pe_lst pa_nil) pa_nil))) (pg_tup rfl (pgs_cons (pg_name (i := 5) sc_law.nd rfl (Or.inl rfl)) (pgs_cons (pg_name (i := 6) sc_law.nd rfl (Or.inr rfl)) pgs_nil))))
      (pss_cons (ps_set (i := 7) sc_law.nd rfl (Or.inl rfl) (pe_err (k := 8) (P_ := Pt) (t := fun E => tBM K "list" rAppend (tVar 6) (tCons (tCall (spWeatherX a er) [] E (tCons (tVar 3) tNil)) tNil)) T ER (by rfl) (TB) rfl (List.mem_singleton.mpr rfl) (fun p hp _ => by rw [List.mem_singleton.mp hp]) (hr.mono (by decide)) (by decide) (lamS_by (sc := defScope s_law) (by decide +kernel)) rfl (fun _ _ _ _ _ => rfl) (fun A outer sB HB E f c' hr => pe_bm PySem.F.plainAttrs_list PySem.F.slot_list_append PySem.F.type_list_append mt_append (pv 6) (pa_cons (pe_call G__law_weather (hr.mono (by decide)) (by rfl) T.mg__law_weather T.F__law_weather.kp (b__law_weather T) .nil (passes_call (takes_of rfl rfl rfl rfl) (fun _ _ _ _ h => h)) (pa_cons (pv 3) pa_nil)) pa_nil))))
      (pss_cons (ps_if (pt_cmpR (op_neD hr.units) (pv 7) (pe_ifExp (pt_cmpR (op_eqD hr.units) (pv 5) (pe_lst pa_nil) (nomark _)) (pe_tup (pa_cons pe_str pa_nil)) (pe_tup (pa_cons pe_str (pa_cons (pe_ix ix_list (pv 5) pe_int (fun _ _ => rfl)) pa_nil)))) (nomark _)) (pss_one (ps_ret pe_bl)) pss_nil)
      (pss_cons (ps_if (PW.pt (pw_and (pt_cmpR (op_eqD hr.units) (pv 5) (pe_lst pa_nil) (nomark _)) (pw_and1 (pt_not (pt_val (pe_call G__law_alike (hr.mono (by decide)) (by rfl) T.mg__law_alike T.F__law_alike.kp (b__law_alike T) .nil pass0 (pa_cons (pe_prop (pe_ix ix_list (pv 6) pe_int (fun _ _ => rfl)) T.cl_Weather T.pr_Weather_changes G_Weather_changes (hr.mono (by decide)) (b_Weather_changes T) .nil pass0 rfl) (pa_cons (pv 3) pa_nil)))))))) (pss_one (ps_ret pe_bl)) pss_nil)
      (pss_cons (ps_set (i := 8) sc_law.nd rfl (Or.inr rfl) (pe_op op_sub (pe_call G__law_next (hr.mono (by decide)) (by rfl) T.mg__law_next T.F__law_next.kp (b__law_next T) .nil pass0 (pa_cons (pv 1) (pa_cons pe_int pa_nil))) pe_int))
      (pss_cons (ps_set (i := 7) sc_law.nd rfl (Or.inl rfl) (pe_err (k := 8) (P_ := Pt) (t := fun E => ClX.tCMeth a.c_Weather (spConst a er) E (tC (.ref a.c_Weather)) (tCons (tVar 8) tNil)) T ER (by rfl) (TB) rfl (List.mem_singleton.mpr rfl) (fun p hp _ => by rw [List.mem_singleton.mp hp]) (hr.mono (by decide)) (by decide) (lamS_by (sc := defScope s_law) (by decide +kernel)) rfl (fun _ _ _ _ _ => rfl) (fun A outer sB HB E f c' hr => ClX.pe_cmeth (pe_glob (v := .ref a.c_Weather) (by rfl) T.mg_Weather rfl) WT.cr T.cm_Weather_constant (toR G_Weather_constant (b_Weather_constant T)) (hr.mono (by decide)) (passes_call (takes_of rfl rfl rfl rfl) (fun _ _ _ _ h => h)) (pa_cons (pv 8) pa_nil))))
      (pss_one (ps_if (pt_cmpR (op_neD hr.units) (pv 7) (pe_ifExp (pt_chain op_le op_le (pe_un un_neg pe_int) (pv 8) pe_int) (pe_tup (pa_cons pe_str pa_nil)) (pe_tup (pa_cons pe_str (pa_cons pe_int pa_nil)))) (nomark _)) (pss_one (ps_ret pe_bl)) pss_nil)))))))))))
      (pss_cons (ps_if (PW.pt (pw_or (pt_cmpR (op_neD hr.units) (pe_err (k := 8) (P_ := Pt) (t := fun E => tMakeR a.c_Weather (spWsX a er) E tNil) T ER (by rfl) (TB) rfl (List.mem_singleton.mpr rfl) (fun p hp _ => by rw [List.mem_singleton.mp hp]) (hr.mono (by decide)) (by decide) (lamS_by (sc := defScope s_law) (by decide +kernel)) rfl (fun _ _ _ _ _ => rfl) (fun A outer sB HB E f c' hr => pe_makeR0 T.mk_Weather G_Weather_init (hr.mono (by decide)) (by rfl) T.mg_Weather (passes_call (takes_of rfl rfl rfl rfl) (fun _ _ _ _ h => h)))) (pe_tup (pa_cons pe_str (pa_cons pe_int pa_nil))) (nomark _)) (pw_or1 (pt_cmpR (op_neD hr.units) (pe_prop (ClX.pe_cmeth (E := fun _ _ _ => False) (pe_glob (v := .ref a.c_Weather) (by rfl) T.mg_Weather rfl) WT.cr T.cm_Weather_constant (toR G_Weather_constant (b_Weather_constant T)) (hr.mono (by decide)) (passNo rfl rfl) (pa_cons pe_int pa_nil)) T.cl_Weather T.pr_Weather_changes G_Weather_changes (hr.mono (by decide)) (b_Weather_changes T) .nil pass0 rfl) (pe_tup (pa_cons pe_int pa_nil)) (nomark _))))) (pss_one (ps_ret pe_bl)) pss_nil)
      (pss_cons (ps_set (i := 9) sc_law.nd rfl (Or.inr rfl) (pe_op (op_ownAdd (E := fun _ _ _ => False) WT.hm T.me_Weather_add G_Weather_add (b_Weather_add T) (hr.mono (by decide)) (passNo rfl rfl)) (pe_call (E := fun _ _ _ => False) G__law_weather (hr.mono (by decide)) (by rfl) T.mg__law_weather T.F__law_weather.kp (b__law_weather T) .nil (passNo rfl rfl) (pa_cons (pe_tup (pa_cons pe_int (pa_cons pe_int (pa_cons pe_int (pa_cons pe_int (pa_cons pe_int pa_nil)))))) pa_nil)) (pe_call (E := fun _ _ _ => False) G__law_weather (hr.mono (by decide)) (by rfl) T.mg__law_weather T.F__law_weather.kp (b__law_weather T) .nil (passNo rfl rfl) (pa_cons (pe_tup (pa_cons pe_int (pa_cons pe_int (pa_cons pe_int (pa_cons pe_int pa_nil))))) pa_nil))))
      (pss_cons (ps_if (PW.pt (pw_or (pt_cmpR op_ne (pe_callB (call_lenOwn T.me_Weather_len G_Weather_len (b_Weather_len T) (hr.mono (by decide)) pass0) (by rfl) T.z_len PySem.boot_len (pa_cons (pv 9) pa_nil)) pe_int (nomark _)) (pw_or1 (pt_cmpR (op_neD hr.units) (pe_err (k := 8) (P_ := Pt) (t := fun E => tOp (rOwnB a.c_Weather (spAddX a er) E) (tVar 9) (tCall (spWeatherX a er) [] E (tCons (tTup (tCons (tC (.int 1)) (tCons (tC (.int 2)) (tCons (tC (.int 3)) tNil)))) tNil))) T ER (by rfl) (TB) rfl (List.mem_singleton.mpr rfl) (fun p hp _ => by rw [List.mem_singleton.mp hp]) (hr.mono (by decide)) (by decide) (lamS_by (sc := defScope s_law) (by decide +kernel)) rfl (fun _ _ _ _ _ => rfl) (fun A outer sB HB E f c' hr => pe_op (op_ownAdd WT.hm T.me_Weather_add G_Weather_add (b_Weather_add T) (hr.mono (by decide)) (passes_call (takes_of rfl rfl rfl rfl) (fun _ _ _ _ h => h))) (pv 9) (pe_call G__law_weather (hr.mono (by decide)) (by rfl) T.mg__law_weather T.F__law_weather.kp (b__law_weather T) .nil (passes_call (takes_of rfl rfl rfl rfl) (fun _ _ _ _ h => h)) (pa_cons (pe_tup (pa_cons pe_int (pa_cons pe_int (pa_cons pe_int pa_nil)))) pa_nil)))) (pe_tup (pa_cons pe_str (pa_cons pe_int pa_nil))) (nomark _))))) (pss_one (ps_ret pe_bl)) pss_nil)
      (pss_one (ps_ret (pe_cmpR (op_eqD hr.units) (pe_lst (pa_cons (ClX.pe_cval (pe_glob (v := .ref a.c_Weather) (by rfl) T.mg_Weather rfl) rfl) (pa_cons (ClX.pe_cval (pe_glob (v := .ref a.c_Weather) (by rfl) T.mg_Weather rfl) rfl) pa_nil))) (pe_lst (pa_cons pe_int (pa_cons pe_int pa_nil))) (nomark _))))))))), ?_⟩
    refine ⟨_, rfl, c, ns, 1, rfl, hS, by decide, by decide, hl, fun x y H1 lh1 s1 nx ny => ?_⟩
    refine ⟨5, rfl, by decide, by decide, ?_⟩
    have tb1 : Tabs (lamT Pt) H1 := hT.ext s1
    refine for_range (lo := 0) (n := 5) (fun i σ H' => ∃ vs : List (Option V), σ = some (.ref c) :: some (.ref x) :: vs ∧ vs.length = 8 ∧ LH H' x y ∧ Tabs (lamT Pt) H') ⟨[none, none, none, none, none, none, none, none], rfl, rfl, lh1, tb1⟩ ?_ ?_
    · rintro i σ H2 hi ⟨vs, rfl, lvs, lh2, tb2⟩
      match vs, lvs with
      | [v2, v3, v4, v5, v6, v7, v8, v9], _ =>
      refine ⟨_, rfl, x, y, 6, rfl, lh2, by decide, by decide, fun tc cs H3 ch le htc ntc lh3 k3 => ?_⟩
      have tb3 := tabs_keep lh2 k3 tb2
      show gName 3 (.ref tc) [some (.ref c), some (.ref x), some (.int (0 + (i : Int))), v3, v4, v5, v6, v7, v8, v9] H3 _
      dsimp only
      refine g_if (C := fun σ H' => ∃ (t : Addr) (u4 : Option V) (ds : List Int), σ = [some (.ref c), some (.ref x), some (.int (0 + (i : Int))), some (.ref t), u4, v5, v6, v7, v8, v9] ∧ LH H' x y ∧ Tabs (lamT Pt) H' ∧ H' t = some (.tup (ds.map V.int)) ∧ 1 ≤ ds.length ∧ ds.length ≤ 6) (fun D' hD' => ?_) ?_
      · refine ⟨_, rfl, x, y, 2, rfl, lh3, by decide, by decide, fun r H4 r0 r1 lh4 k4 => ⟨rfl, _, rfl, ?_⟩⟩
        have tb4 := tabs_keep lh3 k4 tb3
        have otc := lh2.off ntc
        have htc4 := k4 _ _ otc.1 otc.2 htc
        by_cases rz : r = 0
        · refine ifT (dT (by rw [rz])) ?_
          have n1 : (cs.map V.int).length = cs.length := List.length_map _
          refine ⟨_, rfl, _, rfl, tc, _, rfl, .inr (SqT.of htc4), x, y, _, rfl, lh4, by rw [n1]; have := ch.1; omega, by rw [n1]; have := ch.2.1; omega, fun r5 H5 r50 r51 lh5 k5 => ?_⟩
          have tb5 := tabs_keep lh4 k5 tb4
          have htc5 := k5 _ _ otc.1 otc.2 htc4
          obtain ⟨j, rfl⟩ : ∃ j : Nat, r5 = (j : Int) := ⟨r5.toNat, by omega⟩
          rw [n1] at r51
          have jl : j < cs.length := by omega
          refine ⟨_, rfl, _, rfl, _, rfl, slA_of htc5 fun t1 H6 s6 ht1 => ?_⟩
          rw [cut_pre' (Nat.le_of_lt jl)] at ht1
          have lh6 := lh5.same s6
          have tb6 := tb5.ext s6
          refine ⟨101, rfl, 100, rfl, 10, 20, rfl, rfl, ⟨by decide, by decide, by decide⟩, by show 5 ≤ sizeLine; decide, fun li hli => ?_⟩
          have s7 := same_upd (o := .lst [.int (-101), .int 101, .int (-100), .int 100, .int (10 ^ (20 : Int).toNat)]) hli
          refine ⟨_, rfl, x, y, 5, rfl, lh6.same s7, by decide, by decide, fun r7 H7 r70 r71 lh7 k7 => ?_⟩
          have tb7 := tabs_keep (lh6.same s7) k7 (tb6.ext s7)
          have oli := lh6.off hli
          have hli7 : H7 li = some (.lst [.int (-101), .int 101, .int (-100), .int 100, .int (10 ^ (20 : Int).toNat)]) := k7 _ _ oli.1 oli.2 upd_same
          obtain ⟨e, he⟩ := pick5 r70 r71
          refine ⟨li, _, _, _, rfl, rfl, SqL.of hli7, he, by show 1 ≤ sizeLine; decide, fun ti hti => ?_⟩
          have ht7 := keep_tup (lh6.same s7) k7 (s7 _ _ ht1)
          have htc7 := keep_tup (lh6.same s7) k7 (s7 _ _ (s6 _ _ htc5))
          have si := same_upd (o := .tup [.int e]) hti
          refine catA_of (si _ _ ht7) upd_same (by rw [List.length_map, List.length_take]; show _ + 1 ≤ 16777216; omega) fun t2 H8 s8 ht2 => ?_
          refine ⟨_, rfl, _, rfl, _, _, rfl, rfl, _, rfl, ?_⟩
          unfold tNoPart
          show rSlA K (.ref tc) (some ((j : Int) + 1)) none H8 _
          refine slA_of (s8 _ _ (si _ _ htc7)) fun t3 H9 s9 ht3 => ?_
          have ec := cut_post' (cs := cs) (i := j + 1) (by omega)
          rw [show (((j + 1 : Nat)) : Int) = (j : Int) + 1 from rfl] at ec
          rw [ec] at ht3
          have len : ((cs.take j).map V.int ++ [V.int e]).length + ((cs.drop (j + 1)).map V.int).length = cs.length := by
            rw [List.length_append, List.length_map, List.length_map, List.length_take, List.length_drop, Nat.min_eq_left (Nat.le_of_lt jl)]
            show j + 1 + (cs.length - (j + 1)) = cs.length
            omega
          refine catA_of (s9 _ _ ht2) ht3 (by rw [len]; show cs.length ≤ 16777216; omega) fun t4 H10 s10 ht4 => ?_
          have sm : Same H7 H10 := ((si.trans s8).trans s9).trans s10
          refine hD' _ _ ⟨t4, some (.int (j : Int)), cs.take j ++ [e] ++ cs.drop (j + 1), rfl, lh7.same sm, tb7.ext sm, by rw [ht4, List.map_append, List.map_append]; rfl, ?_, ?_⟩
          · rw [List.length_append, List.length_append]
            show 1 ≤ (cs.take j).length + 1 + (cs.drop (j + 1)).length
            omega
          · have len2 : (cs.take j ++ [e] ++ cs.drop (j + 1)).length = cs.length := by
              rw [← len, List.length_append, List.length_append, List.length_append, List.length_map, List.length_map]
              rfl
            rw [len2]; omega
        · refine ifF (dF (by intro z; injection z with z; exact rz z)) ?_
          exact hD' _ _ ⟨tc, v4, cs, rfl, lh4, tb4, htc4, ch.1, by omega⟩
      · rintro σ H4 ⟨t, u4, ds, rfl, lh4, tb4, ht, d1, d6⟩
        have n1 : (ds.map V.int).length = ds.length := List.length_map _
        refine ⟨_, rfl, t, _, rfl, .inr (SqT.of ht), _, rfl, by omega, by omega, fun D hD => lc_range (lo := 0) (n := (((ds.map V.int).length : Nat) : Int).toNat) (fun i H' => Same H4 H' ∧ H' D = some (.lst ((badTo ds i).map fun (t : Nat) => V.int t))) ⟨same_upd hD, upd_same⟩ ?_ ?_⟩
        · rintro j H5 hj ⟨s5, hd5⟩
          have jn : j < ds.length := by rw [← n1]; exact hj
          have ej : (0 : Int) + (j : Int) = ((j : Nat) : Int) := Int.zero_add _
          have hat : atI (ds.map V.int) (0 + (j : Int)) = some (V.int (ds.getD j 0)) := by
            rw [ej]
            refine at_int (Int.natCast_nonneg _) ?_
            show (ds.map V.int)[j]? = _
            rw [List.getElem?_map, List.getElem?_eq_getElem jn]
            simp [List.getD, List.getElem?_eq_getElem jn]
          have ht5 := s5 _ _ ht
          refine ⟨rfl, 100, rfl, _, rfl, _, rfl, t, _, _, _, rfl, rfl, SqT.of ht5, hat, _, _, rfl, rfl, _, rfl, ?_⟩
          have lb : (badTo ds j).length ≤ 6 := Nat.le_trans (List.length_filter_le _ _) (by rw [List.length_range]; omega)
          have yes : okB ds j = false → ∃ acc, H5 D = some (HO.lst acc) ∧ acc.length < sizeLine ∧ Same H4 (upd H5 D (.lst (acc ++ [V.int (0 + (j : Int))]))) ∧ upd H5 D (.lst (acc ++ [V.int (0 + (j : Int))])) D = some (.lst ((badTo ds (j + 1)).map fun (t : Nat) => V.int t)) := by
            intro hb
            refine ⟨_, hd5, by rw [List.length_map]; exact small1000 (by omega), lcStep' hD s5, ?_⟩
            rw [upd_same, badTo_no hb, List.map_append, Int.zero_add]
            rfl
          by_cases q1 : -100 ≤ ds.getD j 0
          · refine ifT (dT q1) ⟨_, _, rfl, rfl, _, rfl, ?_⟩
            by_cases q2 : ds.getD j 0 ≤ 100
            · refine ifF (nF q2) ?_
              have hb : okB ds j = true := by unfold okB; rw [dT q1, dT q2]; rfl
              exact ⟨s5, by rw [badTo_yes hb]; exact hd5⟩
            · refine ifT (nT q2) ⟨_, rfl, ?_⟩
              exact yes (by unfold okB; rw [dF q2, Bool.and_false])
          · refine ifF (dF q1) ⟨_, rfl, ?_⟩
            refine ifT rfl ⟨_, rfl, ?_⟩
            exact yes (by unfold okB; rw [dF q1]; rfl)
        · rintro H5 ⟨s5, hd5⟩
          have en : (((ds.map V.int).length : Nat) : Int).toNat = ds.length := by rw [n1]; rfl
          rw [en] at hd5
          refine ⟨Nat.zero_le _, fun l hl => ⟨by show 2 ≤ sizeLine; decide, fun tt htt => ⟨tt, _, rfl, SqT.of upd_same, rfl, _, _, rfl, _, _, rfl, rfl, ?_⟩⟩⟩
          have s6 : Same H5 (upd (upd H5 l (.lst [])) tt (.tup [.ref D, .ref l])) := (same_upd hl).trans (same_upd htt)
          have hl6 : upd (upd H5 l (.lst [])) tt (.tup [.ref D, .ref l]) l = some (.lst []) := same_upd htt _ _ upd_same
          have lh6 := lh4.same (s5.trans s6)
          have tb6 := tb4.ext (s5.trans s6)
          have ht6 := s6 _ _ (s5 _ _ ht)
          have hd6 := s6 _ _ hd5
          generalize upd (upd H5 l (.lst [])) tt (.tup [.ref D, .ref l]) = H6 at s6 hl6 lh6 tb6 ht6 hd6 ⊢
          refine ⟨tb6, fun H7 eN tb7 => ?_⟩
          have lh7 := lh6.ext eN
          have hl7 := eN _ _ hl6 (fun _ z => nomatch z)
          have ht7 := eN _ _ ht6 (fun _ z => nomatch z)
          have hd7 := eN _ _ hd6 (fun _ z => nomatch z)
          refine te_of (fun v H' => ∃ (p : Addr) (xs : List V), v = .ref p ∧ H' p = some (.tup xs) ∧ LH H' x y ∧ Tabs (lamT Pt) H' ∧ H' t = some (.tup (ds.map V.int)) ∧ H' D = some (.lst ((badTo ds ds.length).map fun (t : Nat) => V.int t)) ∧
            ((CH ds ∧ xs = [.str "none"] ∧ ∃ z, H' l = some (.lst [.ref z]) ∧ WAt a H' z ds) ∨ ∃ i : Nat, BadAt ds i ∧ xs = [.str "weather", .int i])) (fun Q7 hQ => ?_) ?_
          · refine ⟨_, rfl, .inl ⟨rfl, _, SqL.of hl7⟩, _, rfl, t, ds, rfl, ht7, d1, d6, fun ch z H8 s8 wt => ⟨l, _, _, rfl, rfl, s8 _ _ hl7, by show 0 < 16777216; decide, by show 1 ≤ sizeLine; decide, fun p hp => ?_⟩, fun i dd H8 hb s8 hdd => ⟨_, ⟨3, rfl, .inl ⟨rfl, dd, (i : Int), rfl, hdd, rfl⟩⟩, fun p H9 s9 hp => ?_⟩⟩
            · have lh5 := lh4.same s5
              have nx5 : x ≠ l := by obtain ⟨m, i, cs, h1, h2, _⟩ := lh5; exact ne_of_none h1 hl
              have ny5 : y ≠ l := by obtain ⟨m, i, cs, h1, h2, _⟩ := lh5; exact ne_of_none h2 hl
              have hl8 := s8 _ _ hl7
              have oth : ∀ {b : Addr} {o : HO}, H8 b = some o → (∀ xs, o ≠ .lst xs) → upd H8 l (.lst [.ref z]) b = some o := fun {b o} e n => by
                rw [upd_ne (fun q => by rw [q, hl8] at e; exact n _ (Option.some.inj e).symm)]; exact e
              have s9 := same_upd (o := .tup [V.str "none"]) hp
              have tb9 : Tabs (lamT Pt) (upd H8 l (.lst [.ref z])) := by
                intro q hq
                obtain ⟨ps, a1, a2, a3⟩ := tb7.ext s8 q hq
                refine ⟨ps, oth a1 (fun _ z => nomatch z), a2, fun pos cv hc => ?_⟩
                obtain ⟨c, e1, e2⟩ := a3 pos cv hc
                exact ⟨c, e1, oth e2 (fun _ z => nomatch z)⟩
              have lh9 : LH (upd H8 l (.lst [.ref z])) x y := by
                obtain ⟨m, i, cs, h1, h2, r⟩ := lh7.same s8
                exact ⟨m, i, cs, by rw [upd_ne nx5]; exact h1, by rw [upd_ne ny5]; exact h2, r⟩
              have wt9 : WAt a (upd H8 l (.lst [.ref z])) z ds := by
                obtain ⟨dx, tq, w1, w2⟩ := wt
                exact ⟨dx, tq, oth w1 (fun _ z => nomatch z), oth w2 (fun _ z => nomatch z)⟩
              have hd9 : upd H8 l (.lst [.ref z]) D = some (.lst ((badTo ds ds.length).map fun (t : Nat) => V.int t)) := by
                rw [upd_ne (ne_of_none hd5 hl)]; exact s8 _ _ hd7
              refine hQ _ _ ⟨p, _, rfl, upd_same, lh9.same s9, tb9.ext s9, s9 _ _ (oth (s8 _ _ ht7) (fun _ z => nomatch z)), s9 _ _ hd9, .inl ⟨ch, rfl, z, s9 _ _ upd_same, ?_⟩⟩
              obtain ⟨dx, tq, w1, w2⟩ := wt9
              exact ⟨dx, tq, s9 _ _ w1, s9 _ _ w2⟩
            · have s79 := s8.trans s9
              exact hQ _ _ ⟨p, _, rfl, hp, lh7.same s79, tb7.ext s79, s79 _ _ ht7, s79 _ _ hd7, .inr ⟨i, hb, rfl⟩⟩
          · rintro v H8 ⟨p, xs, rfl, hp, lh8, tb8, ht8, hd8, alt⟩
            dsimp only
            refine g_if (C := fun σ H' => σ = [some (.ref c), some (.ref x), some (.int (0 + (i : Int))), some (.ref t), u4, some (.ref D), some (.ref l), some (.ref p), v8, v9] ∧ LH H' x y ∧ Tabs (lamT Pt) H' ∧ H' t = some (.tup (ds.map V.int)) ∧ H' D = some (.lst ((badTo ds ds.length).map fun (t : Nat) => V.int t)) ∧
              ((CH ds ∧ ∃ z, H' l = some (.lst [.ref z]) ∧ WAt a H' z ds) ∨ ∃ i r, badTo ds ds.length = i :: r)) (fun D' hD' => ?_) ?_
            · rcases alt with ⟨ch, rfl, z, hl8, wt⟩ | ⟨i0, hb, rfl⟩
              · rw [bad_nil' ch] at hd8
                refine ⟨_, rfl, _, rfl, Nat.zero_le _, fun e he => ⟨.list [], .list [], .lst (SqL.of (same_upd he _ _ hd8)) .nil, .lst (SqL.of upd_same) .nil, rfl, rfl, _, rfl, ?_⟩⟩
                refine ifT rfl ⟨by show 1 ≤ sizeLine; decide, fun q hq => ⟨.tuple [.str "none"], .tuple [.str "none"], .tup (SqT.of (same_upd hq _ _ (same_upd he _ _ hp))) (.cons (.str _) .nil), .tup (SqT.of upd_same) (.cons (.str _) .nil), sh_none, sh_none, false, congrArg V.bl (by decide), ?_⟩⟩
                refine ifF rfl ?_
                have s9 := (same_upd (o := .lst []) he).trans (same_upd (o := .tup [V.str "none"]) hq)
                refine hD' _ _ ⟨rfl, lh8.same s9, tb8.ext s9, s9 _ _ ht8, by rw [bad_nil' ch]; exact s9 _ _ hd8, .inl ⟨ch, z, s9 _ _ hl8, ?_⟩⟩
                obtain ⟨dx, tq, w1, w2⟩ := wt
                exact ⟨dx, tq, s9 _ _ w1, s9 _ _ w2⟩
              · obtain ⟨r, er⟩ := bad_first d1 d6 hb
                rw [er] at hd8
                refine ⟨_, rfl, _, rfl, Nat.zero_le _, fun e he => ⟨.list ((i0 :: r).map fun (t : Nat) => PyData.int t), .list [], .lst (SqL.of (same_upd he _ _ hd8)) (dp_nats _), .lst (SqL.of upd_same) .nil, sh_nats _, rfl, _, rfl, ?_⟩⟩
                refine ifF (by simp [PyData.eqv, PyData.eqvAll]) ?_
                have hd9 := same_upd (o := .lst []) he _ _ hd8
                refine ⟨_, rfl, D, _, _, _, rfl, rfl, SqL.of hd9, at_int (z := 0) (Int.le_refl 0) rfl, by show 2 ≤ sizeLine; decide, fun q hq => ⟨.tuple [.str "weather", .int i0], .tuple [.str "weather", .int i0], .tup (SqT.of (same_upd hq _ _ (same_upd he _ _ hp))) (.cons (.str _) (.cons (.int _) .nil)), .tup (SqT.of upd_same) (.cons (.str _) (.cons (.int _) .nil)), sh_weather _, sh_weather _, false, congrArg V.bl (by simp [PyData.eqv, PyData.eqvAll]), ?_⟩⟩
                refine ifF rfl ?_
                have s9 := (same_upd (o := .lst []) he).trans (same_upd (o := .tup [V.str "weather", V.int i0]) hq)
                exact hD' _ _ ⟨rfl, lh8.same s9, tb8.ext s9, s9 _ _ ht8, by rw [er]; exact s9 _ _ hd8, .inr ⟨i0, r, er⟩⟩
            · rintro σ H9 ⟨rfl, lh9, tb9, ht9, hd9, alt9⟩
              refine seq_if (C := fun σ H' => σ = [some (.ref c), some (.ref x), some (.int (0 + (i : Int))), some (.ref t), u4, some (.ref D), some (.ref l), some (.ref p), v8, v9] ∧ LH H' x y ∧ Tabs (lamT Pt) H') (fun D' hD' => ?_) ?_
              · rcases alt9 with ⟨ch, z, hl9, wt⟩ | ⟨i0, r, er⟩
                · rw [bad_nil' ch] at hd9
                  refine ⟨_, rfl, Nat.zero_le _, fun e he => ⟨.list [], .list [], .lst (SqL.of (same_upd he _ _ hd9)) .nil, .lst (SqL.of upd_same) .nil, rfl, rfl, _, rfl, ?_⟩⟩
                  refine ifT rfl ?_
                  obtain ⟨dx, tq, w1, w2⟩ := wt
                  have s9 := same_upd (o := .lst []) he
                  refine ⟨_, rfl, l, _, _, _, rfl, rfl, SqL.of (s9 _ _ hl9), at_int (z := 0) (Int.le_refl 0) rfl, z, dx, _, rfl, s9 _ _ w1, z, dx, _, _, rfl, s9 _ _ w1, rfl, _, rfl, _, _, rfl, .inr ⟨tq, t, _, _, rfl, rfl, ⟨rfl, by rw [List.length_map]; omega, fun i u v hu hv => ?_⟩, .inr ⟨s9 _ _ w2, s9 _ _ ht9⟩⟩, fun H11 s11 => ⟨_, rfl, ?_⟩⟩
                  · rw [hu] at hv
                    refine ⟨Option.some.inj hv, .inl ?_⟩
                    rw [List.getElem?_map] at hu
                    cases e : ds[i]? with
                    | none => rw [e] at hu; cases hu
                    | some n => rw [e] at hu; exact ⟨n, (Option.some.inj hu).symm⟩
                  · refine ifF rfl ?_
                    exact hD' _ _ ⟨rfl, lh9.same (s9.trans s11), tb9.ext (s9.trans s11)⟩
                · rw [er] at hd9
                  refine ⟨_, rfl, Nat.zero_le _, fun e he => ⟨.list ((i0 :: r).map fun (t : Nat) => PyData.int t), .list [], .lst (SqL.of (same_upd he _ _ hd9)) (dp_nats _), .lst (SqL.of upd_same) .nil, sh_nats _, rfl, _, rfl, ?_⟩⟩
                  refine ifF (by simp [PyData.eqv, PyData.eqvAll]) ?_
                  refine ifF rfl ?_
                  have s9 := same_upd (o := .lst []) he
                  exact hD' _ _ ⟨rfl, lh9.same s9, tb9.ext s9⟩
              · rintro σ H10 ⟨rfl, lh10, tb10⟩
                refine ⟨_, rfl, x, y, 204, rfl, lh10, by decide, by decide, fun r H11 r0 r1 lh11 k11 => ⟨_, _, rfl, rfl, ?_⟩⟩
                have tb11 := tabs_keep lh10 k11 tb10
                refine ⟨tb11, fun H12 eN tb12 => ?_⟩
                have lh12 := lh11.ext eN
                refine te_of (fun v H' => ∃ (p : Addr) (xs : List V), v = .ref p ∧ H' p = some (.tup xs) ∧ LH H' x y ∧ Tabs (lamT Pt) H' ∧ ((-100 ≤ r - 102 ∧ r - 102 ≤ 100 ∧ xs = [.str "none"]) ∨ (¬ (-100 ≤ r - 102 ∧ r - 102 ≤ 100) ∧ xs = [.str "weather", .int 0]))) (fun Q7 hQ => ?_) ?_
                · refine ⟨rfl, _, rfl, r - 102, rfl, fun ch z H13 s13 wt => ⟨by show 1 ≤ sizeLine; decide, fun p hp => ?_⟩, fun i dd H13 hb s13 hdd => ⟨_, ⟨3, rfl, .inl ⟨rfl, dd, (i : Int), rfl, hdd, rfl⟩⟩, fun p H14 s14 hp => ?_⟩⟩
                  · have s14 := s13.trans (same_upd (o := .tup [V.str "none"]) hp)
                    have cc := ch.2.2 _ (List.mem_singleton.mpr rfl)
                    exact hQ _ _ ⟨p, _, rfl, upd_same, lh12.same s14, tb12.ext s14, .inl ⟨cc.1, cc.2, rfl⟩⟩
                  · have s15 := s13.trans s14
                    obtain ⟨rfl, nb⟩ := bad_one hb
                    exact hQ _ _ ⟨p, _, rfl, hp, lh12.same s15, tb12.ext s15, .inr ⟨nb, rfl⟩⟩
                · rintro v H13 ⟨p, xs, rfl, hp, lh13, tb13, alt13⟩
                  refine ⟨_, rfl, 100, rfl, _, rfl, _, _, rfl, rfl, _, rfl, ?_⟩
                  rcases alt13 with ⟨a1, a2, rfl⟩ | ⟨na, rfl⟩
                  · refine ifT (dT a1) ⟨_, _, rfl, rfl, _, rfl, ?_⟩
                    refine ifT (dT a2) ⟨by show 1 ≤ sizeLine; decide, fun q hq => neD_same hp hq (fun H' => .cons (.str _) .nil) sh_none (by decide) ⟨_, rfl, ifF rfl ?_⟩⟩
                    have s14 := same_upd (o := .tup [V.str "none"]) hq
                    exact ⟨_, rfl, rfl, lh13.same s14, tb13.ext s14⟩
                  · by_cases b1 : -100 ≤ r - 102
                    · refine ifT (dT b1) ⟨_, _, rfl, rfl, _, rfl, ?_⟩
                      refine ifF (dF fun b2 => na ⟨b1, b2⟩) ⟨by show 2 ≤ sizeLine; decide, fun q hq => neD_same hp hq (fun H' => .cons (.str _) (.cons (.int _) .nil)) (sh_weather 0) (by decide) ⟨_, rfl, ifF rfl ?_⟩⟩
                      exact ⟨_, rfl, rfl, lh13.same (same_upd hq), tb13.ext (same_upd hq)⟩
                    · refine ifF (dF b1) ⟨_, rfl, ifF rfl ⟨by show 2 ≤ sizeLine; decide, fun q hq => neD_same hp hq (fun H' => .cons (.str _) (.cons (.int _) .nil)) (sh_weather 0) (by decide) ⟨_, rfl, ifF rfl ?_⟩⟩⟩
                      exact ⟨_, rfl, rfl, lh13.same (same_upd hq), tb13.ext (same_upd hq)⟩
    · rintro σ H2 ⟨vs, rfl, lvs, lh2, tb2⟩
      match vs, lvs with
      | [v2, v3, v4, v5, v6, v7, v8, v9], _ =>
      dsimp only
      refine seq_if (C := fun σ H' => σ = [some (.ref c), some (.ref x), v2, v3, v4, v5, v6, v7, v8, v9] ∧ Tabs (lamT Pt) H') (fun D' hD' => ?_) ?_
      · refine ⟨tb2, fun H3 eN tb3 => ?_⟩
        refine te_of (fun v H' => ∃ p : Addr, v = .ref p ∧ H' p = some (.tup [.str "weather", .int 0]) ∧ Tabs (lamT Pt) H') (fun Q7 hQ => ?_) ?_
        · exact weather_madeX (cs := []) (by decide) (fun ch => absurd ch.1 (by decide)) fun i dd H4 hb s4 hdd => ⟨_, ⟨3, rfl, .inl ⟨rfl, dd, (i : Int), rfl, hdd, rfl⟩⟩, fun p H5 s5 hp => hQ _ _ ⟨p, rfl, bad_empty hb hp, tb3.ext (s4.trans s5)⟩⟩
        · rintro v H4 ⟨p, rfl, hp, tb4⟩
          refine ⟨by show 2 ≤ sizeLine; decide, fun q hq => neD_same hp hq (fun H' => .cons (.str _) (.cons (.int _) .nil)) (sh_weather 0) (by decide) ⟨_, rfl, ifF rfl ?_⟩⟩
          have tb5 := tb4.ext (same_upd (o := .tup [V.str "weather", V.int 0]) hq)
          refine ⟨rfl, 5, rfl, fun ch z H6 s6 ⟨dx, tq, w1, w2⟩ => ⟨z, dx, _, rfl, w1, z, dx, _, _, rfl, w1, rfl, by show 1 ≤ sizeLine; decide, fun u hu => neD_same w2 hu (fun H' => .cons (.int _) .nil) rfl (by decide) ⟨_, rfl, ifF rfl ?_⟩⟩, fun i dd H6 hb s6 hdd => (bad_one hb).2 ⟨by decide, by decide⟩⟩
          exact hD' _ _ ⟨rfl, tb5.ext (s6.trans (same_upd hu))⟩
      · rintro σ H3 ⟨rfl, tb3⟩
        refine ⟨by show 5 ≤ sizeLine; decide, fun q1 hq1 => ⟨q1, [1, 2, 3, 4, 5], rfl, upd_same, by decide, by decide, fun ch1 z1 H4 s4 wt1 => ⟨by show 4 ≤ sizeLine; decide, fun q2 hq2 => ⟨q2, [7, 8, 9, 10], rfl, upd_same, by decide, by decide, fun ch2 z2 H5 s5 wt2 => ?_, fun i dd H5 hb s5 hdd => noBad ch_two hb⟩⟩, fun i dd H4 hb s4 hdd => noBad ch_one hb⟩⟩
        have s35 := (same_upd (o := .tup [V.int 7, V.int 8, V.int 9, V.int 10]) hq2).trans s5
        have tb5 := (tb3.ext ((same_upd (o := .tup [V.int 1, V.int 2, V.int 3, V.int 4, V.int 5]) hq1).trans s4)).ext s35
        have wt15 : WAt a H5 z1 [1, 2, 3, 4, 5] := by
          obtain ⟨dx, tq, w1, w2⟩ := wt1
          exact ⟨dx, tq, s35 _ _ w1, s35 _ _ w2⟩
        have w15 := wt15
        have w25 := wt2
        obtain ⟨d1x, t1q, u1, u2⟩ := w15
        obtain ⟨d2x, t2q, u3, u4'⟩ := w25
        refine ⟨z1, d1x, _, z2, d2x, _, rfl, rfl, u1, u3, z1, z2, _, _, rfl, wt15, wt2, ch1, ch2, fun ch3 v H6 s6 wt3 => ?_, fun i dd H6 hb s6 hdd => noBad ch_sum hb⟩
        have tb6 := tb5.ext s6
        clear s35 u1 u2 u3 u4' wt15 wt2 wt1 tb5
        generalize em : addR [1, 2, 3, 4, 5] [7, 8, 9, 10] = m20 at ch3 wt3
        have lm : m20.length = 20 := by rw [← em, addR_len]; decide
        show gName 9 (.ref v) [some (.ref c), some (.ref x), v2, v3, v4, v5, v6, v7, v8, v9] H6 _
        dsimp only
        refine g_if (C := fun σ H' => Tabs (lamT Pt) H') (fun D' hD' => ?_) ?_
        · have w3 := wt3
          obtain ⟨dx, tq, w1, w2⟩ := w3
          refine ⟨_, rfl, v, dx, _, rfl, w1, v, m20, rfl, wt3, m20.length, rfl, by rw [lm]; decide, rfl, _, rfl, ?_⟩
          rw [lm]
          refine ifF rfl ⟨tb6, fun H7 eN tb7 => ?_⟩
          have w17 := eN _ _ w1 (fun _ z => nomatch z)
          have w27 := eN _ _ w2 (fun _ z => nomatch z)
          refine te_of (fun v H' => ∃ p : Addr, v = .ref p ∧ H' p = some (.tup [.str "weather", .int 24]) ∧ Tabs (lamT Pt) H') (fun Q7 hQ => ?_) ?_
          · refine ⟨_, rfl, by show 3 ≤ sizeLine; decide, fun q3 hq3 => ⟨q3, [1, 2, 3], rfl, upd_same, by decide, by decide, fun ch4 z4 H8 s8 wt4 => ?_, fun i dd H8 hb s8 hdd => (noBad ch_three hb).elim⟩⟩
            have s78 := (same_upd (o := .tup [V.int 1, V.int 2, V.int 3]) hq3).trans s8
            have wt38 : WAt a H8 v m20 := ⟨dx, tq, s78 _ _ w17, s78 _ _ w27⟩
            have wt48 := wt4
            obtain ⟨d4x, t4q, x1, x2⟩ := wt48
            refine ⟨v, dx, _, z4, d4x, _, rfl, rfl, s78 _ _ w17, x1, v, z4, m20, _, rfl, wt38, wt4, ch3, ch4, fun ch5 => ?_, fun i dd H9 hb s9 hdd => ⟨_, ⟨3, rfl, .inl ⟨rfl, dd, (i : Int), rfl, hdd, rfl⟩⟩, fun p H10 s10 hp => ?_⟩⟩
            · have := ch5.2.1
              rw [addR_len, lm] at this
              exact absurd this (by decide)
            · have e24 : i = 24 := bad_uniq hb (by rw [← em]; exact bad_sum)
              subst e24
              exact hQ _ _ ⟨p, rfl, hp, (tb7.ext s78).ext (s9.trans s10)⟩
          · rintro v' H8 ⟨p, rfl, hp, tb8⟩
            refine ⟨by show 2 ≤ sizeLine; decide, fun q hq => neD_same hp hq (fun H' => .cons (.str _) (.cons (.int _) .nil)) (sh_weather 24) (by decide) ⟨_, rfl, ifF rfl ?_⟩⟩
            exact hD' _ _ (tb8.ext (same_upd hq))
        · rintro σ H7 tb7
          obtain ⟨t24, c24⟩ := WT.v24
          obtain ⟨t100, c100⟩ := WT.v100
          refine ⟨a.c_Weather, _, _, _, rfl, WT.cr, c24, a.c_Weather, _, _, _, rfl, WT.cr, c100, by show 2 ≤ sizeLine; decide, fun q hq => ⟨by show 2 ≤ sizeLine; decide, fun u hu => ⟨.list [.int 24, .int 100], .list [.int 24, .int 100], .lst (SqL.of (same_upd hu _ _ upd_same)) (.cons (.int _) (.cons (.int _) .nil)), .lst (SqL.of upd_same) (.cons (.int _) (.cons (.int _) .nil)), rfl, rfl, ?_⟩⟩⟩
          exact k _
end
end W6

/-! a head's facts, told by Bools and by what stands at the defs' places -/
namespace Hq
open PySem PySem.Spec PyProof.Rows L2
/-- the def behind a property -/
def gtA (K : PySem.W.Frag) (p : Addr) : Addr := match PySem.W.recIn K p "property" with
  | some (Value.ref f :: _rest) => f
  | _ => 0
def gtR (K : PySem.W.Frag) (p : Addr) : List Value := match PySem.W.recIn K p "property" with
  | some (Value.ref _f :: rest) => rest
  | _ => []
def gtB (K : PySem.W.Frag) (p : Addr) : Bool := match PySem.W.recIn K p "property" with
  | some (Value.ref _f :: _rest) => true
  | _ => false
theorem gtB_ok {K : PySem.W.Frag} {p : Addr} (h : gtB K p = true) : PySem.W.recIn K p "property" = some (.ref (gtA K p) :: gtR K p) := by
  unfold gtB at h
  unfold gtA gtR
  split at h
  · rename_i e; rw [e]
  · cases h
/-- the dict of a def's keyword defaults -/
def kvA : Value → Addr
  | .ref b => b
  | _ => 0
def kvB : Value → Bool
  | .ref _ => true
  | _ => false
def kwA (K : PySem.W.Frag) (f : Addr) : Addr := match K.lookup f with
  | some { data := Data.func d, .. } => kvA d.kwdefaults
  | _ => 0
def kwB (K : PySem.W.Frag) (f : Addr) : Bool := match K.lookup f with
  | some { data := Data.func d, .. } => kvB d.kwdefaults
  | _ => false
/-- what a def is made of -/
abbrev Mv : Type := Option (Str × Str × Arguments × FuncBody × Scope × Addr × List (Str × Addr) × Value × Addr)
def mo (K : PySem.W.Frag) (f : Addr) : Mv := match K.lookup f with
  | some { data := Data.func d, .. } => some (d.name, d.qualname, d.params, d.body, d.scope, d.globals, d.closure, d.defaults, d.builtins)
  | _ => none
def mv (name qual : Str) (st : Stmt) : Mv := some (name, qual, defArgs st, .stmts (defBody st), defScope st, mainGlobals, [], .none, builtinsNs)
def coB (K : PySem.W.Frag) (f : Addr) (q : Str) : Bool := match K.lookup f with
  | some { data := Data.func d, .. } => PySem.W.codeIn K d.code q
  | _ => false
theorem mo_ok {K : PySem.W.Frag} {f : Addr} {name qual : Str} {st : Stmt} (e : mo K f = mv name qual st) (c : coB K f qual = true) :
    ∃ oc od osl kV doc pm an cdv ct, K.lookup f = some ⟨oc, od, .func (PySem.W.fnOf name qual (defArgs st) (defBody st) (defScope st) .none kV doc pm an cdv ct), osl⟩ ∧ PySem.W.codeIn K cdv qual = true := by
  unfold mo at e
  unfold coB at c
  cases q : K.lookup f with
  | none => rw [q] at c; cases c
  | some o =>
    obtain ⟨oc, od, dt, osl⟩ := o
    rw [q] at c e
    cases dt with
    | func fd =>
      obtain ⟨n1, n2, n3, n4, n5, n6, n7, n8, n9, n10, n11, n12, n13, n14, n15⟩ := fd
      have e2 : (some (n1, n2, n3, n4, n5, n6, n7, n8, n15) : Mv) = some (name, qual, defArgs st, .stmts (defBody st), defScope st, mainGlobals, [], .none, builtinsNs) := e
      simp only [Option.some.injEq, Prod.mk.injEq] at e2
      obtain ⟨h1, h2, h3, h4, h5, h6, h7, h8, h9⟩ := e2
      subst h1 h2 h3 h4 h5 h6 h7 h8 h9
      exact ⟨oc, od, osl, n9, n10, n11, n12, n13, n14, rfl, c⟩
    | _ => cases c
theorem mo_okK {K : PySem.W.Frag} {f : Addr} {name qual : Str} {st : Stmt} (e : mo K f = mv name qual st) (c : coB K f qual = true) (b : kwB K f = true) :
    ∃ oc od osl doc pm an cdv ct, K.lookup f = some ⟨oc, od, .func (PySem.W.fnOf name qual (defArgs st) (defBody st) (defScope st) .none (.ref (kwA K f)) doc pm an cdv ct), osl⟩ ∧ PySem.W.codeIn K cdv qual = true := by
  obtain ⟨oc, od, osl, kV, doc, pm, an, cdv, ct, lk, co⟩ := mo_ok e c
  have ek : kV = .ref (kwA K f) := by
    unfold kwB at b
    unfold kwA
    rw [lk] at b ⊢
    have b2 : kvB kV = true := b
    show kV = .ref (kvA kV)
    cases kV with
    | ref d => rfl
    | _ => cases b2
  rw [ek] at lk
  exact ⟨oc, od, osl, doc, pm, an, cdv, ct, lk, co⟩
/-- a written int of the module -/
def inB (K : PySem.W.Frag) (x : Str) (i : Int) : Bool := match PySem.W.nsIn K mainGlobals x with
  | some (some (Value.int j _t)) => decide (j = i)
  | _ => false
theorem inB_ok {K : PySem.W.Frag} {x : Str} {i : Int} (h : inB K x i = true) : ∃ t, PySem.W.nsIn K mainGlobals x = some (some (.int i t)) := by
  unfold inB at h
  split at h
  · rename_i j t e
    rw [e, of_decide_eq_true h]
    exact ⟨t, rfl⟩
  · cases h
/-- a class's int -/
def cvB (K : PySem.W.Frag) (C : Addr) (x : Str) (i : Int) : Bool := match PySem.W.findIn K (.ref C) x with
  | some (some (Value.int j t)) => decide (j = i) && He.eqO (PySem.W.specialIn K (.int j t) "__get__") (some none)
  | _ => false
theorem cvB_ok {K : PySem.W.Frag} {C : Addr} {x : Str} {i : Int} (h : cvB K C x i = true) : ∃ t, PySem.W.findIn K (.ref C) x = some (some (.int i t)) ∧ PySem.W.specialIn K (.int i t) "__get__" = some none := by
  unfold cvB at h
  split at h
  · rename_i j t e
    obtain ⟨h1, h2⟩ := He.ba h
    have ej := of_decide_eq_true h1
    subst ej
    exact ⟨t, e, He.eqO_ok h2⟩
  · cases h
/-! ### the Hook -/
/-- the facts; where the defs stand, and what is to stand there -/
structure Spc where
  bs : PySem.W.Frag → List Bool
  fs : List ((PySem.W.Frag → Addr) × Mv)
abbrev Av : Type := Bool × List Mv
def obs (S : Spc) (K : PySem.W.Frag) : Av := ((S.bs K).all id, S.fs.map fun q => mo K (q.1 K))
def wanted (S : Spc) : Av := (true, S.fs.map fun q => q.2)
def Says (S : Spc) (K : PySem.W.Frag) : Prop := obs S K = wanted S
/-- what an object leads to: values, code, keyword defaults, a class's names -/
def refQ (o : Obj) : List Addr := match o.data with
  | .dict entries _ => entries.toList.flatMap fun q => He.refV q.val
  | .func d => He.refV d.code ++ He.refV d.kwdefaults
  | .cls d => [d.ns]
  | .fields parts => parts.toList.flatMap He.refV
  | _ => []
def lvl (g : Addr → Option Obj) (xs : List Addr) : List Addr := xs.flatMap fun b => match g b with
  | some o => refQ o
  | none => []
def asQ (g : Addr → Option Obj) : Nat → List Addr → List Addr
  | 0, xs => xs
  | n + 1, xs => xs ++ asQ g n (lvl g xs)
def obsG (n : Nat) (S : Spc) (g : Addr → Option Obj) : Av := obs S (He.frG g (asQ g n [mainGlobals]))
def hook (n : Nat) (S : Spc) : PySem.W.Hook where
  α := Av
  obs := fun s => obsG n S s.heap.get?
  val := fun _ => wanted S
  says := fun _ h => ∃ K : PySem.W.Frag, K.In h ∧ Says S K
  of := fun _ _ e => ⟨_, He.frG_in, e⟩
  keeps := fun _ _ _ ⟨K, hK, c⟩ k => ⟨K, hK.keeps k, c⟩
theorem obsG_eq {n : Nat} {S : Spc} {g : Addr → Option Obj} {s : Shared} (h : ∀ a, g a = s.heap.get? a) : obsG n S g = (hook n S).obs s := by
  obtain rfl : g = s.heap.get? := funext h
  rfl
section
variable {S : Spc} {K : PySem.W.Frag}
theorem Says.fact (c : Says S K) (i : Nat) {b : Bool} (h : (S.bs K)[i]? = some b) : b = true := by
  have c1 : (S.bs K).all id = true := congrArg (fun z : Av => z.1) c
  exact List.all_eq_true.mp c1 b (List.mem_of_getElem? h)
theorem Says.fn (c : Says S K) (i : Nat) {f : PySem.W.Frag → Addr} {v : Mv} (h : S.fs[i]? = some (f, v)) : mo K (f K) = v := by
  have c2 : (S.fs.map fun q => mo K (q.1 K)) = S.fs.map fun q => q.2 := congrArg (fun z : Av => z.2) c
  have e2 : (S.fs.map fun q => mo K (q.1 K))[i]? = (S.fs.map fun q => q.2)[i]? := by rw [← c2]
  rw [List.getElem?_map, List.getElem?_map, h] at e2
  exact Option.some.inj e2
end
end Hq

/-! a head's facts, further: tables of code objects, defs that close over __class__, errors' classes -/
namespace Hq2
open PySem PySem.Spec PyProof.Rows L2 Hq
/-! ### a def that closes over its class -/
abbrev Mx : Type := Option (Str × Str × Arguments × FuncBody × Scope × Addr × List Str × Value × Value × Addr)
def moX (K : PySem.W.Frag) (f : Addr) : Mx := match K.lookup f with
  | some { data := Data.func d, .. } => some (d.name, d.qualname, d.params, d.body, d.scope, d.globals, d.closure.map (·.1), d.defaults, d.kwdefaults, d.builtins)
  | _ => none
def mvX (name qual : Str) (st : Stmt) : Mx := some (name, qual, defArgs st, .stmts (defBody st), defScope st, mainGlobals, ["__class__"], .none, .none, builtinsNs)
def cellB (K : PySem.W.Frag) (a C : Addr) : Bool := match K.lookup a with
  | some { data := Data.cell (some (Value.ref D)), .. } => decide (D = C)
  | _ => false
theorem cellB_ok {K : PySem.W.Frag} {a C : Addr} (h : cellB K a C = true) : ∃ (cl : Value) (cld : Option Addr) (csl : Array (Option Value)), K.lookup a = some ⟨cl, cld, .cell (some (.ref C)), csl⟩ := by
  unfold cellB at h
  split at h
  · rename_i cl cld D csl hq
    have ed := of_decide_eq_true h
    subst ed
    exact ⟨_, _, _, hq⟩
  · cases h
def fileB (K : PySem.W.Frag) (v : Value) (file : Str) : Bool := match v with
  | Value.ref c => (match K.lookup c with
    | some { data := Data.fields vs, .. } => (match vs[2]? with
      | some (Value.str fl _) => decide (fl = file)
      | _ => false)
    | _ => false)
  | _ => false
theorem fileB_ok {K : PySem.W.Frag} {v : Value} {file : Str} (h : fileB K v file = true) : ∃ cda : Addr, v = .ref cda ∧ ∃ (ccl : Value) (cdd : Option Addr) (vs : Array Value) (ccs : Array (Option Value)) (tf : Tok), K.lookup cda = some ⟨ccl, cdd, .fields vs, ccs⟩ ∧ vs[2]? = some (.str file tf) := by
  unfold fileB at h
  split at h
  · rename_i c
    split at h
    · rename_i ccl cdd vs ccs hq
      split at h
      · rename_i fl tf hv
        have ef := of_decide_eq_true h
        subst ef
        exact ⟨c, rfl, _, _, _, _, tf, hq, hv⟩
      · cases h
    · cases h
  · cases h
def ccB (K : PySem.W.Frag) (f C : Addr) : Bool := match K.lookup f with
  | some { data := Data.func d, .. } => d.closure.all fun p => cellB K p.2 C
  | _ => false
def flB (K : PySem.W.Frag) (f : Addr) (file : Str) : Bool := match K.lookup f with
  | some { data := Data.func d, .. } => fileB K d.code file
  | _ => false
theorem mx_ok {K : PySem.W.Frag} {f C : Addr} {name qual file : Str} {st : Stmt} (e : moX K f = mvX name qual st) (c : coB K f qual = true) (h1 : ccB K f C = true) (h2 : flB K f file = true) :
    ∃ (oc : Value) (od : Option Addr) (doc pm : Value) (an : Option Addr) (cda cc : Addr) (ct : Value) (osl : Array (Option Value)),
      K.lookup f = some ⟨oc, od, .func (PySem.W.ksFn name qual (defArgs st) (defBody st) (defScope st) .none .none doc pm an (.ref cda) ct cc), osl⟩ ∧ PySem.W.codeIn K (.ref cda) qual = true ∧
      (∃ (ccl : Value) (cdd : Option Addr) (vs : Array Value) (ccs : Array (Option Value)) (tf : Tok), K.lookup cda = some ⟨ccl, cdd, .fields vs, ccs⟩ ∧ vs[2]? = some (.str file tf)) ∧
      (∃ (cl : Value) (cld : Option Addr) (csl : Array (Option Value)), K.lookup cc = some ⟨cl, cld, .cell (some (.ref C)), csl⟩) := by
  unfold moX at e
  unfold coB at c
  unfold ccB at h1
  unfold flB at h2
  cases q : K.lookup f with
  | none => rw [q] at c; cases c
  | some o =>
    obtain ⟨oc, od, dt, osl⟩ := o
    rw [q] at c e h1 h2
    cases dt with
    | func fd =>
      obtain ⟨n1, n2, n3, n4, n5, n6, n7, n8, n9, n10, n11, n12, n13, n14, n15⟩ := fd
      have e2 : (some (n1, n2, n3, n4, n5, n6, n7.map (·.1), n8, n9, n15) : Mx) = (some (name, qual, defArgs st, FuncBody.stmts (defBody st), defScope st, mainGlobals, ["__class__"], Value.none, Value.none, builtinsNs) : Mx) := e
      simp only [Option.some.injEq, Prod.mk.injEq] at e2
      obtain ⟨e1, e3, e4, e5, e6, e7, e8, e9, e10, e11⟩ := e2
      subst e1 e3 e4 e5 e6 e7 e9 e10 e11
      have h1 : (n7.all fun p => cellB K p.2 C) = true := h1
      have h2 : fileB K n13 file = true := h2
      have ln : n7.length = 1 := by
        have z := congrArg List.length e8
        rw [List.length_map] at z
        exact z
      match n7, ln with
      | [(nm, cc)], _ =>
        have enm : nm = ("__class__" : Str) := (List.cons.inj e8).1
        subst enm
        obtain ⟨cda, rfl, hc⟩ := fileB_ok h2
        have h1 : (cellB K cc C && true) = true := h1
        rw [Bool.and_true] at h1
        exact ⟨oc, od, n10, n11, n12, cda, cc, n14, osl, rfl, c, hc, cellB_ok h1⟩
    | _ => cases c
/-! ### an error's class -/
def ixClsB (K : PySem.W.Frag) (C : Addr) : Bool := match K.lookup C with
  | some ⟨Value.type "type", _, Data.cls cd, sl⟩ => (match cd.mro, sl.toList with
    | Value.ref D :: bm, [_, _, _, _, some (Value.builtin n), _] => decide (D = C) && (decide (n = "ValueError.__new__") && (!cd.hasDel && (cd.hasDict && PySem.HandSPX.refsVE bm)))
    | _, _ => false)
  | _ => false
theorem ixClsB_ok {K : PySem.W.Frag} {C : Addr} (h : ixClsB K C = true) : ∃ nm q N bs bm sn sub ab col dd k0 k1 k2 k3 k5, K.lookup C = some (excClassObj nm q C N bs bm true sn sub ab col dd k0 k1 k2 k3 k5 "ValueError.__new__") ∧ PySem.HandSPX.refsVE bm = true := by
  unfold ixClsB at h
  split at h
  · rename_i dd cd sl ho
    split at h
    · rename_i D bm k0 k1 k2 k3 n k5 hm hs
      obtain ⟨a1, h⟩ := He.ba h
      obtain ⟨a2, h⟩ := He.ba h
      obtain ⟨a3, h⟩ := He.ba h
      obtain ⟨a4, a5⟩ := He.ba h
      have e1 := of_decide_eq_true a1
      have e2 := of_decide_eq_true a2
      subst e1 e2
      obtain ⟨nm, bs, mro, ns, qn, hd, sn, sub, ab, col, del⟩ := cd
      have e3 : del = false := by simpa using a3
      have e4 : hd = true := a4
      have e5 : mro = Value.ref D :: bm := hm
      subst e3 e4 e5
      have hsl : sl = #[k0, k1, k2, k3, some (.builtin "ValueError.__new__"), k5] := by
        obtain ⟨l⟩ := sl
        have hs : l = _ := hs
        rw [hs]
      subst hsl
      exact ⟨nm, qn, ns, bs, bm, sn, sub, ab, col, dd, k0, k1, k2, k3, k5, ho, a5⟩
    · cases h
  · cases h
def excB (K : PySem.W.Frag) (D : Addr) : Bool := He.eqO (PySem.W.findIn K (.ref D) "__getattribute__") (some (some (.builtin "BaseException.__getattribute__"))) && (He.eqO (PySem.W.findIn K (.ref D) "__getattr__") (some none) &&
  (decide (PySem.W.subIn K (.ref D) (.type "BaseException") = some true) && (PySem.W.hasDictIn K D && (He.eqO (PySem.W.findIn K (.ref D) "__class__") (some (some (.builtin "object.__class__"))) &&
  (He.eqO (PySem.W.specialIn K (.builtin "object.__class__") "__get__") (some (some (.builtin "getset_descriptor.__get__"))) && (decide (PySem.W.takesIn K (.builtin "object.__class__") = some true) && decide (PySem.W.mroIn K D (.type "object") = some true)))))))
theorem excB_ok {K : PySem.W.Frag} {D : Addr} (h : excB K D = true) : ExcC K D := by
  obtain ⟨h1, h⟩ := He.ba h
  obtain ⟨h2, h⟩ := He.ba h
  obtain ⟨h3, h⟩ := He.ba h
  obtain ⟨h4, h⟩ := He.ba h
  obtain ⟨h5, h⟩ := He.ba h
  obtain ⟨h6, h⟩ := He.ba h
  obtain ⟨h7, h8⟩ := He.ba h
  exact ⟨He.eqO_ok h1, He.eqO_ok h2, of_decide_eq_true h3, h4, He.eqO_ok h5, He.eqO_ok h6, of_decide_eq_true h7, of_decide_eq_true h8⟩
/-- what IxTxt asks of the class beside the def's text -/
def ixB (K : PySem.W.Frag) (C : Addr) : Bool := ixClsB K C && (He.eqO (PySem.W.findIn K (.ref C) "__setattr__") (some (some (.builtin "object.__setattr__"))) && (He.eqO (PySem.W.findIn K (.ref C) "index") (some none) &&
  (He.eqO (PySem.W.findIn K (.ref C) "__init__") (some (some (.ref (He.ma K C "__init__")))) && (decide (PySem.W.typeIn K (.ref (He.ma K C "__init__")) = some (.type "function")) && (PySem.W.keepIn K (.ref C) &&
  (decide (PySem.W.typeIn K (.ref C) = some (.type "type")) && (decide (PySem.W.mroIn K C (.ref C) = some true) && (He.eqO (PySem.W.ks_superIn K C C "__init__") (some (some (.builtin "ValueError.__init__"))) &&
  (decide (PySem.W.subIn K (.ref C) (.type "ValueError") = some true) && He.eqO (PySem.W.nsIn K cStatics "thirdparty.any") (some none))))))))))
/-! ### a class's constant, read off the class -/
def cvalB (K : PySem.W.Frag) (C : Addr) (x : Str) (i : Int) : Bool := match PySem.W.findCls K (.ref C) (.type "type") x with
  | some (.val (.int j _)) => decide (j = i)
  | _ => false
theorem cvalB_ok {K : PySem.W.Frag} {C : Addr} {x : Str} {i : Int} (h : cvalB K C x i = true) : ∃ t, ClX.CVal K C (.type "type") x (.int i) (.int i t) := by
  unfold cvalB at h
  split at h
  · rename_i j t e
    have ej := of_decide_eq_true h
    subst ej
    exact ⟨t, e, ⟨t, rfl⟩⟩
  · cases h
/-! ### the Hook -/
structure Spc where
  bs : PySem.W.Frag → List Bool
  fs : List ((PySem.W.Frag → Addr) × Mv)
  xs : List ((PySem.W.Frag → Addr) × Mx)
  cs : PySem.W.Frag → List (Addr × Addr)
abbrev Av : Type := Bool × List Mv × List Mx
def obsK (S : Spc) (K : PySem.W.Frag) : Av := ((S.bs K).all id, S.fs.map fun q => mo K (q.1 K), S.xs.map fun q => moX K (q.1 K))
def tabB (S : Spc) (g : Addr → Option Obj) (K : PySem.W.Frag) : Bool := (S.cs K).all fun p => PySem.W.codeHdIn K p.1 p.2 && (match g p.2 with
  | some o => He.emptyTab o
  | none => false)
def wanted (S : Spc) : Av := (true, S.fs.map fun q => q.2, S.xs.map fun q => q.2)
def refX (o : Obj) : List Addr := match o.data with
  | .dict entries _ => entries.toList.flatMap fun q => He.refV q.val
  | .func d => He.refV d.code ++ He.refV d.kwdefaults ++ d.closure.map (·.2)
  | .cls d => [d.ns]
  | .fields parts => parts.toList.flatMap He.refV
  | _ => []
def lvl (g : Addr → Option Obj) (xs : List Addr) : List Addr := xs.flatMap fun b => match g b with
  | some o => refX o
  | none => []
def asX (g : Addr → Option Obj) : Nat → List Addr → List Addr
  | 0, xs => xs
  | n + 1, xs => xs ++ asX g n (lvl g xs)
def frX (n : Nat) (g : Addr → Option Obj) : PySem.W.Frag := He.frT g (cStatics :: asX g n [mainGlobals])
def obsG (n : Nat) (S : Spc) (g : Addr → Option Obj) : Av × Bool := (obsK S (frX n g), tabB S g (frX n g))
/-- what is told of the written part -/
structure Says (S : Spc) (h : Heap) (K : PySem.W.Frag) : Prop where
  k : obsK S K = wanted S
  hd : ∀ p ∈ S.cs K, PySem.W.codeHdIn K p.1 p.2 = true
  out : ∀ p ∈ S.cs K, K.lookup p.2 = none
  empty : ∀ p ∈ S.cs K, h.get? p.2 = some { cls := .none, data := .fields #[] }
theorem says_of {n : Nat} {S : Spc} {h : Heap} (e : obsG n S h.get? = (wanted S, true)) : Says S h (frX n h.get?) := by
  have e1 : obsK S (frX n h.get?) = wanted S := congrArg (fun z : Av × Bool => z.1) e
  have e2 : tabB S h.get? (frX n h.get?) = true := congrArg (fun z : Av × Bool => z.2) e
  have key : ∀ p ∈ S.cs (frX n h.get?), PySem.W.codeHdIn (frX n h.get?) p.1 p.2 = true ∧ ∃ o, h.get? p.2 = some o ∧ He.emptyTab o = true := fun p hp => by
    obtain ⟨h3, h4⟩ := He.ba (List.all_eq_true.mp e2 p hp)
    refine ⟨h3, ?_⟩
    cases q : h.get? p.2 with
    | none => rw [q] at h4; cases h4
    | some o => rw [q] at h4; exact ⟨o, rfl, h4⟩
  refine ⟨e1, fun p hp => (key p hp).1, fun p hp => ?_, fun p hp => ?_⟩
  · obtain ⟨_, o, q, z⟩ := key p hp
    exact He.frT_none q z
  · obtain ⟨_, o, q, z⟩ := key p hp
    rw [q, He.emptyTab_eq z]
def hook (n : Nat) (S : Spc) : PySem.W.Hook where
  α := Av × Bool
  obs := fun s => obsG n S s.heap.get?
  val := fun _ => (wanted S, true)
  says := fun _ h => ∃ K : PySem.W.Frag, K.In h ∧ Says S h K
  of := fun _ _ e => ⟨_, He.frT_in, says_of e⟩
  keeps := fun _ _ _ ⟨K, hK, c⟩ k => ⟨K, PySem.W.Frag.In.keeps hK k, ⟨c.k, c.hd, c.out, fun p hp => k _ _ (c.empty p hp)⟩⟩
theorem obsG_eq {n : Nat} {S : Spc} {g : Addr → Option Obj} {s : Shared} (h : ∀ a, g a = s.heap.get? a) : obsG n S g = (hook n S).obs s := by
  obtain rfl : g = s.heap.get? := funext h
  rfl
section
variable {S : Spc} {K : PySem.W.Frag} {h : Heap}
theorem Says.fact (c : Says S h K) (i : Nat) {b : Bool} (e : (S.bs K)[i]? = some b) : b = true := by
  have c1 : (S.bs K).all id = true := congrArg (fun z : Av => z.1) c.k
  exact List.all_eq_true.mp c1 b (List.mem_of_getElem? e)
theorem Says.fn (c : Says S h K) (i : Nat) {f : PySem.W.Frag → Addr} {v : Mv} (e : S.fs[i]? = some (f, v)) : mo K (f K) = v := by
  have c2 : (S.fs.map fun q => mo K (q.1 K)) = S.fs.map fun q => q.2 := congrArg (fun z : Av => z.2.1) c.k
  have e2 : (S.fs.map fun q => mo K (q.1 K))[i]? = (S.fs.map fun q => q.2)[i]? := by rw [← c2]
  rw [List.getElem?_map, List.getElem?_map, e] at e2
  exact Option.some.inj e2
theorem Says.fx (c : Says S h K) (i : Nat) {f : PySem.W.Frag → Addr} {v : Mx} (e : S.xs[i]? = some (f, v)) : moX K (f K) = v := by
  have c2 : (S.xs.map fun q => moX K (q.1 K)) = S.xs.map fun q => q.2 := congrArg (fun z : Av => z.2.2) c.k
  have e2 : (S.xs.map fun q => moX K (q.1 K))[i]? = (S.xs.map fun q => q.2)[i]? := by rw [← c2]
  rw [List.getElem?_map, List.getElem?_map, e] at e2
  exact Option.some.inj e2
end
/-! ### the end: the written part is told by what the head says -/
theorem walk_tab {l : PySem.W.OpenLaw} {n k : Nat} {q : Program} {loose : List Str} {XP : (Str → Option Value) → Heap → Prop} {YP : World → Heap → Prop} {d : DefRec} {CX : World → CXT} {x : Str}
    (hn : l.most = some n) (hn2 : n ≤ sizeLine) (hdf : d.params.defaults = []) (hr : Room k callerA)
    (F : ∀ (w : World) (mg : Str → Option Value) (fa : Addr) (h : Heap), YP w h → h.Ns mainGlobals mg → mg d.name = some (.ref fa) → ∃ K : PySem.W.Frag, K.In h ∧ LamX.LawAtS l w K (CX w) k n x mg fa h)
    (hCX : ∀ (w : World) (H : Hp) (s : Shared) (e : Value) (s' : Shared), CX w [] H s (fun _ _ _ => False) e s' → False) :
    PySem.W.WalkO q loose XP YP l.row.toRowW d [] (fun f vs => PySem.call f vs) := by
  refine Att.attach_callB hn hdf fun w s₀ s₁ mg mb fa o pm cd doc a vs ns G Y ho hd hcd hmg hobj hints hlen hbits hg => ?_
  obtain ⟨K, KX, fd, cs, sp, hT, nT, C, hb, hsp, hF⟩ := F w mg fa _ Y G.T.g hmg
  exact LamX.law_callTs KX G.T.g G.T.b G.T.builtins G.T.nolimit hg hT nT C G.T.bmain hobj hints (Nat.le_trans hlen hn2) hr hF hb (fun H hH hS => hsp H a ns hlen hbits hH hS) fun H e s' => hCX w H s₁ e s'
end Hq2

namespace W6
open PySem PySem.Spec PyProof.Rows L2 Ru StX LamX
def erCls : Fin 5 → Str
  | 0 => "Contradiction"
  | 1 => "InvalidHeater"
  | 2 => "InvalidNumber"
  | 3 => "InvalidWeather"
  | 4 => "OtherWeather"
def erA (K : PySem.W.Frag) : Er := ⟨fun j => He.ga K (erCls j), He.ga K "WarmthError", He.ma K (He.ga K "InvalidWeather") "__init__"⟩
abbrev s_IX : Stmt := inClass (top 4) 0
def fiveE : List (Fin 5) := [0, 1, 2, 3, 4]
theorem in_fiveE (j : Fin 5) : j ∈ fiveE := by revert j; decide
def kitB (K : PySem.W.Frag) : Bool := fiveE.all fun i => fiveE.all fun j => decide (PySem.W.kitOne K (.ref (He.ga K (erCls j))) (.ref (He.ga K (erCls i))) = some (decide (i = j)))
def gloB (K : PySem.W.Frag) (x : Str) : Bool := He.eqO (PySem.W.nsIn K mainGlobals x) (some (some (.ref (He.ga K x))))
def erL (K : PySem.W.Frag) (file : Str) : List Bool := [gloB K "WarmthError", fiveE.all fun j => gloB K (erCls j), He.eqO (PySem.W.nsIn K mainGlobals "ValueError") (some none), He.eqO (PySem.W.nsIn K mainGlobals "super") (some none),
  Hq2.ixB K (He.ga K "InvalidWeather"), fiveE.all fun j => Hq2.excB K (He.ga K (erCls j)), kitB K, fiveE.all fun j => decide (PySem.W.kitOne K (.ref (He.ga K (erCls j))) (.type "ValueError") = some true),
  fiveE.all fun j => decide (PySem.W.exmOne K (.ref (He.ga K (erCls j))) (.ref (He.ga K "WarmthError")) = some true),
  Hq.coB K (He.ma K (He.ga K "InvalidWeather") "__init__") "InvalidWeather.__init__", Hq2.ccB K (He.ma K (He.ga K "InvalidWeather") "__init__") (He.ga K "InvalidWeather"), Hq2.flB K (He.ma K (He.ga K "InvalidWeather") "__init__") file]
theorem erT_of {P : Program} {K : PySem.W.Frag} {h : Heap} {mg : Str → Option Value} (X : K.In h) (G : h.Ns mainGlobals mg) (b : (erL K P.main.file).all id = true) (x : Hq2.moX K (He.ma K (He.ga K "InvalidWeather") "__init__") = Hq2.mvX "__init__" "InvalidWeather.__init__" s_IX)
    (top : (P.main.scope.names.lookup ("super" : Str)).isSome = false) : ErT P K mg (erA K) := by
  have at_ : ∀ (i : Nat) (c : Bool), (erL K P.main.file)[i]? = some c → c = true := fun i c e => List.all_eq_true.mp b c (List.mem_of_getElem? e)
  have g : ∀ j : Fin 5, mg (erCls j) = some (.ref (He.ga K (erCls j))) := fun j => PySem.W.mg_of X G (He.eqO_ok (List.all_eq_true.mp (at_ 1 _ rfl) j (in_fiveE j)))
  have ex : ∀ j : Fin 5, ExcC K (He.ga K (erCls j)) := fun j => Hq2.excB_ok (List.all_eq_true.mp (at_ 5 _ rfl) j (in_fiveE j))
  have kit : ∀ i j : Fin 5, PySem.W.kitOne K (.ref (He.ga K (erCls j))) (.ref (He.ga K (erCls i))) = some (decide (i = j)) := fun i j => of_decide_eq_true (List.all_eq_true.mp (List.all_eq_true.mp (at_ 6 _ rfl) i (in_fiveE i)) j (in_fiveE j))
  have kitV : ∀ j : Fin 5, PySem.W.kitOne K (.ref (He.ga K (erCls j))) (.type "ValueError") = some true := fun j => of_decide_eq_true (List.all_eq_true.mp (at_ 7 _ rfl) j (in_fiveE j))
  have exm : ∀ j : Fin 5, PySem.W.exmOne K (.ref (He.ga K (erCls j))) (.ref (He.ga K "WarmthError")) = some true := fun j => of_decide_eq_true (List.all_eq_true.mp (at_ 8 _ rfl) j (in_fiveE j))
  have hix : Hq2.ixB K (He.ga K "InvalidWeather") = true := at_ 4 _ rfl
  obtain ⟨b1, hix⟩ := He.ba hix
  obtain ⟨b2, hix⟩ := He.ba hix
  obtain ⟨b3, hix⟩ := He.ba hix
  obtain ⟨b4, hix⟩ := He.ba hix
  obtain ⟨b5, hix⟩ := He.ba hix
  obtain ⟨b6, hix⟩ := He.ba hix
  obtain ⟨b7, hix⟩ := He.ba hix
  obtain ⟨b8, hix⟩ := He.ba hix
  obtain ⟨b9, hix⟩ := He.ba hix
  obtain ⟨b10, b11⟩ := He.ba hix
  obtain ⟨oc, od, doc, pm, an, cda, cc, ct, osl, lk, co, ⟨ccl, cdd, vs, ccs, tf, hcode, hvs⟩, hcell⟩ := Hq2.mx_ok x (at_ 9 _ rfl) (at_ 10 _ rfl) (at_ 11 _ rfl)
  have e3 := ex 3
  exact {
    g_WarmthError := PySem.W.mg_of X G (He.eqO_ok (at_ 0 _ rfl))
    g_Contradiction := g 0
    g_InvalidHeater := g 1
    g_InvalidNumber := g 2
    g_InvalidWeather := g 3
    g_OtherWeather := g 4
    z_ValueError := PySem.W.mg_none_of X G (He.eqO_ok (at_ 2 _ rfl))
    ix := {
      gC := g 3
      cls := Hq2.ixClsB_ok b1
      sa := He.eqO_ok b2
      ga := e3.hg
      gg := e3.hk
      noN := He.eqO_ok b3
      iC := He.eqO_ok b4
      tC := of_decide_eq_true b5
      kC := b6
      exC := e3.hs
      tyC := of_decide_eq_true b7
      hdC := e3.hd
      mr := of_decide_eq_true b8
      su := He.eqO_ok b9
      ve := of_decide_eq_true b10
      any := He.eqO_ok b11
      noS := PySem.W.mg_none_of X G (He.eqO_ok (at_ 3 _ rfl))
      top := top
      fn := ⟨oc, od, "InvalidWeather.__init__", doc, pm, an, cda, cc, ct, osl, _, _, _, _, _, _, _, _, _, _, _, _, _, _, _, _, _, by rfl, lk, co, by decide, ⟨ccl, cdd, vs, ccs, _, tf, hcode, hvs, by simp⟩, hcell⟩ }
    ex := ex
    kit := kit
    kitV := kitV
    exm := exm }
def wtL (K : PySem.W.Frag) : List Bool := [mroHd K (He.ga K "Weather"), PySem.W.readsIn K (He.ga K "Weather") (.type "type"), He.eqO (PySem.W.specialIn K (.ref (He.ga K "Weather")) "__getattribute__") (some (some (.builtin "type.__getattribute__"))),
  Hq2.cvalB K (He.ga K "Weather") "MAX_TICKS" 24, Hq2.cvalB K (He.ga K "Weather") "MAX_CHANGE" 100]
theorem wT_of {K : PySem.W.Frag} {a : Ad} (e : a.c_Weather = He.ga K "Weather") (b : (wtL K).all id = true) : WTxt K a := by
  have at_ : ∀ (i : Nat) (c : Bool), (wtL K)[i]? = some c → c = true := fun i c e => List.all_eq_true.mp b c (List.mem_of_getElem? e)
  constructor
  · rw [e]; exact at_ 0 _ rfl
  · rw [e]; exact ⟨at_ 1 _ rfl, He.eqO_ok (at_ 2 _ rfl)⟩
  · rw [e]; exact Hq2.cvalB_ok (at_ 3 _ rfl)
  · rw [e]; exact Hq2.cvalB_ok (at_ 4 _ rfl)
end W6

namespace W6
open PySem PySem.Spec PyProof.Rows L2 Ru StX

end W6

namespace W6
open PySem PySem.Spec PyProof.Rows L2 Ru StX
abbrev hR : PySem.W.OpenRow := PySem.W.OpenLaw.row PySem.Challenge.rw_warmswitch_k01_weather_validated
def hb0 (K : PySem.W.Frag) : List Bool := [
  He.eqO (PySem.W.nsIn K mainGlobals "Weather") (some (some (.ref (He.ga K "Weather")))),
  PySem.W.plainGet K (He.ga K "Weather") Str.empty,
  PySem.W.hasDictIn K (He.ga K "Weather"),
  PySem.W.plainOver K (He.ga K "Weather"),
  He.eqO (PySem.W.findIn K (.ref (He.ga K "Weather")) "__setattr__") (some (some (.builtin "object.__setattr__"))),
  He.eqO (PySem.W.findIn K (.ref (He.ga K "Weather")) "_changes") (some none),
  He.eqO (PySem.W.nsIn K mainGlobals "first_invalid") (some (some (.ref (He.ga K "first_invalid")))),
  PySem.W.keepIn K (.ref (He.ga K "first_invalid")),
  He.eqO (PySem.W.nsIn K mainGlobals "added_rounds") (some (some (.ref (He.ga K "added_rounds")))),
  PySem.W.keepIn K (.ref (He.ga K "added_rounds")),
  He.eqO (PySem.W.findIn K (.ref (He.ga K "Weather")) "__init__") (some (some (.ref (He.ma K (He.ga K "Weather") "__init__")))),
  PySem.W.isFn K (.ref (He.ma K (He.ga K "Weather") "__init__")),
  PySem.W.keepIn K (.ref (He.ma K (He.ga K "Weather") "__init__")),
  PySem.W.makesIn K (He.ga K "Weather"),
  PySem.W.keepIn K (.ref (He.ga K "Weather")),
  (He5.wrapB K (He.ga K "Weather") "classmethod" "classmethod.__get__" "constant" && PySem.W.fnIn K (He5.wf K (He.ga K "Weather") "classmethod" "constant")),
  PySem.W.keepIn K (.ref (He5.wf K (He.ga K "Weather") "classmethod" "constant")),
  He.eqO (PySem.W.findIn K (.ref (He.ga K "Weather")) "__len__") (some (some (.ref (He.ma K (He.ga K "Weather") "__len__")))),
  PySem.W.isFn K (.ref (He.ma K (He.ga K "Weather") "__len__")),
  PySem.W.keepIn K (.ref (He.ma K (He.ga K "Weather") "__len__")),
  He.eqO (PySem.W.findIn K (.ref (He.ga K "Weather")) "__add__") (some (some (.ref (He.ma K (He.ga K "Weather") "__add__")))),
  PySem.W.isFn K (.ref (He.ma K (He.ga K "Weather") "__add__")),
  PySem.W.keepIn K (.ref (He.ma K (He.ga K "Weather") "__add__")),
  He.eqO (PySem.W.nsIn K mainGlobals "_law_mix") (some (some (.ref (He.ga K "_law_mix")))),
  PySem.W.keepIn K (.ref (He.ga K "_law_mix")),
  He.eqO (PySem.W.nsIn K mainGlobals "_law_next") (some (some (.ref (He.ga K "_law_next")))),
  PySem.W.keepIn K (.ref (He.ga K "_law_next")),
  He.eqO (PySem.W.nsIn K mainGlobals "_law_alike") (some (some (.ref (He.ga K "_law_alike")))),
  PySem.W.keepIn K (.ref (He.ga K "_law_alike")),
  He.eqO (PySem.W.nsIn K mainGlobals "_law_error") (some (some (.ref (He.ga K "_law_error"))))]
def hb1 (K : PySem.W.Frag) : List Bool := [
  PySem.W.keepIn K (.ref (He.ga K "_law_error")),
  He.eqO (PySem.W.nsIn K mainGlobals "_law_changes") (some (some (.ref (He.ga K "_law_changes")))),
  PySem.W.keepIn K (.ref (He.ga K "_law_changes")),
  He.eqO (PySem.W.nsIn K mainGlobals "_law_weather") (some (some (.ref (He.ga K "_law_weather")))),
  PySem.W.keepIn K (.ref (He.ga K "_law_weather")),
  He.eqO (PySem.W.nsIn K mainGlobals "law") (some (some (.ref (He.ga K "law")))),
  PySem.W.keepIn K (.ref (He.ga K "law")),
  He.eqO (PySem.W.findIn K (.ref (He.ga K "Weather")) "changes") (some (some (.ref (He.ma K (He.ga K "Weather") "changes")))),
  He.eqO (PySem.W.specialIn K (.ref (He.ma K (He.ga K "Weather") "changes")) "__get__") (some (some (.builtin "property.__get__"))),
  decide (PySem.W.takesIn K (.ref (He.ma K (He.ga K "Weather") "changes")) = some true),
  Hq.gtB K (He.ma K (He.ga K "Weather") "changes"),
  PySem.W.keepIn K (.ref (Hq.gtA K (He.ma K (He.ga K "Weather") "changes"))),
  He.eqO (PySem.W.nsIn K mainGlobals "lcm") (some (some (.builtin "math.lcm"))),
  He.eqO (PySem.W.nsIn K mainGlobals "bool") (some none),
  He.eqO (PySem.W.nsIn K mainGlobals "dict") (some none),
  He.eqO (PySem.W.nsIn K mainGlobals "enumerate") (some none),
  He.eqO (PySem.W.nsIn K mainGlobals "int") (some none),
  He.eqO (PySem.W.nsIn K mainGlobals "isinstance") (some none),
  He.eqO (PySem.W.nsIn K mainGlobals "len") (some none),
  He.eqO (PySem.W.nsIn K mainGlobals "list") (some none),
  He.eqO (PySem.W.nsIn K mainGlobals "max") (some none),
  He.eqO (PySem.W.nsIn K mainGlobals "min") (some none),
  He.eqO (PySem.W.nsIn K mainGlobals "range") (some none),
  He.eqO (PySem.W.nsIn K mainGlobals "sorted") (some none),
  He.eqO (PySem.W.nsIn K mainGlobals "str") (some none),
  He.eqO (PySem.W.nsIn K mainGlobals "tuple") (some none),
  Hq.cvB K (He.ga K "Weather") "MAX_CHANGE" 100,
  Hq.cvB K (He.ga K "Weather") "MAX_TICKS" 24,
  (erL K hR.prog.main.file).all id,
  (wtL K).all id]
def hb2 (K : PySem.W.Frag) : List Bool := [
  Hq.coB K (He.ga K "first_invalid") "first_invalid",
  Hq.coB K (He.ga K "added_rounds") "added_rounds",
  Hq.coB K (He.ma K (He.ga K "Weather") "__init__") "Weather.__init__",
  Hq.coB K (He5.wf K (He.ga K "Weather") "classmethod" "constant") "Weather.constant",
  Hq.coB K (He.ma K (He.ga K "Weather") "__len__") "Weather.__len__",
  Hq.coB K (He.ma K (He.ga K "Weather") "__add__") "Weather.__add__",
  Hq.coB K (He.ga K "_law_mix") "_law_mix",
  Hq.coB K (He.ga K "_law_next") "_law_next",
  Hq.coB K (He.ga K "_law_alike") "_law_alike",
  Hq.coB K (He.ga K "_law_error") "_law_error",
  Hq.coB K (He.ga K "_law_changes") "_law_changes",
  Hq.coB K (He.ga K "_law_weather") "_law_weather",
  Hq.coB K (He.ga K "law") "law",
  Hq.coB K (Hq.gtA K (He.ma K (He.ga K "Weather") "changes")) "Weather.changes"]
def hb (K : PySem.W.Frag) : List Bool := hb0 K ++ (hb1 K ++ (hb2 K))
def hf0 : List ((PySem.W.Frag → Addr) × Hq.Mv) := [
  (fun K => (He.ga K "first_invalid"), Hq.mv "first_invalid" "first_invalid" s_first_invalid),
  (fun K => (He.ga K "added_rounds"), Hq.mv "added_rounds" "added_rounds" s_added_rounds),
  (fun K => (He.ma K (He.ga K "Weather") "__init__"), Hq.mv "__init__" "Weather.__init__" s_Weather_init),
  (fun K => (He5.wf K (He.ga K "Weather") "classmethod" "constant"), Hq.mv "constant" "Weather.constant" s_Weather_constant),
  (fun K => (He.ma K (He.ga K "Weather") "__len__"), Hq.mv "__len__" "Weather.__len__" s_Weather_len),
  (fun K => (He.ma K (He.ga K "Weather") "__add__"), Hq.mv "__add__" "Weather.__add__" s_Weather_add),
  (fun K => (He.ga K "_law_mix"), Hq.mv "_law_mix" "_law_mix" s__law_mix),
  (fun K => (He.ga K "_law_next"), Hq.mv "_law_next" "_law_next" s__law_next),
  (fun K => (He.ga K "_law_alike"), Hq.mv "_law_alike" "_law_alike" s__law_alike),
  (fun K => (He.ga K "_law_error"), Hq.mv "_law_error" "_law_error" s__law_error),
  (fun K => (He.ga K "_law_changes"), Hq.mv "_law_changes" "_law_changes" s__law_changes),
  (fun K => (He.ga K "_law_weather"), Hq.mv "_law_weather" "_law_weather" s__law_weather),
  (fun K => (He.ga K "law"), Hq.mv "law" "law" s_law),
  (fun K => (Hq.gtA K (He.ma K (He.ga K "Weather") "changes")), Hq.mv "changes" "Weather.changes" s_Weather_changes)]
def hS : Hq2.Spc := ⟨hb, hf0, [(fun K => He.ma K (He.ga K "InvalidWeather") "__init__", Hq2.mvX "__init__" "InvalidWeather.__init__" s_IX)], fun K => [He.cT K ("law", none)]⟩
theorem h_ns_Weather {h : Heap} {K : PySem.W.Frag} (c : Hq2.Says hS h K) : PySem.W.nsIn K mainGlobals "Weather" = some (some (.ref (He.ga K "Weather"))) := He.eqO_ok (c.fact 0 rfl)
theorem h_pg_Weather {h : Heap} {K : PySem.W.Frag} (c : Hq2.Says hS h K) : PySem.W.plainGet K (He.ga K "Weather") Str.empty = true := id (c.fact 1 rfl)
theorem h_hd_Weather {h : Heap} {K : PySem.W.Frag} (c : Hq2.Says hS h K) : PySem.W.hasDictIn K (He.ga K "Weather") = true := id (c.fact 2 rfl)
theorem h_po_Weather {h : Heap} {K : PySem.W.Frag} (c : Hq2.Says hS h K) : PySem.W.plainOver K (He.ga K "Weather") = true := id (c.fact 3 rfl)
theorem h_sa_Weather {h : Heap} {K : PySem.W.Frag} (c : Hq2.Says hS h K) : PySem.W.findIn K (.ref (He.ga K "Weather")) "__setattr__" = some (some (.builtin "object.__setattr__")) := He.eqO_ok (c.fact 4 rfl)
theorem h_na_Weather__changes {h : Heap} {K : PySem.W.Frag} (c : Hq2.Says hS h K) : PySem.W.findIn K (.ref (He.ga K "Weather")) "_changes" = some none := He.eqO_ok (c.fact 5 rfl)
theorem h_at_first_invalid {h : Heap} {K : PySem.W.Frag} (c : Hq2.Says hS h K) : PySem.W.nsIn K mainGlobals "first_invalid" = some (some (.ref (He.ga K "first_invalid"))) := He.eqO_ok (c.fact 6 rfl)
theorem h_kp_first_invalid {h : Heap} {K : PySem.W.Frag} (c : Hq2.Says hS h K) : PySem.W.keepIn K (.ref (He.ga K "first_invalid")) = true := id (c.fact 7 rfl)
theorem h_at_added_rounds {h : Heap} {K : PySem.W.Frag} (c : Hq2.Says hS h K) : PySem.W.nsIn K mainGlobals "added_rounds" = some (some (.ref (He.ga K "added_rounds"))) := He.eqO_ok (c.fact 8 rfl)
theorem h_kp_added_rounds {h : Heap} {K : PySem.W.Frag} (c : Hq2.Says hS h K) : PySem.W.keepIn K (.ref (He.ga K "added_rounds")) = true := id (c.fact 9 rfl)
theorem h_at_Weather_init {h : Heap} {K : PySem.W.Frag} (c : Hq2.Says hS h K) : PySem.W.findIn K (.ref (He.ga K "Weather")) "__init__" = some (some (.ref (He.ma K (He.ga K "Weather") "__init__"))) := He.eqO_ok (c.fact 10 rfl)
theorem h_fn_Weather_init {h : Heap} {K : PySem.W.Frag} (c : Hq2.Says hS h K) : PySem.W.isFn K (.ref (He.ma K (He.ga K "Weather") "__init__")) = true := id (c.fact 11 rfl)
theorem h_kp_Weather_init {h : Heap} {K : PySem.W.Frag} (c : Hq2.Says hS h K) : PySem.W.keepIn K (.ref (He.ma K (He.ga K "Weather") "__init__")) = true := id (c.fact 12 rfl)
theorem h_mk_Weather {h : Heap} {K : PySem.W.Frag} (c : Hq2.Says hS h K) : PySem.W.makesIn K (He.ga K "Weather") = true := id (c.fact 13 rfl)
theorem h_kc_Weather {h : Heap} {K : PySem.W.Frag} (c : Hq2.Says hS h K) : PySem.W.keepIn K (.ref (He.ga K "Weather")) = true := id (c.fact 14 rfl)
theorem h_cm_Weather_constant {h : Heap} {K : PySem.W.Frag} (c : Hq2.Says hS h K) : He5.wrapB K (He.ga K "Weather") "classmethod" "classmethod.__get__" "constant" = true ∧ PySem.W.fnIn K (He5.wf K (He.ga K "Weather") "classmethod" "constant") = true := He.ba (c.fact 15 rfl)
theorem h_kp_Weather_constant {h : Heap} {K : PySem.W.Frag} (c : Hq2.Says hS h K) : PySem.W.keepIn K (.ref (He5.wf K (He.ga K "Weather") "classmethod" "constant")) = true := id (c.fact 16 rfl)
theorem h_at_Weather_len {h : Heap} {K : PySem.W.Frag} (c : Hq2.Says hS h K) : PySem.W.findIn K (.ref (He.ga K "Weather")) "__len__" = some (some (.ref (He.ma K (He.ga K "Weather") "__len__"))) := He.eqO_ok (c.fact 17 rfl)
theorem h_fn_Weather_len {h : Heap} {K : PySem.W.Frag} (c : Hq2.Says hS h K) : PySem.W.isFn K (.ref (He.ma K (He.ga K "Weather") "__len__")) = true := id (c.fact 18 rfl)
theorem h_kp_Weather_len {h : Heap} {K : PySem.W.Frag} (c : Hq2.Says hS h K) : PySem.W.keepIn K (.ref (He.ma K (He.ga K "Weather") "__len__")) = true := id (c.fact 19 rfl)
theorem h_at_Weather_add {h : Heap} {K : PySem.W.Frag} (c : Hq2.Says hS h K) : PySem.W.findIn K (.ref (He.ga K "Weather")) "__add__" = some (some (.ref (He.ma K (He.ga K "Weather") "__add__"))) := He.eqO_ok (c.fact 20 rfl)
theorem h_fn_Weather_add {h : Heap} {K : PySem.W.Frag} (c : Hq2.Says hS h K) : PySem.W.isFn K (.ref (He.ma K (He.ga K "Weather") "__add__")) = true := id (c.fact 21 rfl)
theorem h_kp_Weather_add {h : Heap} {K : PySem.W.Frag} (c : Hq2.Says hS h K) : PySem.W.keepIn K (.ref (He.ma K (He.ga K "Weather") "__add__")) = true := id (c.fact 22 rfl)
theorem h_at__law_mix {h : Heap} {K : PySem.W.Frag} (c : Hq2.Says hS h K) : PySem.W.nsIn K mainGlobals "_law_mix" = some (some (.ref (He.ga K "_law_mix"))) := He.eqO_ok (c.fact 23 rfl)
theorem h_kp__law_mix {h : Heap} {K : PySem.W.Frag} (c : Hq2.Says hS h K) : PySem.W.keepIn K (.ref (He.ga K "_law_mix")) = true := id (c.fact 24 rfl)
theorem h_at__law_next {h : Heap} {K : PySem.W.Frag} (c : Hq2.Says hS h K) : PySem.W.nsIn K mainGlobals "_law_next" = some (some (.ref (He.ga K "_law_next"))) := He.eqO_ok (c.fact 25 rfl)
theorem h_kp__law_next {h : Heap} {K : PySem.W.Frag} (c : Hq2.Says hS h K) : PySem.W.keepIn K (.ref (He.ga K "_law_next")) = true := id (c.fact 26 rfl)
theorem h_at__law_alike {h : Heap} {K : PySem.W.Frag} (c : Hq2.Says hS h K) : PySem.W.nsIn K mainGlobals "_law_alike" = some (some (.ref (He.ga K "_law_alike"))) := He.eqO_ok (c.fact 27 rfl)
theorem h_kp__law_alike {h : Heap} {K : PySem.W.Frag} (c : Hq2.Says hS h K) : PySem.W.keepIn K (.ref (He.ga K "_law_alike")) = true := id (c.fact 28 rfl)
theorem h_at__law_error {h : Heap} {K : PySem.W.Frag} (c : Hq2.Says hS h K) : PySem.W.nsIn K mainGlobals "_law_error" = some (some (.ref (He.ga K "_law_error"))) := He.eqO_ok (c.fact 29 rfl)
theorem h_kp__law_error {h : Heap} {K : PySem.W.Frag} (c : Hq2.Says hS h K) : PySem.W.keepIn K (.ref (He.ga K "_law_error")) = true := id (c.fact 30 rfl)
theorem h_at__law_changes {h : Heap} {K : PySem.W.Frag} (c : Hq2.Says hS h K) : PySem.W.nsIn K mainGlobals "_law_changes" = some (some (.ref (He.ga K "_law_changes"))) := He.eqO_ok (c.fact 31 rfl)
theorem h_kp__law_changes {h : Heap} {K : PySem.W.Frag} (c : Hq2.Says hS h K) : PySem.W.keepIn K (.ref (He.ga K "_law_changes")) = true := id (c.fact 32 rfl)
theorem h_at__law_weather {h : Heap} {K : PySem.W.Frag} (c : Hq2.Says hS h K) : PySem.W.nsIn K mainGlobals "_law_weather" = some (some (.ref (He.ga K "_law_weather"))) := He.eqO_ok (c.fact 33 rfl)
theorem h_kp__law_weather {h : Heap} {K : PySem.W.Frag} (c : Hq2.Says hS h K) : PySem.W.keepIn K (.ref (He.ga K "_law_weather")) = true := id (c.fact 34 rfl)
theorem h_at_law {h : Heap} {K : PySem.W.Frag} (c : Hq2.Says hS h K) : PySem.W.nsIn K mainGlobals "law" = some (some (.ref (He.ga K "law"))) := He.eqO_ok (c.fact 35 rfl)
theorem h_kp_law {h : Heap} {K : PySem.W.Frag} (c : Hq2.Says hS h K) : PySem.W.keepIn K (.ref (He.ga K "law")) = true := id (c.fact 36 rfl)
theorem h_at_Weather_changes {h : Heap} {K : PySem.W.Frag} (c : Hq2.Says hS h K) : PySem.W.findIn K (.ref (He.ga K "Weather")) "changes" = some (some (.ref (He.ma K (He.ga K "Weather") "changes"))) := He.eqO_ok (c.fact 37 rfl)
theorem h_gt_Weather_changes {h : Heap} {K : PySem.W.Frag} (c : Hq2.Says hS h K) : PySem.W.specialIn K (.ref (He.ma K (He.ga K "Weather") "changes")) "__get__" = some (some (.builtin "property.__get__")) := He.eqO_ok (c.fact 38 rfl)
theorem h_tk_Weather_changes {h : Heap} {K : PySem.W.Frag} (c : Hq2.Says hS h K) : PySem.W.takesIn K (.ref (He.ma K (He.ga K "Weather") "changes")) = some true := of_decide_eq_true (c.fact 39 rfl)
theorem h_rc_Weather_changes {h : Heap} {K : PySem.W.Frag} (c : Hq2.Says hS h K) : PySem.W.recIn K (He.ma K (He.ga K "Weather") "changes") "property" = some (.ref (Hq.gtA K (He.ma K (He.ga K "Weather") "changes")) :: Hq.gtR K (He.ma K (He.ga K "Weather") "changes")) := Hq.gtB_ok (c.fact 40 rfl)
theorem h_kp_Weather_changes {h : Heap} {K : PySem.W.Frag} (c : Hq2.Says hS h K) : PySem.W.keepIn K (.ref (Hq.gtA K (He.ma K (He.ga K "Weather") "changes"))) = true := id (c.fact 41 rfl)
theorem h_gl_lcm {h : Heap} {K : PySem.W.Frag} (c : Hq2.Says hS h K) : PySem.W.nsIn K mainGlobals "lcm" = some (some (.builtin "math.lcm")) := He.eqO_ok (c.fact 42 rfl)
theorem h_z_bool {h : Heap} {K : PySem.W.Frag} (c : Hq2.Says hS h K) : PySem.W.nsIn K mainGlobals "bool" = some none := He.eqO_ok (c.fact 43 rfl)
theorem h_z_dict {h : Heap} {K : PySem.W.Frag} (c : Hq2.Says hS h K) : PySem.W.nsIn K mainGlobals "dict" = some none := He.eqO_ok (c.fact 44 rfl)
theorem h_z_enumerate {h : Heap} {K : PySem.W.Frag} (c : Hq2.Says hS h K) : PySem.W.nsIn K mainGlobals "enumerate" = some none := He.eqO_ok (c.fact 45 rfl)
theorem h_z_int {h : Heap} {K : PySem.W.Frag} (c : Hq2.Says hS h K) : PySem.W.nsIn K mainGlobals "int" = some none := He.eqO_ok (c.fact 46 rfl)
theorem h_z_isinstance {h : Heap} {K : PySem.W.Frag} (c : Hq2.Says hS h K) : PySem.W.nsIn K mainGlobals "isinstance" = some none := He.eqO_ok (c.fact 47 rfl)
theorem h_z_len {h : Heap} {K : PySem.W.Frag} (c : Hq2.Says hS h K) : PySem.W.nsIn K mainGlobals "len" = some none := He.eqO_ok (c.fact 48 rfl)
theorem h_z_list {h : Heap} {K : PySem.W.Frag} (c : Hq2.Says hS h K) : PySem.W.nsIn K mainGlobals "list" = some none := He.eqO_ok (c.fact 49 rfl)
theorem h_z_max {h : Heap} {K : PySem.W.Frag} (c : Hq2.Says hS h K) : PySem.W.nsIn K mainGlobals "max" = some none := He.eqO_ok (c.fact 50 rfl)
theorem h_z_min {h : Heap} {K : PySem.W.Frag} (c : Hq2.Says hS h K) : PySem.W.nsIn K mainGlobals "min" = some none := He.eqO_ok (c.fact 51 rfl)
theorem h_z_range {h : Heap} {K : PySem.W.Frag} (c : Hq2.Says hS h K) : PySem.W.nsIn K mainGlobals "range" = some none := He.eqO_ok (c.fact 52 rfl)
theorem h_z_sorted {h : Heap} {K : PySem.W.Frag} (c : Hq2.Says hS h K) : PySem.W.nsIn K mainGlobals "sorted" = some none := He.eqO_ok (c.fact 53 rfl)
theorem h_z_str {h : Heap} {K : PySem.W.Frag} (c : Hq2.Says hS h K) : PySem.W.nsIn K mainGlobals "str" = some none := He.eqO_ok (c.fact 54 rfl)
theorem h_z_tuple {h : Heap} {K : PySem.W.Frag} (c : Hq2.Says hS h K) : PySem.W.nsIn K mainGlobals "tuple" = some none := He.eqO_ok (c.fact 55 rfl)
theorem h_cv_Weather_MAX_CHANGE {h : Heap} {K : PySem.W.Frag} (c : Hq2.Says hS h K) : ∃ t, PySem.W.findIn K (.ref (He.ga K "Weather")) "MAX_CHANGE" = some (some (.int 100 t)) ∧ PySem.W.specialIn K (.int 100 t) "__get__" = some none := Hq.cvB_ok (c.fact 56 rfl)
theorem h_cv_Weather_MAX_TICKS {h : Heap} {K : PySem.W.Frag} (c : Hq2.Says hS h K) : ∃ t, PySem.W.findIn K (.ref (He.ga K "Weather")) "MAX_TICKS" = some (some (.int 24 t)) ∧ PySem.W.specialIn K (.int 24 t) "__get__" = some none := Hq.cvB_ok (c.fact 57 rfl)
theorem h_er {h : Heap} {K : PySem.W.Frag} (c : Hq2.Says hS h K) : (erL K hR.prog.main.file).all id = true := id (c.fact 58 rfl)
theorem h_wt {h : Heap} {K : PySem.W.Frag} (c : Hq2.Says hS h K) : (wtL K).all id = true := id (c.fact 59 rfl)
theorem h_def_first_invalid {h : Heap} {K : PySem.W.Frag} (c : Hq2.Says hS h K) : Hq.mo K (He.ga K "first_invalid") = Hq.mv "first_invalid" "first_invalid" s_first_invalid := c.fn 0 rfl
theorem h_co_first_invalid {h : Heap} {K : PySem.W.Frag} (c : Hq2.Says hS h K) : Hq.coB K (He.ga K "first_invalid") "first_invalid" = true := c.fact 60 rfl
theorem h_def_added_rounds {h : Heap} {K : PySem.W.Frag} (c : Hq2.Says hS h K) : Hq.mo K (He.ga K "added_rounds") = Hq.mv "added_rounds" "added_rounds" s_added_rounds := c.fn 1 rfl
theorem h_co_added_rounds {h : Heap} {K : PySem.W.Frag} (c : Hq2.Says hS h K) : Hq.coB K (He.ga K "added_rounds") "added_rounds" = true := c.fact 61 rfl
theorem h_def_Weather_init {h : Heap} {K : PySem.W.Frag} (c : Hq2.Says hS h K) : Hq.mo K (He.ma K (He.ga K "Weather") "__init__") = Hq.mv "__init__" "Weather.__init__" s_Weather_init := c.fn 2 rfl
theorem h_co_Weather_init {h : Heap} {K : PySem.W.Frag} (c : Hq2.Says hS h K) : Hq.coB K (He.ma K (He.ga K "Weather") "__init__") "Weather.__init__" = true := c.fact 62 rfl
theorem h_def_Weather_constant {h : Heap} {K : PySem.W.Frag} (c : Hq2.Says hS h K) : Hq.mo K (He5.wf K (He.ga K "Weather") "classmethod" "constant") = Hq.mv "constant" "Weather.constant" s_Weather_constant := c.fn 3 rfl
theorem h_co_Weather_constant {h : Heap} {K : PySem.W.Frag} (c : Hq2.Says hS h K) : Hq.coB K (He5.wf K (He.ga K "Weather") "classmethod" "constant") "Weather.constant" = true := c.fact 63 rfl
theorem h_def_Weather_len {h : Heap} {K : PySem.W.Frag} (c : Hq2.Says hS h K) : Hq.mo K (He.ma K (He.ga K "Weather") "__len__") = Hq.mv "__len__" "Weather.__len__" s_Weather_len := c.fn 4 rfl
theorem h_co_Weather_len {h : Heap} {K : PySem.W.Frag} (c : Hq2.Says hS h K) : Hq.coB K (He.ma K (He.ga K "Weather") "__len__") "Weather.__len__" = true := c.fact 64 rfl
theorem h_def_Weather_add {h : Heap} {K : PySem.W.Frag} (c : Hq2.Says hS h K) : Hq.mo K (He.ma K (He.ga K "Weather") "__add__") = Hq.mv "__add__" "Weather.__add__" s_Weather_add := c.fn 5 rfl
theorem h_co_Weather_add {h : Heap} {K : PySem.W.Frag} (c : Hq2.Says hS h K) : Hq.coB K (He.ma K (He.ga K "Weather") "__add__") "Weather.__add__" = true := c.fact 65 rfl
theorem h_def__law_mix {h : Heap} {K : PySem.W.Frag} (c : Hq2.Says hS h K) : Hq.mo K (He.ga K "_law_mix") = Hq.mv "_law_mix" "_law_mix" s__law_mix := c.fn 6 rfl
theorem h_co__law_mix {h : Heap} {K : PySem.W.Frag} (c : Hq2.Says hS h K) : Hq.coB K (He.ga K "_law_mix") "_law_mix" = true := c.fact 66 rfl
theorem h_def__law_next {h : Heap} {K : PySem.W.Frag} (c : Hq2.Says hS h K) : Hq.mo K (He.ga K "_law_next") = Hq.mv "_law_next" "_law_next" s__law_next := c.fn 7 rfl
theorem h_co__law_next {h : Heap} {K : PySem.W.Frag} (c : Hq2.Says hS h K) : Hq.coB K (He.ga K "_law_next") "_law_next" = true := c.fact 67 rfl
theorem h_def__law_alike {h : Heap} {K : PySem.W.Frag} (c : Hq2.Says hS h K) : Hq.mo K (He.ga K "_law_alike") = Hq.mv "_law_alike" "_law_alike" s__law_alike := c.fn 8 rfl
theorem h_co__law_alike {h : Heap} {K : PySem.W.Frag} (c : Hq2.Says hS h K) : Hq.coB K (He.ga K "_law_alike") "_law_alike" = true := c.fact 68 rfl
theorem h_def__law_error {h : Heap} {K : PySem.W.Frag} (c : Hq2.Says hS h K) : Hq.mo K (He.ga K "_law_error") = Hq.mv "_law_error" "_law_error" s__law_error := c.fn 9 rfl
theorem h_co__law_error {h : Heap} {K : PySem.W.Frag} (c : Hq2.Says hS h K) : Hq.coB K (He.ga K "_law_error") "_law_error" = true := c.fact 69 rfl
theorem h_def__law_changes {h : Heap} {K : PySem.W.Frag} (c : Hq2.Says hS h K) : Hq.mo K (He.ga K "_law_changes") = Hq.mv "_law_changes" "_law_changes" s__law_changes := c.fn 10 rfl
theorem h_co__law_changes {h : Heap} {K : PySem.W.Frag} (c : Hq2.Says hS h K) : Hq.coB K (He.ga K "_law_changes") "_law_changes" = true := c.fact 70 rfl
theorem h_def__law_weather {h : Heap} {K : PySem.W.Frag} (c : Hq2.Says hS h K) : Hq.mo K (He.ga K "_law_weather") = Hq.mv "_law_weather" "_law_weather" s__law_weather := c.fn 11 rfl
theorem h_co__law_weather {h : Heap} {K : PySem.W.Frag} (c : Hq2.Says hS h K) : Hq.coB K (He.ga K "_law_weather") "_law_weather" = true := c.fact 71 rfl
theorem h_def_law {h : Heap} {K : PySem.W.Frag} (c : Hq2.Says hS h K) : Hq.mo K (He.ga K "law") = Hq.mv "law" "law" s_law := c.fn 12 rfl
theorem h_co_law {h : Heap} {K : PySem.W.Frag} (c : Hq2.Says hS h K) : Hq.coB K (He.ga K "law") "law" = true := c.fact 72 rfl
theorem h_def_Weather_changes {h : Heap} {K : PySem.W.Frag} (c : Hq2.Says hS h K) : Hq.mo K (Hq.gtA K (He.ma K (He.ga K "Weather") "changes")) = Hq.mv "changes" "Weather.changes" s_Weather_changes := c.fn 13 rfl
theorem h_co_Weather_changes {h : Heap} {K : PySem.W.Frag} (c : Hq2.Says hS h K) : Hq.coB K (Hq.gtA K (He.ma K (He.ga K "Weather") "changes")) "Weather.changes" = true := c.fact 73 rfl
set_option maxHeartbeats 0 in
theorem hfacts {w : World} {K : PySem.W.Frag} {h : Heap} {mg : Str → Option Value} {fa : Addr} (X : K.In h) (G : h.Ns mainGlobals mg) (hfa : mg ("law" : Str) = some (.ref fa)) (c : Hq2.Says hS h K) : LamX.LawAtS PySem.Challenge.rw_warmswitch_k01_weather_validated w K L2.CX0 12 63 "_law_script" mg fa h := by
  have ns_Weather := h_ns_Weather c
  have pg_Weather := h_pg_Weather c
  have hd_Weather := h_hd_Weather c
  have po_Weather := h_po_Weather c
  have sa_Weather := h_sa_Weather c
  have na_Weather__changes := h_na_Weather__changes c
  have at_first_invalid := h_at_first_invalid c
  have kp_first_invalid := h_kp_first_invalid c
  have at_added_rounds := h_at_added_rounds c
  have kp_added_rounds := h_kp_added_rounds c
  have at_Weather_init := h_at_Weather_init c
  have fn_Weather_init := h_fn_Weather_init c
  have kp_Weather_init := h_kp_Weather_init c
  have mk_Weather := h_mk_Weather c
  have kc_Weather := h_kc_Weather c
  have cm_Weather_constant := He5.cmet_of (h_cm_Weather_constant c).1 (h_cm_Weather_constant c).2
  have kp_Weather_constant := h_kp_Weather_constant c
  have at_Weather_len := h_at_Weather_len c
  have fn_Weather_len := h_fn_Weather_len c
  have kp_Weather_len := h_kp_Weather_len c
  have at_Weather_add := h_at_Weather_add c
  have fn_Weather_add := h_fn_Weather_add c
  have kp_Weather_add := h_kp_Weather_add c
  have at__law_mix := h_at__law_mix c
  have kp__law_mix := h_kp__law_mix c
  have at__law_next := h_at__law_next c
  have kp__law_next := h_kp__law_next c
  have at__law_alike := h_at__law_alike c
  have kp__law_alike := h_kp__law_alike c
  have at__law_error := h_at__law_error c
  have kp__law_error := h_kp__law_error c
  have at__law_changes := h_at__law_changes c
  have kp__law_changes := h_kp__law_changes c
  have at__law_weather := h_at__law_weather c
  have kp__law_weather := h_kp__law_weather c
  have at_law := h_at_law c
  have kp_law := h_kp_law c
  have at_Weather_changes := h_at_Weather_changes c
  have gt_Weather_changes := h_gt_Weather_changes c
  have tk_Weather_changes := h_tk_Weather_changes c
  have rc_Weather_changes := h_rc_Weather_changes c
  have kp_Weather_changes := h_kp_Weather_changes c
  have gl_lcm := h_gl_lcm c
  have z_bool := h_z_bool c
  have z_dict := h_z_dict c
  have z_enumerate := h_z_enumerate c
  have z_int := h_z_int c
  have z_isinstance := h_z_isinstance c
  have z_len := h_z_len c
  have z_list := h_z_list c
  have z_max := h_z_max c
  have z_min := h_z_min c
  have z_range := h_z_range c
  have z_sorted := h_z_sorted c
  have z_str := h_z_str c
  have z_tuple := h_z_tuple c
  obtain ⟨t_Weather_MAX_CHANGE, cv_Weather_MAX_CHANGE, gg_Weather_MAX_CHANGE⟩ := h_cv_Weather_MAX_CHANGE c
  obtain ⟨t_Weather_MAX_TICKS, cv_Weather_MAX_TICKS, gg_Weather_MAX_TICKS⟩ := h_cv_Weather_MAX_TICKS c
  obtain ⟨oc_first_invalid, od_first_invalid, osl_first_invalid, kV_first_invalid, dc_first_invalid, pm_first_invalid, an_first_invalid, cd_first_invalid, ct_first_invalid, lk_first_invalid, co_first_invalid⟩ := Hq.mo_ok (h_def_first_invalid c) (h_co_first_invalid c)
  obtain ⟨oc_added_rounds, od_added_rounds, osl_added_rounds, kV_added_rounds, dc_added_rounds, pm_added_rounds, an_added_rounds, cd_added_rounds, ct_added_rounds, lk_added_rounds, co_added_rounds⟩ := Hq.mo_ok (h_def_added_rounds c) (h_co_added_rounds c)
  obtain ⟨oc_Weather_init, od_Weather_init, osl_Weather_init, kV_Weather_init, dc_Weather_init, pm_Weather_init, an_Weather_init, cd_Weather_init, ct_Weather_init, lk_Weather_init, co_Weather_init⟩ := Hq.mo_ok (h_def_Weather_init c) (h_co_Weather_init c)
  obtain ⟨oc_Weather_constant, od_Weather_constant, osl_Weather_constant, kV_Weather_constant, dc_Weather_constant, pm_Weather_constant, an_Weather_constant, cd_Weather_constant, ct_Weather_constant, lk_Weather_constant, co_Weather_constant⟩ := Hq.mo_ok (h_def_Weather_constant c) (h_co_Weather_constant c)
  obtain ⟨oc_Weather_len, od_Weather_len, osl_Weather_len, kV_Weather_len, dc_Weather_len, pm_Weather_len, an_Weather_len, cd_Weather_len, ct_Weather_len, lk_Weather_len, co_Weather_len⟩ := Hq.mo_ok (h_def_Weather_len c) (h_co_Weather_len c)
  obtain ⟨oc_Weather_add, od_Weather_add, osl_Weather_add, kV_Weather_add, dc_Weather_add, pm_Weather_add, an_Weather_add, cd_Weather_add, ct_Weather_add, lk_Weather_add, co_Weather_add⟩ := Hq.mo_ok (h_def_Weather_add c) (h_co_Weather_add c)
  obtain ⟨oc__law_mix, od__law_mix, osl__law_mix, kV__law_mix, dc__law_mix, pm__law_mix, an__law_mix, cd__law_mix, ct__law_mix, lk__law_mix, co__law_mix⟩ := Hq.mo_ok (h_def__law_mix c) (h_co__law_mix c)
  obtain ⟨oc__law_next, od__law_next, osl__law_next, kV__law_next, dc__law_next, pm__law_next, an__law_next, cd__law_next, ct__law_next, lk__law_next, co__law_next⟩ := Hq.mo_ok (h_def__law_next c) (h_co__law_next c)
  obtain ⟨oc__law_alike, od__law_alike, osl__law_alike, kV__law_alike, dc__law_alike, pm__law_alike, an__law_alike, cd__law_alike, ct__law_alike, lk__law_alike, co__law_alike⟩ := Hq.mo_ok (h_def__law_alike c) (h_co__law_alike c)
  obtain ⟨oc__law_error, od__law_error, osl__law_error, kV__law_error, dc__law_error, pm__law_error, an__law_error, cd__law_error, ct__law_error, lk__law_error, co__law_error⟩ := Hq.mo_ok (h_def__law_error c) (h_co__law_error c)
  obtain ⟨oc__law_changes, od__law_changes, osl__law_changes, kV__law_changes, dc__law_changes, pm__law_changes, an__law_changes, cd__law_changes, ct__law_changes, lk__law_changes, co__law_changes⟩ := Hq.mo_ok (h_def__law_changes c) (h_co__law_changes c)
  obtain ⟨oc__law_weather, od__law_weather, osl__law_weather, kV__law_weather, dc__law_weather, pm__law_weather, an__law_weather, cd__law_weather, ct__law_weather, lk__law_weather, co__law_weather⟩ := Hq.mo_ok (h_def__law_weather c) (h_co__law_weather c)
  obtain ⟨oc_law, od_law, osl_law, kV_law, dc_law, pm_law, an_law, cd_law, ct_law, lk_law, co_law⟩ := Hq.mo_ok (h_def_law c) (h_co_law c)
  obtain ⟨oc_Weather_changes, od_Weather_changes, osl_Weather_changes, kV_Weather_changes, dc_Weather_changes, pm_Weather_changes, an_Weather_changes, cd_Weather_changes, ct_Weather_changes, lk_Weather_changes, co_Weather_changes⟩ := Hq.mo_ok (h_def_Weather_changes c) (h_co_Weather_changes c)
  have ea := hfa.symm.trans (PySem.W.mg_of X G at_law)
  have ea : fa = He.ga K "law" := by injection ea with ea; injection ea
  obtain ⟨cl, ecl⟩ := He.codeIn_ref co_law
  have ecT : He.cT K ("law", none) = (cl, He.tabOf K cl) := by
    have e : He.codeOf K ("law", none) = cl := He.codeOf_eq (p := ("law", none)) lk_law ecl
    unfold He.cT
    rw [e]
  have T : Txt K mg {
      c_Weather := He.ga K "Weather"
      f_first_invalid := (He.ga K "first_invalid")
      d_first_invalid := PySem.W.fnOf "first_invalid" "first_invalid" (defArgs s_first_invalid) (defBody s_first_invalid) (defScope s_first_invalid) .none kV_first_invalid dc_first_invalid pm_first_invalid an_first_invalid cd_first_invalid ct_first_invalid
      f_added_rounds := (He.ga K "added_rounds")
      d_added_rounds := PySem.W.fnOf "added_rounds" "added_rounds" (defArgs s_added_rounds) (defBody s_added_rounds) (defScope s_added_rounds) .none kV_added_rounds dc_added_rounds pm_added_rounds an_added_rounds cd_added_rounds ct_added_rounds
      f_Weather_init := (He.ma K (He.ga K "Weather") "__init__")
      d_Weather_init := PySem.W.fnOf "__init__" "Weather.__init__" (defArgs s_Weather_init) (defBody s_Weather_init) (defScope s_Weather_init) .none kV_Weather_init dc_Weather_init pm_Weather_init an_Weather_init cd_Weather_init ct_Weather_init
      f_Weather_constant := (He5.wf K (He.ga K "Weather") "classmethod" "constant")
      d_Weather_constant := PySem.W.fnOf "constant" "Weather.constant" (defArgs s_Weather_constant) (defBody s_Weather_constant) (defScope s_Weather_constant) .none kV_Weather_constant dc_Weather_constant pm_Weather_constant an_Weather_constant cd_Weather_constant ct_Weather_constant
      f_Weather_len := (He.ma K (He.ga K "Weather") "__len__")
      d_Weather_len := PySem.W.fnOf "__len__" "Weather.__len__" (defArgs s_Weather_len) (defBody s_Weather_len) (defScope s_Weather_len) .none kV_Weather_len dc_Weather_len pm_Weather_len an_Weather_len cd_Weather_len ct_Weather_len
      f_Weather_add := (He.ma K (He.ga K "Weather") "__add__")
      d_Weather_add := PySem.W.fnOf "__add__" "Weather.__add__" (defArgs s_Weather_add) (defBody s_Weather_add) (defScope s_Weather_add) .none kV_Weather_add dc_Weather_add pm_Weather_add an_Weather_add cd_Weather_add ct_Weather_add
      f__law_mix := (He.ga K "_law_mix")
      d__law_mix := PySem.W.fnOf "_law_mix" "_law_mix" (defArgs s__law_mix) (defBody s__law_mix) (defScope s__law_mix) .none kV__law_mix dc__law_mix pm__law_mix an__law_mix cd__law_mix ct__law_mix
      f__law_next := (He.ga K "_law_next")
      d__law_next := PySem.W.fnOf "_law_next" "_law_next" (defArgs s__law_next) (defBody s__law_next) (defScope s__law_next) .none kV__law_next dc__law_next pm__law_next an__law_next cd__law_next ct__law_next
      f__law_alike := (He.ga K "_law_alike")
      d__law_alike := PySem.W.fnOf "_law_alike" "_law_alike" (defArgs s__law_alike) (defBody s__law_alike) (defScope s__law_alike) .none kV__law_alike dc__law_alike pm__law_alike an__law_alike cd__law_alike ct__law_alike
      f__law_error := (He.ga K "_law_error")
      d__law_error := PySem.W.fnOf "_law_error" "_law_error" (defArgs s__law_error) (defBody s__law_error) (defScope s__law_error) .none kV__law_error dc__law_error pm__law_error an__law_error cd__law_error ct__law_error
      f__law_changes := (He.ga K "_law_changes")
      d__law_changes := PySem.W.fnOf "_law_changes" "_law_changes" (defArgs s__law_changes) (defBody s__law_changes) (defScope s__law_changes) .none kV__law_changes dc__law_changes pm__law_changes an__law_changes cd__law_changes ct__law_changes
      f__law_weather := (He.ga K "_law_weather")
      d__law_weather := PySem.W.fnOf "_law_weather" "_law_weather" (defArgs s__law_weather) (defBody s__law_weather) (defScope s__law_weather) .none kV__law_weather dc__law_weather pm__law_weather an__law_weather cd__law_weather ct__law_weather
      f_law := (He.ga K "law")
      d_law := PySem.W.fnOf "law" "law" (defArgs s_law) (defBody s_law) (defScope s_law) .none kV_law dc_law pm_law an_law cd_law ct_law
      f_Weather_changes := (Hq.gtA K (He.ma K (He.ga K "Weather") "changes"))
      d_Weather_changes := PySem.W.fnOf "changes" "Weather.changes" (defArgs s_Weather_changes) (defBody s_Weather_changes) (defScope s_Weather_changes) .none kV_Weather_changes dc_Weather_changes pm_Weather_changes an_Weather_changes cd_Weather_changes ct_Weather_changes
      p_Weather_changes := He.ma K (He.ga K "Weather") "changes"
      p_Weather_constant := He.ma K (He.ga K "Weather") "constant"
      c_Heater := 0
      c_Drift := 0
      c_Stretch := 0
      c_Timeline := 0
      c_Course := 0
      c_HeatingSum := 0
      c_Room := 0 } := {
      cl_Weather := ⟨pg_Weather, hd_Weather, po_Weather, sa_Weather⟩
      mg_Weather := PySem.W.mg_of X G ns_Weather
      na_Weather__changes := na_Weather__changes
      F_first_invalid := fun_mk (st := s_first_invalid) lk_first_invalid co_first_invalid kp_first_invalid
      mg_first_invalid := PySem.W.mg_of X G at_first_invalid
      F_added_rounds := fun_mk (st := s_added_rounds) lk_added_rounds co_added_rounds kp_added_rounds
      mg_added_rounds := PySem.W.mg_of X G at_added_rounds
      F_Weather_init := fun_mk (st := s_Weather_init) lk_Weather_init co_Weather_init kp_Weather_init
      mk_Weather := ⟨mk_Weather, at_Weather_init, fn_Weather_init, kc_Weather⟩
      F_Weather_constant := fun_mk (st := s_Weather_constant) lk_Weather_constant co_Weather_constant kp_Weather_constant
      cm_Weather_constant := cm_Weather_constant
      F_Weather_len := fun_mk (st := s_Weather_len) lk_Weather_len co_Weather_len kp_Weather_len
      me_Weather_len := ⟨at_Weather_len, fn_Weather_len, kp_Weather_len⟩
      F_Weather_add := fun_mk (st := s_Weather_add) lk_Weather_add co_Weather_add kp_Weather_add
      me_Weather_add := ⟨at_Weather_add, fn_Weather_add, kp_Weather_add⟩
      F__law_mix := fun_mk (st := s__law_mix) lk__law_mix co__law_mix kp__law_mix
      mg__law_mix := PySem.W.mg_of X G at__law_mix
      F__law_next := fun_mk (st := s__law_next) lk__law_next co__law_next kp__law_next
      mg__law_next := PySem.W.mg_of X G at__law_next
      F__law_alike := fun_mk (st := s__law_alike) lk__law_alike co__law_alike kp__law_alike
      mg__law_alike := PySem.W.mg_of X G at__law_alike
      F__law_error := fun_mk (st := s__law_error) lk__law_error co__law_error kp__law_error
      mg__law_error := PySem.W.mg_of X G at__law_error
      F__law_changes := fun_mk (st := s__law_changes) lk__law_changes co__law_changes kp__law_changes
      mg__law_changes := PySem.W.mg_of X G at__law_changes
      F__law_weather := fun_mk (st := s__law_weather) lk__law_weather co__law_weather kp__law_weather
      mg__law_weather := PySem.W.mg_of X G at__law_weather
      F_law := fun_mk (st := s_law) lk_law co_law kp_law
      mg_law := PySem.W.mg_of X G at_law
      pr_Weather_changes := ⟨at_Weather_changes, gt_Weather_changes, tk_Weather_changes, _, rc_Weather_changes⟩
      F_Weather_changes := fun_mk (st := s_Weather_changes) lk_Weather_changes co_Weather_changes kp_Weather_changes
      mg_lcm := PySem.W.mg_of X G gl_lcm
      z_bool := PySem.W.mg_none_of X G z_bool
      z_dict := PySem.W.mg_none_of X G z_dict
      z_enumerate := PySem.W.mg_none_of X G z_enumerate
      z_int := PySem.W.mg_none_of X G z_int
      z_isinstance := PySem.W.mg_none_of X G z_isinstance
      z_len := PySem.W.mg_none_of X G z_len
      z_list := PySem.W.mg_none_of X G z_list
      z_max := PySem.W.mg_none_of X G z_max
      z_min := PySem.W.mg_none_of X G z_min
      z_range := PySem.W.mg_none_of X G z_range
      z_sorted := PySem.W.mg_none_of X G z_sorted
      z_str := PySem.W.mg_none_of X G z_str
      z_tuple := PySem.W.mg_none_of X G z_tuple
      cv_Weather_MAX_CHANGE := ⟨_, ⟨cv_Weather_MAX_CHANGE, ⟨_, rfl⟩, gg_Weather_MAX_CHANGE, by decide +kernel⟩⟩
      cv_Weather_MAX_TICKS := ⟨_, ⟨cv_Weather_MAX_TICKS, ⟨_, rfl⟩, gg_Weather_MAX_TICKS, by decide +kernel⟩⟩ }
  have ER := erT_of (P := PySem.Challenge.rw_warmswitch_k01_weather_validated.prog) X G (h_er c) (c.fx 0 rfl) (by decide +kernel)
  have WT : ∀ {b : Ad}, Txt K mg b → b.c_Weather = He.ga K "Weather" → WTxt K b := fun _ e => wT_of e (h_wt c)
  have mem : (cl, He.tabOf K cl) ∈ hS.cs K := by rw [← ecT]; exact List.mem_singleton.mpr rfl
  refine ⟨PySem.W.fnOf "law" "law" (defArgs s_law) (defBody s_law) (defScope s_law) .none kV_law dc_law pm_law an_law cd_law ct_law, [(cl, He.tabOf K cl)], spLawE K (He.tabOf K cl), fun p hp => ?_, fun p hp => ?_, fun p hp => ?_, fun s v => .of_eq rfl, fun H a ns hl _ hT hS => ⟨a, ns, rfl, hS, hl, fun p hp => ?_, fun _ => rfl⟩, fun base _ _ TB => ?_⟩
  · rw [List.mem_singleton.mp hp]; exact c.empty _ mem
  · rw [List.mem_singleton.mp hp]; exact c.out _ mem
  · rw [List.mem_singleton.mp hp]; exact PySem.W.codeHd_of_K X (c.hd _ mem)
  · rw [List.mem_singleton.mp hp]; exact LamX.TabS.nil (hT _ (List.mem_singleton.mpr rfl))
  · rw [ea]; exact ok_law T ER (WT T rfl) ecl (TB _ (List.mem_singleton.mpr rfl))
def hn0 : List PySem.Str := ["_wall", "WarmthError", "InvalidWeather", "InvalidHeater", "InvalidNumber", "OtherWeather", "Contradiction", "check_number", "first_invalid", "sum_of_first", "same_rounds", "added_rounds", "MOST_TICKS", "Weather", "_law_mix", "_law_next", "_law_alike", "_law_error", "_law_changes", "_law_weather"]
def hn : List PySem.Str := hn0
abbrev hV : Program := PySem.W.view hR.prog [0, 25]
abbrev hk : PySem.W.Hook := Hq2.hook 5 hS
def hob (s : PySem.W.SharedT) : Hq2.Av × Bool := Hq2.obsG 5 hS (HandSHeadRun.getT s)
theorem hob_eq (s : PySem.W.SharedT) : hob s = hk.obs s.abs := Hq2.obsG_eq (HandSHeadRun.getT_eq s)
end W6

namespace W6
open PySem PySem.Spec PyProof.Rows L2 Ru StX
set_option maxHeartbeats 0 in
theorem hrun (w : World) : HandSHeadRun.RunEqI hR hV hk hob 40000 hn w := by
  unfold HandSHeadRun.RunEqI
  kernel_rfl
end W6

open PySem PySem.W PySem.Calls PyProof.Rows
set_option maxHeartbeats 0 in
theorem PySem.Challenge.cw_warmswitch_k01_weather_validated_holds : PySem.Challenge.rw_warmswitch_k01_weather_validated.Holds := by
  w_on; o_law
  refine HandSHeadRun.head_imp (r := OpenLaw.row PySem.Challenge.rw_warmswitch_k01_weather_validated) (q := W6.hV) (H := W6.hk) (ob := W6.hob) (M := 40000) (loose := W6.hn) (d := HandSHeadRun.topDef (OpenLaw.row PySem.Challenge.rw_warmswitch_k01_weather_validated).prog 25) (kwd := []) W6.hob_eq
    W6.hrun (by kernel_rfl) (by kernel_rfl) (by kernel_rfl) (by rfl) (by first | assumption | decide +kernel) (by decide +kernel) ⟨rfl, rfl, rfl, rfl, rfl, by decide +kernel⟩ ?hw ?hc
  case hw => w_witness2
  case hc =>
    refine Hq2.walk_tab (l := PySem.Challenge.rw_warmswitch_k01_weather_validated) (n := 63) (k := 12) (x := "_law_script") (CX := fun _ => L2.CX0) rfl (by decide) (by kernel_rfl) ⟨rfl, by decide, by decide⟩ ?F (fun _ _ _ _ _ z => z)
    intro w mg fa h Y G hmg0
    obtain ⟨K, KX, c⟩ := Y
    have hmg : mg ("law" : PySem.Str) = some (.ref fa) := by
      have e : (HandSHeadRun.topDef (OpenLaw.row PySem.Challenge.rw_warmswitch_k01_weather_validated).prog 25).name = ("law" : PySem.Str) := by kernel_rfl
      rw [← e]
      exact hmg0
    exact ⟨K, KX, W6.hfacts KX G hmg c⟩
#print axioms PySem.Challenge.cw_warmswitch_k01_weather_validated_holds

