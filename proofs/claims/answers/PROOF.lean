import PyProof.Rows.All
import Wide.All
import OpenK.AllK
import Wide.FinOn
import Open.SpecLaws
import KE.OsHead
import KE.OsGo
import KE.GoesEnum
import KE.GoesMore
import KE.GoesNew
import HandS.ForMost
import HandS.ForSpec
import HandS.CallLocal
import KE.OsSetLaws
import HandS.Flow
import PySem.Challenge.RW_wheeldrawn_s01_answers
set_option Elab.async false
set_option linter.all false
set_option maxRecDepth 100000
set_option maxHeartbeats 4000000
/-! The mathematics of the drawing wheel: what the program reckons is what the specification says. Plain Lean. -/
namespace Wd
/-- the specification's box: r teeth, wheels ws; there is none where r is 0 -/
def box (r : Nat) (ws : List Nat) : Mu53.Abs := if r = 0 then none else some ⟨r, ws⟩
theorem box_some {r : Nat} {ws : List Nat} (h : 0 < r) : box r ws = some ⟨r, ws⟩ := if_neg (by omega)
/-- what holds of a box between two calls -/
structure Good (r : Nat) (ws : List Nat) : Prop where
  none_ : r = 0 → ws = []
  low : r = 0 ∨ 3 ≤ r
  high : r ≤ 60
  six : ws.length ≤ 6
  each : ∀ w ∈ ws, 1 ≤ w ∧ w < r
theorem Good.start : Good 0 [] := ⟨fun _ => rfl, .inl rfl, by decide, by decide, fun w h => by simp at h⟩
theorem Good.fresh {r : Nat} (h : 3 ≤ r) (h' : r ≤ 60) : Good r [] := ⟨fun _ => rfl, .inr h, h', by decide, fun w h => by simp at h⟩
theorem Good.more {r w : Nat} {ws : List Nat} (G : Good r ws) (h : 1 ≤ w) (h' : w < r) (h6 : ws.length < 6) : Good r (ws ++ [w]) := by
  refine ⟨fun e => by omega, G.low, G.high, by rw [List.length_append]; simp; omega, fun x hx => ?_⟩
  rcases List.mem_append.mp hx with q | q
  · exact G.each x q
  · rw [List.mem_singleton.mp q]
    exact ⟨h, h'⟩
theorem Good.at {r i w : Nat} {ws : List Nat} (G : Good r ws) (h : ws[i]? = some w) : 1 ≤ w ∧ w < r := G.each w (List.mem_of_getElem? h)

/-! ### numbers -/
theorem points_pos {r w : Nat} (hr : 0 < r) : 0 < Mu53.points r w :=
  Nat.div_pos (Nat.gcd_le_left w hr) (Nat.gcd_pos_of_pos_left w hr)
theorem points_le (r w : Nat) : Mu53.points r w ≤ r := Nat.div_le_self ..
theorem gap_is {r w : Nat} (hr : 0 < r) : r / Mu53.points r w = Nat.gcd r w :=
  Nat.div_div_self (Nat.gcd_dvd_left r w) (by omega)
theorem points_mul {r w : Nat} : Mu53.points r w * w = r * Mu53.rounds r w := by
  unfold Mu53.points Mu53.rounds
  obtain ⟨a, ha⟩ := Nat.gcd_dvd_left r w
  obtain ⟨b, hb⟩ := Nat.gcd_dvd_right r w
  rcases Nat.eq_zero_or_pos (Nat.gcd r w) with z | z
  · rw [z]
    have : r = 0 := Nat.eq_zero_of_gcd_eq_zero_left z
    simp [this]
  · have e1 : r / Nat.gcd r w = a := by
      conv => lhs; lhs; rw [ha]
      exact Nat.mul_div_cancel_left a z
    have e2 : w / Nat.gcd r w = b := by
      conv => lhs; lhs; rw [hb]
      exact Nat.mul_div_cancel_left b z
    rw [e1, e2]
    calc a * w = a * (Nat.gcd r w * b) := by rw [← hb]
      _ = (Nat.gcd r w * a) * b := by rw [← Nat.mul_assoc, Nat.mul_comm a]
      _ = r * b := by rw [← ha]
theorem point_more (r w t k : Nat) : Mu53.point r w t (k + Mu53.points r w) = Mu53.point r w t k := by
  unfold Mu53.point
  rw [Nat.add_mul, points_mul, ← Nat.add_assoc, Nat.add_mul_mod_self_left]
theorem when_found {r w t x k : Nat} (hr : 0 < r) (hk : Mu53.point r w t k = x) (hm : ∀ j, j < k → Mu53.point r w t j ≠ x) : Mu53.when_ r w t x = some k := by
  have hp := points_pos (w := w) hr
  have hlt : k < Mu53.points r w := by
    rcases Nat.lt_or_ge k (Mu53.points r w) with h | h
    · exact h
    · exfalso
      refine hm (k - Mu53.points r w) (by omega) ?_
      have e := point_more r w t (k - Mu53.points r w)
      rw [Nat.sub_add_cancel h] at e
      rw [← e]
      exact hk
  unfold Mu53.when_
  rw [List.find?_range_eq_some]
  refine ⟨by rw [hk]; exact beq_self_eq_true x, by simpa using hlt, fun j hj => ?_⟩
  have := hm j hj
  simpa using this
theorem when_never {r w t x : Nat} (hm : ∀ j, j < r → Mu53.point r w t j ≠ x) : Mu53.when_ r w t x = none := by
  unfold Mu53.when_
  rw [List.find?_eq_none]
  intro j hj
  have h1 : j < Mu53.points r w := by simpa using hj
  have := hm j (Nat.lt_of_lt_of_le h1 (points_le r w))
  simpa using this
theorem rounds_pos {r w : Nat} (hw : 1 ≤ w) : 1 ≤ Mu53.rounds r w :=
  Nat.div_pos (Nat.gcd_le_right r hw) (Nat.gcd_pos_of_pos_right r hw)
theorem rounds_lt {r w : Nat} (hw : w < r) : Mu53.rounds r w < Mu53.points r w := by
  have hr : 0 < r := by omega
  rcases Nat.lt_or_ge (Mu53.rounds r w) (Mu53.points r w) with h | h
  · exact h
  · exfalso
    have e := points_mul (r := r) (w := w)
    have hp := points_pos (w := w) hr
    have h2 : r * Mu53.points r w ≤ r * Mu53.rounds r w := Nat.mul_le_mul_left r h
    have h3 : Mu53.points r w * w < Mu53.points r w * r := Nat.mul_lt_mul_of_pos_left hw hp
    rw [Nat.mul_comm (Mu53.points r w) r] at h3
    omega
theorem crossings_is {r w : Nat} (h1 : 1 ≤ w) (h2 : w < r) :
    ((Mu53.crossings r w : Nat) : Int) = (Mu53.points r w : Int) * ((if (Mu53.points r w : Int) - Mu53.rounds r w < Mu53.rounds r w then (Mu53.points r w : Int) - Mu53.rounds r w else Mu53.rounds r w) - 1) := by
  have a := rounds_pos (r := r) h1
  have b := rounds_lt h2
  unfold Mu53.crossings Mu53.skip
  rw [Nat.mod_eq_of_lt b, Int.natCast_mul]
  congr 1
  show ((min (Mu53.rounds r w) (Mu53.points r w - Mu53.rounds r w) - 1 : Nat) : Int) = _
  split <;> omega
/-- the wheels below i that draw n points -/
def wheelsTo (r n i : Nat) : List Nat := (List.range i).filter fun w => w != 0 && Mu53.points r w == n
theorem wheelsTo_one (r n : Nat) : wheelsTo r n 1 = [] := rfl
theorem wheelsTo_in {r n i : Nat} (h : Mu53.points r (i + 1) = n) : wheelsTo r n (i + 2) = wheelsTo r n (i + 1) ++ [i + 1] := by
  unfold wheelsTo
  rw [List.range_succ, List.filter_append]
  simp [h]
theorem wheelsTo_out {r n i : Nat} (h : Mu53.points r (i + 1) ≠ n) : wheelsTo r n (i + 2) = wheelsTo r n (i + 1) := by
  unfold wheelsTo
  rw [List.range_succ, List.filter_append]
  simp [h]
theorem wheelsTo_len (r n i : Nat) : (wheelsTo r n i).length ≤ i := by
  unfold wheelsTo
  exact Nat.le_trans (List.length_filter_le _ _) (by simp)

/-! ### the calls one by one -/
/-- whole numbers as the specification reads them -/
def ofs (ms : List Nat) : List Int := ms.map fun (n : Nat) => (n : Int)
/-- what a call does -/
def due (r : Nat) (ws : List Nat) (c : Nat) (ms : List Nat) : Mu53.Abs × List Int := Mu53Neutral.step (box r ws) ((c : Int) :: ofs ms)
def arity : Nat → Nat
  | 3 => 3 | 4 => 3 | 7 => 4 | 8 => 4 | 10 => 2 | 11 => 4 | 12 => 0 | _ => 1
/-- what stands behind the common refusals -/
def fit (r : Nat) (ws : List Nat) : Nat → List Nat → Prop
  | 0, [_] => True
  | 1, [_] => 0 < r
  | 2, [i] => 0 < r ∧ i < ws.length
  | 3, [i, t, k] => 0 < r ∧ i < ws.length ∧ t < r ∧ k ≤ 100000
  | 4, [i, t, x] => 0 < r ∧ i < ws.length ∧ t < r ∧ x < r
  | 5, [i] => 0 < r ∧ i < ws.length
  | 6, [_] => 0 < r
  | 7, [i, t, j, u] => 0 < r ∧ i < ws.length ∧ t < r ∧ j < ws.length ∧ u < r
  | 8, [i, t, j, u] => 0 < r ∧ i < ws.length ∧ t < r ∧ j < ws.length ∧ u < r
  | 9, [i] => 0 < r ∧ i < ws.length
  | 10, [i, j] => 0 < r ∧ i < ws.length ∧ j < ws.length
  | 11, [i, j, t, k] => 0 < r ∧ i < ws.length ∧ j < ws.length ∧ t < r ∧ k ≤ 100000
  | 12, [] => 0 < r
  | _, _ => False
theorem due_begin_no {r n : Nat} {ws : List Nat} (h : n < 3 ∨ 60 < n) : due r ws 0 [n] = (box r ws, [-1]) := by
  show Mu53.step (box r ws) (.begin_ n) = _
  unfold Mu53.step
  cases box r ws <;> simp [Mu53.MOST, h]
theorem due_begin {r n : Nat} {ws : List Nat} (h : 3 ≤ n) (h' : n ≤ 60) : due r ws 0 [n] = (box n [], [0]) := by
  show Mu53.step (box r ws) (.begin_ n) = _
  rw [box_some (show 0 < n by omega)]
  have : ¬ (n < 3 ∨ 60 < n) := by omega
  unfold Mu53.step
  cases box r ws <;> simp [Mu53.MOST, this]
theorem due_none {c : Nat} {ms : List Nat} (h0 : c ≠ 0) (hc : c ≤ 12) (hl : ms.length = arity c) : due 0 [] c ms = (box 0 [], [-9]) := by
  match c, h0, hc, ms, hl with
  | 1, _, _, [_], _ => rfl
  | 2, _, _, [_], _ => rfl
  | 3, _, _, [_, _, _], _ => rfl
  | 4, _, _, [_, _, _], _ => rfl
  | 5, _, _, [_], _ => rfl
  | 6, _, _, [_], _ => rfl
  | 7, _, _, [_, _, _, _], _ => rfl
  | 8, _, _, [_, _, _, _], _ => rfl
  | 9, _, _, [_], _ => rfl
  | 10, _, _, [_, _], _ => rfl
  | 11, _, _, [_, _, _, _], _ => rfl
  | 12, _, _, [], _ => rfl
section
variable {r : Nat} {ws : List Nat}
theorem due_wheel_no {w : Nat} (hr : 0 < r) (h : w = 0 ∨ r ≤ w) : due r ws 1 [w] = (box r ws, [-1]) := by
  show Mu53.step (box r ws) (.wheel w) = _
  rw [box_some hr]
  unfold Mu53.step
  simp [h]
theorem due_wheel_full {w : Nat} (h1 : 1 ≤ w) (h2 : w < r) (h : 6 ≤ ws.length) : due r ws 1 [w] = (box r ws, [-5]) := by
  show Mu53.step (box r ws) (.wheel w) = _
  rw [box_some (by omega)]
  have : ¬ (w = 0 ∨ r ≤ w) := by omega
  unfold Mu53.step
  simp [this, Mu53.WHEELS, h]
theorem due_wheel {w : Nat} (h1 : 1 ≤ w) (h2 : w < r) (h : ws.length < 6) : due r ws 1 [w] = (box r (ws ++ [w]), [(ws.length : Int)]) := by
  show Mu53.step (box r ws) (.wheel w) = _
  rw [box_some (by omega), box_some (by omega)]
  have : ¬ (w = 0 ∨ r ≤ w) := by omega
  have h' : ¬ 6 ≤ ws.length := by omega
  unfold Mu53.step
  simp [this, Mu53.WHEELS, h']
theorem due_figure {i w : Nat} (hr : 0 < r) (h : ws[i]? = some w) : due r ws 2 [i] = (box r ws, [(Mu53.points r w : Int), (Mu53.rounds r w : Int), (Nat.gcd r w : Int)]) := by
  show Mu53.step (box r ws) (.figure i) = _
  rw [box_some hr]
  unfold Mu53.step
  simp [h, Mu53.nums]
theorem due_point {i w t k : Nat} (hr : 0 < r) (h : ws[i]? = some w) (ht : t < r) (hk : k ≤ 100000) : due r ws 3 [i, t, k] = (box r ws, [((Mu53.point r w t k : Nat) : Int)]) := by
  show Mu53.step (box r ws) (.point i t k) = _
  have : ¬ (r ≤ t ∨ 100000 < k) := by omega
  rw [box_some hr]
  unfold Mu53.step
  simp [h, Mu53.nums, Mu53.LATE, this]
theorem due_when {i w t x k : Nat} (hr : 0 < r) (h : ws[i]? = some w) (ht : t < r) (hx : x < r) (hw : Mu53.when_ r w t x = some k) : due r ws 4 [i, t, x] = (box r ws, [(k : Int), ((t + k * w) / r : Nat)]) := by
  show Mu53.step (box r ws) (.when i t x) = _
  have : ¬ (r ≤ t ∨ r ≤ x) := by omega
  rw [box_some hr, Nat.add_comm t]
  unfold Mu53.step
  simp [h, Mu53.nums, this, hw]
theorem due_when_no {i w t x : Nat} (hr : 0 < r) (h : ws[i]? = some w) (ht : t < r) (hx : x < r) (hw : Mu53.when_ r w t x = none) : due r ws 4 [i, t, x] = (box r ws, [-6]) := by
  show Mu53.step (box r ws) (.when i t x) = _
  have : ¬ (r ≤ t ∨ r ≤ x) := by omega
  rw [box_some hr]
  unfold Mu53.step
  simp [h, Mu53.nums, this, hw]
theorem due_crossings {i w : Nat} (hr : 0 < r) (h : ws[i]? = some w) : due r ws 5 [i] = (box r ws, [((Mu53.crossings r w : Nat) : Int)]) := by
  show Mu53.step (box r ws) (.crossings i) = _
  rw [box_some hr]
  unfold Mu53.step
  simp [h, Mu53.nums]
theorem due_make_no {n : Nat} (hr : 0 < r) (h : n = 0 ∨ r < n) : due r ws 6 [n] = (box r ws, [-1]) := by
  show Mu53.step (box r ws) (.make n) = _
  rw [box_some hr]
  unfold Mu53.step
  simp [h]
theorem due_make {n : Nat} (h1 : 1 ≤ n) (h2 : n ≤ r) : due r ws 6 [n] = (box r ws, ofs ((wheelsTo r n r).length :: wheelsTo r n r)) := by
  show Mu53.step (box r ws) (.make n) = _
  have : ¬ (n = 0 ∨ r < n) := by omega
  rw [box_some (by omega)]
  unfold Mu53.step
  simp [this, Mu53.nums, ofs, wheelsTo, Mu53.wheels]
theorem due_cover {i w : Nat} (hr : 0 < r) (h : ws[i]? = some w) : due r ws 9 [i] = (box r ws, [(Nat.gcd r w : Int)]) := by
  show Mu53.step (box r ws) (.cover i) = _
  rw [box_some hr]
  unfold Mu53.step
  simp [h, Mu53.nums]
theorem due_common {i t j u w v : Nat} (hr : 0 < r) (h : ws[i]? = some w) (h' : ws[j]? = some v) (ht : t < r) (hu : u < r) :
    due r ws 7 [i, t, j, u] = (box r ws, ofs ((Mu53.common r w t v u).length :: (Mu53.common r w t v u).take 1)) := by
  show Mu53.step (box r ws) (.common i t j u) = _
  have : ¬ (r ≤ t ∨ r ≤ u) := by omega
  rw [box_some hr]
  unfold Mu53.step
  simp [h, h', Mu53.nums, ofs, this]
theorem due_same {i t j u w v : Nat} (hr : 0 < r) (h : ws[i]? = some w) (h' : ws[j]? = some v) (ht : t < r) (hu : u < r) :
    due r ws 8 [i, t, j, u] = (box r ws, [if Mu53.same r w t v u = true then 1 else 0]) := by
  show Mu53.step (box r ws) (.same i t j u) = _
  have : ¬ (r ≤ t ∨ r ≤ u) := by omega
  rw [box_some hr]
  unfold Mu53.step
  simp [h, h', this]
  split <;> rfl
theorem due_turns {i j w v : Nat} (hr : 0 < r) (h : ws[i]? = some w) (h' : ws[j]? = some v) :
    due r ws 10 [i, j] = (box r ws, [(Mu53.turnPoints r w v : Int), (Mu53.turnLong r w v : Int)]) := by
  show Mu53.step (box r ws) (.turns i j) = _
  rw [box_some hr]
  unfold Mu53.step
  simp [h, h', Mu53.nums]
theorem due_turn {i j t k w v : Nat} (hr : 0 < r) (h : ws[i]? = some w) (h' : ws[j]? = some v) (ht : t < r) (hk : k ≤ 100000) :
    due r ws 11 [i, j, t, k] = (box r ws, [((Mu53.inTurn r w v t k : Nat) : Int)]) := by
  show Mu53.step (box r ws) (.turn i j t k) = _
  have : ¬ (r ≤ t ∨ 100000 < k) := by omega
  rw [box_some hr]
  unfold Mu53.step
  simp [h, h', Mu53.nums, Mu53.LATE, this]
theorem due_look (hr : 0 < r) : due r ws 12 [] = (box r ws, ofs (r :: ws.length :: ws)) := by
  show Mu53.step (box r ws) .look = _
  rw [box_some hr]
  unfold Mu53.step
  simp [Mu53.nums, ofs]
end
end Wd
/-! Which teeth a figure comes to: just those that lie a multiple of the common divisor further on. Plain Lean. -/
namespace Wd
theorem bezout (m n : Nat) : ∃ a b : Int, a * m + b * n = (Nat.gcd m n : Nat) := by
  induction m, n using Nat.gcd.induction with
  | H0 n => exact ⟨0, 1, by simp⟩
  | H1 m n hm ih =>
    obtain ⟨a, b, e⟩ := ih
    refine ⟨b - a * ((n / m : Nat) : Int), a, ?_⟩
    rw [Nat.gcd_rec m n, ← e]
    have h : ((n % m : Nat) : Int) = (n : Int) - (m : Int) * ((n / m : Nat) : Int) := by
      have := Nat.div_add_mod n m
      have z : (m : Int) * ((n / m : Nat) : Int) + ((n % m : Nat) : Int) = (n : Int) := by exact_mod_cast this
      omega
    rw [h, Int.sub_mul, Int.mul_sub]
    have c : a * (m : Int) * ((n / m : Nat) : Int) = a * ((m : Int) * ((n / m : Nat) : Int)) := Int.mul_assoc ..
    have d : a * ((n / m : Nat) : Int) * (m : Int) = a * ((m : Int) * ((n / m : Nat) : Int)) := by
      rw [Int.mul_assoc, Int.mul_comm ((n / m : Nat) : Int)]
    rw [d]
    omega
theorem reach {r w d : Nat} (hr : 0 < r) (h : Nat.gcd r w ∣ d) : ∃ k, k < Mu53.points r w ∧ (k * w) % r = d % r := by
  obtain ⟨e, he⟩ := h
  obtain ⟨a, b, hab⟩ := bezout r w
  have pp := points_pos (w := w) hr
  have pm := points_mul (r := r) (w := w)
  refine ⟨((b * e) % (Mu53.points r w : Int)).toNat, ?_, ?_⟩
  · have h1 := Int.emod_lt_of_pos (b * (e : Int)) (show (0 : Int) < (Mu53.points r w : Int) by omega)
    have h2 := Int.emod_nonneg (b * (e : Int)) (show (Mu53.points r w : Int) ≠ 0 by omega)
    omega
  · have h2 := Int.emod_nonneg (b * (e : Int)) (show (Mu53.points r w : Int) ≠ 0 by omega)
    have key : (((((b * e) % (Mu53.points r w : Int)).toNat * w) % r : Nat) : Int) = ((d % r : Nat) : Int) := by
      rw [Int.natCast_emod, Int.natCast_emod, Int.natCast_mul, Int.toNat_of_nonneg h2]
      have e1 : (b * (e : Int)) % (Mu53.points r w : Int) = b * e - (Mu53.points r w : Int) * ((b * e) / (Mu53.points r w : Int)) := Int.emod_def ..
      have pm' : (Mu53.points r w : Int) * (w : Int) = (r : Int) * (Mu53.rounds r w : Int) := by exact_mod_cast pm
      have e2 : (b * (e : Int)) % (Mu53.points r w : Int) * (w : Int) = (d : Int) + (r : Int) * (-(a * e) - (Mu53.rounds r w : Int) * ((b * e) / (Mu53.points r w : Int))) := by
        rw [e1, Int.sub_mul]
        have f1 : (Mu53.points r w : Int) * ((b * e) / (Mu53.points r w : Int)) * (w : Int) = (r : Int) * ((Mu53.rounds r w : Int) * ((b * e) / (Mu53.points r w : Int))) := by
          rw [Int.mul_right_comm, pm', Int.mul_assoc]
        have f2 : (d : Int) = (a * r + b * w) * e := by
          rw [hab]
          exact_mod_cast he
        rw [f1, f2, Int.mul_sub, Int.mul_neg, Int.add_mul]
        have g1 : a * (r : Int) * (e : Int) = (r : Int) * (a * e) := by rw [Int.mul_comm a, Int.mul_assoc]
        have g2 : b * (e : Int) * (w : Int) = b * (w : Int) * (e : Int) := Int.mul_right_comm ..
        rw [g1, g2]
        omega
      rw [e2, Int.add_mul_emod_self_left]
    exact_mod_cast key
/-- a figure begun at t comes to x -/
theorem comes_iff {r w t x : Nat} (hr : 0 < r) (ht : t < r) (hx : x < r) : (x + r - t) % Nat.gcd r w = 0 ↔ ∃ k, k < Mu53.points r w ∧ Mu53.point r w t k = x := by
  constructor
  · intro h
    obtain ⟨k, hk, e⟩ := reach hr (Nat.dvd_of_mod_eq_zero h)
    refine ⟨k, hk, ?_⟩
    unfold Mu53.point
    rw [Nat.add_mod, e, ← Nat.add_mod, show t + (x + r - t) = x + r by omega, Nat.add_mod_right, Nat.mod_eq_of_lt hx]
  · rintro ⟨k, _, e⟩
    have e' : (t + k * w) % r = x := e
    have g1 : Nat.gcd r w ∣ r := Nat.gcd_dvd_left ..
    have g2 : Nat.gcd r w ∣ w := Nat.gcd_dvd_right ..
    refine Nat.mod_eq_zero_of_dvd ?_
    have d := Nat.div_add_mod (t + k * w) r
    rw [e'] at d
    have h1 : Nat.gcd r w ∣ r * ((t + k * w) / r) := Nat.dvd_mul_right_of_dvd g1 _
    have h2 : Nat.gcd r w ∣ k * w := Nat.dvd_mul_left_of_dvd g2 _
    have h3 : (x + r - t) + r * ((t + k * w) / r) = k * w + r := by omega
    exact (Nat.dvd_add_left h1).mp (h3 ▸ Nat.dvd_add h2 g1)
theorem teeth_iff {r w t x : Nat} (hr : 0 < r) (ht : t < r) : x ∈ Mu53.teeth r w t ↔ x < r ∧ ∃ k, k < Mu53.points r w ∧ Mu53.point r w t k = x := by
  unfold Mu53.teeth
  rw [List.mem_filter, List.mem_range, Nat.mod_eq_of_lt ht]
  constructor
  · rintro ⟨a, b⟩
    exact ⟨a, (comes_iff hr ht a).mp (by simpa using b)⟩
  · rintro ⟨a, b⟩
    exact ⟨a, by simpa using (comes_iff hr ht a).mpr b⟩
end Wd
/-! Two wheels in turn: to how many teeth they come until they close. Plain Lean. -/
namespace Wd
/-- n teeth, each g further on, from a on -/
def comb (g n a : Nat) : List Nat := (List.range n).map fun j => j * g + a
theorem comb_len (g n a : Nat) : (comb g n a).length = n := by simp [comb]
theorem comb_mem {g n a x : Nat} (ha : a < g) : x ∈ comb g n a ↔ x < n * g ∧ x % g = a := by
  unfold comb
  rw [List.mem_map]
  constructor
  · rintro ⟨j, hj, rfl⟩
    have hj := List.mem_range.mp hj
    have h1 : (j + 1) * g ≤ n * g := Nat.mul_le_mul_right g hj
    rw [Nat.succ_mul] at h1
    refine ⟨by omega, ?_⟩
    rw [Nat.add_comm, Nat.add_mul_mod_self_right, Nat.mod_eq_of_lt ha]
  · rintro ⟨h1, h2⟩
    have d := Nat.div_add_mod x g
    refine ⟨x / g, List.mem_range.mpr (Nat.div_lt_of_lt_mul (by rw [Nat.mul_comm]; exact h1)), ?_⟩
    rw [Nat.mul_comm] at d
    omega
theorem comb_nodup {g n a : Nat} (hg : 0 < g) : (comb g n a).Nodup := by
  unfold comb
  refine List.Pairwise.map _ (fun i j h e => h ?_) List.nodup_range
  have : i * g = j * g := by omega
  exact Nat.eq_of_mul_eq_mul_right hg this
/-- the places of the first n points -/
def places (r w v n : Nat) : List Nat := (List.range n).map (Mu53.inTurn r w v 0)
theorem even_place (r w v j : Nat) : Mu53.inTurn r w v 0 (2 * j) = (j * (w + v)) % r := by
  unfold Mu53.inTurn
  rw [show (2 * j + 1) / 2 = j by omega, show 2 * j / 2 = j by omega, Nat.mul_add, Nat.zero_add]
theorem odd_place (r w v j : Nat) : Mu53.inTurn r w v 0 (2 * j + 1) = (w + j * (w + v)) % r := by
  unfold Mu53.inTurn
  rw [show (2 * j + 1 + 1) / 2 = j + 1 by omega, show (2 * j + 1) / 2 = j by omega, Nat.mul_add, Nat.succ_mul]
  congr 1
  omega
theorem like_place (r w k : Nat) : Mu53.inTurn r w w 0 k = (k * w) % r := by
  unfold Mu53.inTurn
  rw [Nat.zero_add, ← Nat.add_mul, show (k + 1) / 2 + k / 2 = k by omega]
theorem mod_mod_gcd {r s a : Nat} : a % r % Nat.gcd r s = a % Nat.gcd r s := Nat.mod_mod_of_dvd a (Nat.gcd_dvd_left r s)
theorem mul_mod_gcd {r s a j : Nat} : (a + j * s) % Nat.gcd r s = a % Nat.gcd r s := by
  obtain ⟨q, hq⟩ := Nat.gcd_dvd_right r s
  have : j * s = Nat.gcd r s * (j * q) := by
    rw [← Nat.mul_assoc, Nat.mul_comm (Nat.gcd r s) j, Nat.mul_assoc, ← hq]
  rw [this, Nat.add_mul_mod_self_left]
theorem unlike_mem {r w v x : Nat} (hr : 0 < r) (hw : w < r) : x ∈ places r w v (2 * Mu53.points r (w + v)) ↔ x < r ∧ (x % Nat.gcd r (w + v) = 0 ∨ x % Nat.gcd r (w + v) = w % Nat.gcd r (w + v)) := by
  unfold places
  rw [List.mem_map]
  constructor
  · rintro ⟨k, hk, rfl⟩
    refine ⟨Nat.mod_lt _ hr, ?_⟩
    rcases Nat.mod_two_eq_zero_or_one k with h | h
    · rw [show k = 2 * (k / 2) by omega, even_place, mod_mod_gcd]
      left
      have := mul_mod_gcd (r := r) (s := w + v) (a := 0) (j := k / 2)
      rw [Nat.zero_add, Nat.zero_mod] at this
      exact this
    · rw [show k = 2 * (k / 2) + 1 by omega, odd_place, mod_mod_gcd]
      right
      exact mul_mod_gcd
  · rintro ⟨hx, h | h⟩
    · obtain ⟨j, hj, e⟩ := reach hr (Nat.dvd_of_mod_eq_zero h)
      exact ⟨2 * j, List.mem_range.mpr (by omega), by rw [even_place, e, Nat.mod_eq_of_lt hx]⟩
    · have gr := Nat.gcd_dvd_left r (w + v)
      have d : Nat.gcd r (w + v) ∣ x + (r - w) := by
        refine Nat.dvd_of_mod_eq_zero ?_
        rw [Nat.add_mod, h, ← Nat.add_mod, show w + (r - w) = r by omega]
        exact Nat.mod_eq_zero_of_dvd gr
      obtain ⟨j, hj, e⟩ := reach hr d
      refine ⟨2 * j + 1, List.mem_range.mpr (by omega), ?_⟩
      rw [odd_place, Nat.add_mod, e, ← Nat.add_mod, show w + (x + (r - w)) = x + r by omega, Nat.add_mod_right, Nat.mod_eq_of_lt hx]
theorem like_mem {r w x : Nat} (hr : 0 < r) : x ∈ places r w w (Mu53.points r w) ↔ x < r ∧ x % Nat.gcd r w = 0 := by
  unfold places
  rw [List.mem_map]
  constructor
  · rintro ⟨k, hk, rfl⟩
    refine ⟨Nat.mod_lt _ hr, ?_⟩
    rw [like_place, mod_mod_gcd]
    have := mul_mod_gcd (r := r) (s := w) (a := 0) (j := k)
    rw [Nat.zero_add, Nat.zero_mod] at this
    exact this
  · rintro ⟨hx, h⟩
    obtain ⟨j, hj, e⟩ := reach hr (Nat.dvd_of_mod_eq_zero h)
    exact ⟨j, List.mem_range.mpr hj, by rw [like_place, e, Nat.mod_eq_of_lt hx]⟩
theorem points_gcd (r w : Nat) : Mu53.points r w * Nat.gcd r w = r := Nat.div_mul_cancel (Nat.gcd_dvd_left r w)
theorem same_len {l m : List Nat} (hl : l.Nodup) (hm : m.Nodup) (h : ∀ x, x ∈ l ↔ x ∈ m) : l.length = m.length :=
  Nat.le_antisymm (List.Nodup.length_le_of_subset hl fun x => (h x).mp) (List.Nodup.length_le_of_subset hm fun x => (h x).mpr)
theorem like_points {r w : Nat} (hr : 0 < r) : Mu53.turnPoints r w w = Mu53.points r w := by
  have gp : 0 < Nat.gcd r (w + w) := Nat.gcd_pos_of_pos_left _ hr
  have dp : 0 < Nat.gcd r w := Nat.gcd_pos_of_pos_left _ hr
  have d1 : Nat.gcd r w ∣ Nat.gcd r (w + w) := Nat.dvd_gcd (Nat.gcd_dvd_left ..) (Nat.dvd_add (Nat.gcd_dvd_right ..) (Nat.gcd_dvd_right ..))
  have p1 := points_gcd r w
  have p2 := points_gcd r (w + w)
  unfold Mu53.turnPoints
  split
  · rename_i h
    have d2 : Nat.gcd r (w + w) ∣ Nat.gcd r w := Nat.dvd_gcd (Nat.gcd_dvd_left ..) (Nat.dvd_of_mod_eq_zero h)
    have e := Nat.dvd_antisymm d1 d2
    rw [← e] at p2
    exact Nat.eq_of_mul_eq_mul_right dp (p2.trans p1.symm)
  · rename_i h
    have d2 : Nat.gcd r (w + w) ∣ 2 * Nat.gcd r w := by
      rw [← Nat.gcd_mul_left]
      exact Nat.dvd_gcd (Nat.dvd_mul_left_of_dvd (Nat.gcd_dvd_left ..) 2) (by rw [Nat.two_mul]; exact Nat.gcd_dvd_right ..)
    obtain ⟨m, hm⟩ := d1
    rw [hm, Nat.mul_comm] at d2
    have m2 : m ∣ 2 := Nat.dvd_of_mul_dvd_mul_right dp d2
    have ml : m ≤ 2 := Nat.le_of_dvd (by decide) m2
    have m0 : m ≠ 0 := fun e => by rw [e] at hm; omega
    have m1 : m ≠ 1 := fun e => by
      rw [e, Nat.mul_one] at hm
      refine h ?_
      rw [hm]
      exact Nat.mod_eq_zero_of_dvd (Nat.gcd_dvd_right ..)
    have me : m = 2 := by omega
    rw [hm, me] at p2
    refine Nat.eq_of_mul_eq_mul_right dp (Eq.trans ?_ (p2.trans p1.symm))
    rw [Nat.mul_comm 2, Nat.mul_assoc, Nat.mul_comm 2]
theorem turns_count {r w v : Nat} (hr : 0 < r) (hw : w < r) (hv : v < r) {l : List Nat} (nd : l.Nodup) (h : ∀ x, x ∈ l ↔ x ∈ places r w v (Mu53.turnLong r w v)) : l.length = Mu53.turnPoints r w v := by
  unfold Mu53.turnLong at h
  rw [Nat.mod_eq_of_lt hw, Nat.mod_eq_of_lt hv] at h
  by_cases e : w = v
  · subst e
    rw [if_pos rfl] at h
    have gp : 0 < Nat.gcd r w := Nat.gcd_pos_of_pos_left _ hr
    rw [like_points hr, same_len nd (comb_nodup (n := Mu53.points r w) (a := 0) gp) fun x => ?_, comb_len]
    rw [h, like_mem hr, comb_mem gp, points_gcd]
  · rw [if_neg e] at h
    have gp : 0 < Nat.gcd r (w + v) := Nat.gcd_pos_of_pos_left _ hr
    unfold Mu53.turnPoints
    split
    · rename_i c
      rw [same_len nd (comb_nodup (n := Mu53.points r (w + v)) (a := 0) gp) fun x => ?_, comb_len]
      rw [h, unlike_mem hr hw, comb_mem gp, points_gcd, c, or_self]
    · rename_i c
      have al : w % Nat.gcd r (w + v) < Nat.gcd r (w + v) := Nat.mod_lt _ gp
      have n2 : (comb (Nat.gcd r (w + v)) (Mu53.points r (w + v)) 0 ++ comb (Nat.gcd r (w + v)) (Mu53.points r (w + v)) (w % Nat.gcd r (w + v))).Nodup := by
        refine List.nodup_append.mpr ⟨comb_nodup gp, comb_nodup gp, fun a ha b hb e => c ?_⟩
        rw [comb_mem gp] at ha
        rw [comb_mem al] at hb
        rw [← hb.2, ← e, ha.2]
      rw [same_len nd n2 fun x => ?_, List.length_append, comb_len, comb_len, Nat.two_mul]
      rw [h, unlike_mem hr hw, List.mem_append, comb_mem gp, comb_mem al, points_gcd, and_or_left]
/-! ### which teeth, as the program asks -/
/-- whether a figure begun at t comes to x -/
def comes (r w t x : Nat) : Bool := decide ((x + r - t) % Nat.gcd r w = 0)
theorem comes_int {r w t x : Nat} (hr : 0 < r) (ht : t < r) : ((x : Int) - (t : Int)) % ((Nat.gcd r w : Nat) : Int) = (((x + r - t) % Nat.gcd r w : Nat) : Int) := by
  obtain ⟨q, hq⟩ := Nat.gcd_dvd_left r w
  have e : ((x + r - t : Nat) : Int) = ((x : Int) - (t : Int)) + ((Nat.gcd r w : Nat) : Int) * (q : Int) := by
    have : (r : Int) = ((Nat.gcd r w : Nat) : Int) * (q : Int) := by exact_mod_cast hq
    omega
  rw [Int.natCast_emod, e, Int.add_mul_emod_self_left]
/-- the first of both lists, as far as it has come -/
def onesTo (r w t i : Nat) : List Nat := (List.range i).filter (comes r w t)
theorem onesTo_in {r w t i : Nat} (h : comes r w t i = true) : onesTo r w t (i + 1) = onesTo r w t i ++ [i] := by
  unfold onesTo
  rw [List.range_succ, List.filter_append]
  simp [h]
theorem onesTo_out {r w t i : Nat} (h : comes r w t i = false) : onesTo r w t (i + 1) = onesTo r w t i := by
  unfold onesTo
  rw [List.range_succ, List.filter_append]
  simp [h]
theorem onesTo_len (r w t i : Nat) : (onesTo r w t i).length ≤ i := by
  unfold onesTo
  exact Nat.le_trans (List.length_filter_le _ _) (by simp)
theorem teeth_is {r w t : Nat} (ht : t < r) : Mu53.teeth r w t = onesTo r w t r := by
  unfold Mu53.teeth onesTo
  refine List.filter_congr fun x _ => ?_
  rw [Nat.mod_eq_of_lt ht]
  rfl
theorem in_teeth {r w t x : Nat} (ht : t < r) (hx : x < r) : (Mu53.teeth r w t).contains x = comes r w t x := by
  rw [teeth_is ht, Bool.eq_iff_iff]
  simp [onesTo, hx]
theorem common_is {r w t v u : Nat} (ht : t < r) (hu : u < r) : Mu53.common r w t v u = (onesTo r w t r).filter (comes r v u) := by
  unfold Mu53.common
  rw [teeth_is ht]
  refine List.filter_congr fun x hx => ?_
  have hx := (List.mem_filter.mp hx).1
  exact in_teeth hu (List.mem_range.mp hx)
theorem same_is {r w t v u : Nat} (ht : t < r) (hu : u < r) (w1 : 1 ≤ w) (wr : w < r) (v1 : 1 ≤ v) (vr : v < r) : Mu53.same r w t v u = ((decide (v = w) || decide (v = r - w)) && comes r w t u) := by
  unfold Mu53.same
  rw [Nat.mod_eq_of_lt hu, in_teeth ht hu, Nat.mod_eq_of_lt wr, Nat.mod_eq_of_lt vr, Bool.and_comm]
  congr 1
  congr 1
  rw [Bool.eq_iff_iff, beq_iff_eq, decide_eq_true_iff]
  constructor
  · intro h
    obtain ⟨q, hq⟩ := Nat.dvd_of_mod_eq_zero h
    match q, hq with
    | 0, hq => omega
    | 1, hq => omega
    | q + 2, hq =>
      rw [Nat.mul_add] at hq
      omega
  · intro h
    rw [show v + w = r by omega, Nat.mod_self]
/-- a list's members among the first i that pass -/
theorem filt_in {p : Nat → Bool} {xs : List Nat} {i x : Nat} (h : xs[i]? = some x) (hp : p x = true) : (xs.take (i + 1)).filter p = (xs.take i).filter p ++ [x] := by
  rw [List.take_add_one, h, List.filter_append]
  simp [hp]
theorem filt_out {p : Nat → Bool} {xs : List Nat} {i x : Nat} (h : xs[i]? = some x) (hp : p x = false) : (xs.take (i + 1)).filter p = (xs.take i).filter p := by
  rw [List.take_add_one, h, List.filter_append]
  simp [hp]
/-! ### the places, as the program lays them -/
theorem places_next (r w v i : Nat) : places r w v (i + 1) = places r w v i ++ [Mu53.inTurn r w v 0 i] := by
  unfold places
  rw [List.range_succ, List.map_append]
  rfl
theorem places_len (r w v i : Nat) : (places r w v i).length = i := by simp [places]
theorem turn_int (r w v t k : Nat) : ((t : Int) + ((k : Int) - (k : Int) / 2) * (w : Int) + (k : Int) / 2 * (v : Int)) % (r : Int) = ((Mu53.inTurn r w v t k : Nat) : Int) := by
  unfold Mu53.inTurn
  rw [Int.natCast_emod, Int.natCast_add, Int.natCast_add, Int.natCast_mul, Int.natCast_mul, show (k : Int) - (k : Int) / 2 = (((k + 1) / 2 : Nat) : Int) by omega, show (k : Int) / 2 = ((k / 2 : Nat) : Int) by omega]
theorem turnLong_le {r w v : Nat} (hr : r ≤ 60) : Mu53.turnLong r w v ≤ 120 := by
  have h1 := points_le r w
  have h2 := points_le r (w + v)
  unfold Mu53.turnLong
  split <;> omega
theorem turns_count_int {r w v : Nat} (hr : 0 < r) (hw : w < r) (hv : v < r) {L : List Int} (nd : L.Nodup) (h : ∀ x, x ∈ L ↔ x ∈ ofs (places r w v (Mu53.turnLong r w v))) : L.length = Mu53.turnPoints r w v := by
  have nat : ∀ x, x ∈ L → ∃ n : Nat, n ∈ places r w v (Mu53.turnLong r w v) ∧ (n : Int) = x := fun x hx => by
    have := (h x).mp hx
    unfold ofs at this
    exact List.mem_map.mp this
  have n2 : (L.map Int.toNat).Nodup := by
    unfold List.Nodup
    rw [List.pairwise_map]
    refine List.Pairwise.imp_of_mem (fun {a b} ha hb ne e => ne ?_) nd
    obtain ⟨n, _, rfl⟩ := nat a ha
    obtain ⟨m, _, rfl⟩ := nat b hb
    rw [Int.toNat_natCast, Int.toNat_natCast] at e
    rw [e]
  rw [← turns_count hr hw hv n2 fun x => ?_, List.length_map]
  rw [List.mem_map]
  constructor
  · rintro ⟨a, ha, rfl⟩
    obtain ⟨n, hn, rfl⟩ := nat a ha
    rw [Int.toNat_natCast]
    exact hn
  · intro hx
    refine ⟨(x : Int), (h x).mpr ?_, Int.toNat_natCast x⟩
    unfold ofs
    exact List.mem_map.mpr ⟨x, hx, rfl⟩
end Wd
/-! The list of calls, call by call: what the program's loop keeps. Plain Lean. -/
namespace Wd
def stp (s : Mu53.Abs) (c : List (List Int)) : Mu53.Abs × List Int := Mu53Neutral.step s (c.headD [])
theorem shape_is {p : Int} {n k : Nat} (h : PyMu53.shape p = some (n, k)) : k = 0 ∧ ∃ c : Nat, p = (c : Int) ∧ c ≤ 12 ∧ n = arity c := by
  by_cases e0 : p = 0
  · subst e0
    cases (show some (1, 0) = some (n, k) from h)
    exact ⟨rfl, 0, rfl, by decide, rfl⟩
  by_cases e1 : p = 1
  · subst e1
    cases (show some (1, 0) = some (n, k) from h)
    exact ⟨rfl, 1, rfl, by decide, rfl⟩
  by_cases e2 : p = 2
  · subst e2
    cases (show some (1, 0) = some (n, k) from h)
    exact ⟨rfl, 2, rfl, by decide, rfl⟩
  by_cases e3 : p = 3
  · subst e3
    cases (show some (3, 0) = some (n, k) from h)
    exact ⟨rfl, 3, rfl, by decide, rfl⟩
  by_cases e4 : p = 4
  · subst e4
    cases (show some (3, 0) = some (n, k) from h)
    exact ⟨rfl, 4, rfl, by decide, rfl⟩
  by_cases e5 : p = 5
  · subst e5
    cases (show some (1, 0) = some (n, k) from h)
    exact ⟨rfl, 5, rfl, by decide, rfl⟩
  by_cases e6 : p = 6
  · subst e6
    cases (show some (1, 0) = some (n, k) from h)
    exact ⟨rfl, 6, rfl, by decide, rfl⟩
  by_cases e7 : p = 7
  · subst e7
    cases (show some (4, 0) = some (n, k) from h)
    exact ⟨rfl, 7, rfl, by decide, rfl⟩
  by_cases e8 : p = 8
  · subst e8
    cases (show some (4, 0) = some (n, k) from h)
    exact ⟨rfl, 8, rfl, by decide, rfl⟩
  by_cases e9 : p = 9
  · subst e9
    cases (show some (1, 0) = some (n, k) from h)
    exact ⟨rfl, 9, rfl, by decide, rfl⟩
  by_cases e10 : p = 10
  · subst e10
    cases (show some (2, 0) = some (n, k) from h)
    exact ⟨rfl, 10, rfl, by decide, rfl⟩
  by_cases e11 : p = 11
  · subst e11
    cases (show some (4, 0) = some (n, k) from h)
    exact ⟨rfl, 11, rfl, by decide, rfl⟩
  by_cases e12 : p = 12
  · subst e12
    cases (show some (0, 0) = some (n, k) from h)
    exact ⟨rfl, 12, rfl, by decide, rfl⟩
  unfold PyMu53.shape at h
  rw [if_neg e0, if_neg e1, if_neg e2, if_neg e3, if_neg e4, if_neg e5, if_neg e6, if_neg e7, if_neg e8, if_neg e9, if_neg e10, if_neg e11, if_neg e12] at h
  cases h
theorem parse_step {f : Nat} {p : Int} {r : List Int} {cs : List (List (List Int))} (h : PyFlat.calls PyMu53.shape f (p :: r) = some cs) :
    ∃ (c f' : Nat) (cs' : List (List (List Int))), p = (c : Int) ∧ c ≤ 12 ∧ arity c ≤ r.length ∧ cs = [p :: r.take (arity c)] :: cs' ∧ PyFlat.calls PyMu53.shape f' (r.drop (arity c)) = some cs' := by
  cases f with
  | zero => simp [PyFlat.calls] at h
  | succ f =>
    rw [PyFlat.calls] at h
    unfold PyFlat.call at h
    dsimp only at h
    cases hs : PyMu53.shape p with
    | none => rw [hs] at h; simp at h
    | some nk =>
      obtain ⟨n, k⟩ := nk
      obtain ⟨rfl, c, hp, hc, rfl⟩ := shape_is hs
      rw [hs] at h
      by_cases hl : r.length < arity c
      · simp [hl] at h
      · simp only [hl, if_false, PyFlat.rows] at h
        cases hq : PyFlat.calls PyMu53.shape f (r.drop (arity c)) with
        | none => rw [hq] at h; simp at h
        | some cs' =>
          rw [hq] at h
          simp at h
          exact ⟨c, f, cs', hp, hc, by omega, h.symm, hq⟩
theorem within_nat {z lo hi : Int} (h : NeutralIO.within z lo hi = true) (h0 : 0 ≤ lo) : ∃ n : Nat, z = (n : Int) := by
  unfold NeutralIO.within at h
  simp at h
  exact ⟨z.toNat, by omega⟩
theorem nine_nat {z : Int} (h : Mu53Neutral.nine z = true) : ∃ n : Nat, z = (n : Int) := within_nat h (by decide)
theorem tooth_nat {z : Int} (h : Mu53Neutral.tooth z = true) : ∃ n : Nat, z = (n : Int) := within_nat h (by decide)
theorem late_nat {z : Int} (h : Mu53Neutral.late z = true) : ∃ n : Nat, z = (n : Int) := within_nat h (by decide)
/-- a call's numbers are none below 0; and the call is whole as it is -/
theorem call_nats {c : Nat} {xs : List Int} (hc : c ≤ 12) (hl : xs.length = arity c) (h : Mu53Neutral.asked1 ((PyMu53.whole [(c : Int) :: xs]).headD []) = true) :
    PyMu53.whole [(c : Int) :: xs] = [(c : Int) :: xs] ∧ ∃ ms : List Nat, ms.length = arity c ∧ xs = ofs ms := by
  match c, hc, xs, hl, h with
  | 0, _, [a], _, h =>
    obtain ⟨n, rfl⟩ := tooth_nat (show Mu53Neutral.tooth a = true from h)
    exact ⟨rfl, [n], rfl, rfl⟩
  | 1, _, [a], _, h =>
    obtain ⟨n, rfl⟩ := tooth_nat (show Mu53Neutral.tooth a = true from h)
    exact ⟨rfl, [n], rfl, rfl⟩
  | 2, _, [a], _, h =>
    obtain ⟨n, rfl⟩ := nine_nat (show Mu53Neutral.nine a = true from h)
    exact ⟨rfl, [n], rfl, rfl⟩
  | 3, _, [a, b, d], _, h =>
    have h : (Mu53Neutral.nine a && (Mu53Neutral.tooth b && Mu53Neutral.late d)) = true := h
    rw [Bool.and_eq_true, Bool.and_eq_true] at h
    obtain ⟨n, rfl⟩ := nine_nat h.1
    obtain ⟨m, rfl⟩ := tooth_nat h.2.1
    obtain ⟨k, rfl⟩ := late_nat h.2.2
    exact ⟨rfl, [n, m, k], rfl, rfl⟩
  | 4, _, [a, b, d], _, h =>
    have h : (Mu53Neutral.nine a && (Mu53Neutral.tooth b && Mu53Neutral.tooth d)) = true := h
    rw [Bool.and_eq_true, Bool.and_eq_true] at h
    obtain ⟨n, rfl⟩ := nine_nat h.1
    obtain ⟨m, rfl⟩ := tooth_nat h.2.1
    obtain ⟨k, rfl⟩ := tooth_nat h.2.2
    exact ⟨rfl, [n, m, k], rfl, rfl⟩
  | 5, _, [a], _, h =>
    obtain ⟨n, rfl⟩ := nine_nat (show Mu53Neutral.nine a = true from h)
    exact ⟨rfl, [n], rfl, rfl⟩
  | 6, _, [a], _, h =>
    obtain ⟨n, rfl⟩ := tooth_nat (show Mu53Neutral.tooth a = true from h)
    exact ⟨rfl, [n], rfl, rfl⟩
  | 7, _, [a, b, d, e], _, h =>
    have h : (Mu53Neutral.nine a && (Mu53Neutral.tooth b && (Mu53Neutral.nine d && Mu53Neutral.tooth e))) = true := h
    rw [Bool.and_eq_true, Bool.and_eq_true, Bool.and_eq_true] at h
    obtain ⟨n, rfl⟩ := nine_nat h.1
    obtain ⟨m, rfl⟩ := tooth_nat h.2.1
    obtain ⟨k, rfl⟩ := nine_nat h.2.2.1
    obtain ⟨j, rfl⟩ := tooth_nat h.2.2.2
    exact ⟨rfl, [n, m, k, j], rfl, rfl⟩
  | 8, _, [a, b, d, e], _, h =>
    have h : (Mu53Neutral.nine a && (Mu53Neutral.tooth b && (Mu53Neutral.nine d && Mu53Neutral.tooth e))) = true := h
    rw [Bool.and_eq_true, Bool.and_eq_true, Bool.and_eq_true] at h
    obtain ⟨n, rfl⟩ := nine_nat h.1
    obtain ⟨m, rfl⟩ := tooth_nat h.2.1
    obtain ⟨k, rfl⟩ := nine_nat h.2.2.1
    obtain ⟨j, rfl⟩ := tooth_nat h.2.2.2
    exact ⟨rfl, [n, m, k, j], rfl, rfl⟩
  | 9, _, [a], _, h =>
    obtain ⟨n, rfl⟩ := nine_nat (show Mu53Neutral.nine a = true from h)
    exact ⟨rfl, [n], rfl, rfl⟩
  | 10, _, [a, b], _, h =>
    have h : (Mu53Neutral.nine a && Mu53Neutral.nine b) = true := h
    rw [Bool.and_eq_true] at h
    obtain ⟨n, rfl⟩ := nine_nat h.1
    obtain ⟨m, rfl⟩ := nine_nat h.2
    exact ⟨rfl, [n, m], rfl, rfl⟩
  | 11, _, [a, b, d, e], _, h =>
    have h : (Mu53Neutral.nine a && (Mu53Neutral.nine b && (Mu53Neutral.tooth d && Mu53Neutral.late e))) = true := h
    rw [Bool.and_eq_true, Bool.and_eq_true, Bool.and_eq_true] at h
    obtain ⟨n, rfl⟩ := nine_nat h.1
    obtain ⟨m, rfl⟩ := nine_nat h.2.1
    obtain ⟨k, rfl⟩ := tooth_nat h.2.2.1
    obtain ⟨j, rfl⟩ := late_nat h.2.2.2
    exact ⟨rfl, [n, m, k, j], rfl, rfl⟩
  | 12, _, [], _, h => exact ⟨rfl, [], rfl, rfl⟩
/-- behind the first `place` numbers of l: what is given so far, the box, and the calls that are left -/
structure Rest (l : List Int) (place : Nat) (given : List Int) (r : Nat) (ws : List Nat) : Prop where
  le : place ≤ l.length
  ex : ∃ (f : Nat) (cs : List (List (List Int))), PyFlat.calls PyMu53.shape f (l.drop place) = some cs ∧ (∀ c ∈ cs, Mu53Neutral.asked1 ((PyMu53.whole c).headD []) = true) ∧
    PyMu53.answers l = given ++ PyFlat.told (PyFlat.played stp (box r ws) (cs.map PyMu53.whole))
theorem Rest.start {l : List Int} (h : PyMu53.answers_asked l = true) : Rest l 0 [] 0 [] ∧ (PyMu53.answers l).length ≤ 10000000 := by
  unfold PyMu53.answers_asked at h
  cases hc : PyFlat.calls PyMu53.shape l.length l with
  | none => rw [hc] at h; simp at h
  | some raw =>
    rw [hc] at h
    simp only [Bool.and_eq_true] at h
    obtain ⟨⟨⟨⟨_, _⟩, _⟩, ha⟩, hs⟩ := h
    refine ⟨⟨Nat.zero_le _, l.length, raw, hc, ?_, ?_⟩, ?_⟩
    · unfold Mu53Neutral.asked at ha
      simp only [Bool.and_eq_true] at ha
      have := ha.2.2
      rw [List.all_eq_true] at this
      intro c hcm
      exact this _ (List.mem_map.mpr ⟨PyMu53.whole c, List.mem_map.mpr ⟨c, hcm, rfl⟩, rfl⟩)
    · unfold PyMu53.answers PyMu53.calls
      rw [hc]
      rfl
    · unfold PyFlat.short at hs
      simpa using hs
theorem Rest.done {l : List Int} {given : List Int} {r : Nat} {ws : List Nat} {place : Nat} (R : Rest l place given r ws) (h : ¬ place < l.length) : PyMu53.answers l = given := by
  obtain ⟨f, cs, h1, _, h3⟩ := R.ex
  have e : l.drop place = [] := List.drop_eq_nil_of_le (by omega)
  rw [e] at h1
  have : cs = [] := by
    cases f <;> · simp [PyFlat.calls] at h1; exact h1
  subst this
  rw [h3]
  simp [PyFlat.played, PyFlat.told]
theorem Rest.next {l : List Int} {given : List Int} {r : Nat} {ws : List Nat} {place : Nat} (R : Rest l place given r ws) (h : place < l.length) :
    ∃ (c : Nat) (ms : List Nat), l[place]? = some (c : Int) ∧ c ≤ 12 ∧ ms.length = arity c ∧ place + 1 + arity c ≤ l.length ∧ (l.drop (place + 1)).take (arity c) = ofs ms ∧
      ∀ (r' : Nat) (ws' : List Nat) (out : List Int), due r ws c ms = (box r' ws', out) → Rest l (place + 1 + arity c) (given ++ ((out.length : Int) :: out)) r' ws' := by
  obtain ⟨f, cs, h1, h2, h3⟩ := R.ex
  have e : l.drop place = l[place] :: l.drop (place + 1) := List.drop_eq_getElem_cons h
  rw [e] at h1
  obtain ⟨c, f', cs', hp, hc, hlen, rfl, h4⟩ := parse_step h1
  have hl : (l.drop (place + 1)).length = l.length - (place + 1) := List.length_drop
  have ha := h2 _ (List.mem_cons_self ..)
  rw [hp] at ha
  have hxl : ((l.drop (place + 1)).take (arity c)).length = arity c := by
    rw [List.length_take]
    omega
  obtain ⟨w1, ms, hm, hx⟩ := call_nats hc hxl ha
  refine ⟨c, ms, by rw [List.getElem?_eq_getElem h, hp], hc, hm, by omega, hx, fun r' ws' out hd => ?_⟩
  refine ⟨by omega, f', cs', ?_, fun d hd' => h2 d (List.mem_cons_of_mem _ hd'), ?_⟩
  · rw [List.drop_drop] at h4
    exact h4
  · rw [h3, hp, List.map_cons, w1, hx]
    show given ++ PyFlat.told ((stp (box r ws) [(c : Int) :: ofs ms]).2 :: PyFlat.played stp (stp (box r ws) [(c : Int) :: ofs ms]).1 (cs'.map PyMu53.whole)) = _
    have e2 : stp (box r ws) [(c : Int) :: ofs ms] = (box r' ws', out) := hd
    rw [e2]
    show given ++ ((out.length : Int) :: out ++ PyFlat.told _) = _
    rw [← List.append_assoc]
/-- what is given is no longer than all that is answered -/
theorem Rest.short {l : List Int} {given : List Int} {r : Nat} {ws : List Nat} {place : Nat} (R : Rest l place given r ws) : given.length ≤ (PyMu53.answers l).length := by
  obtain ⟨f, cs, h1, h2, h3⟩ := R.ex
  rw [h3, List.length_append]
  omega
end Wd
/-! The refusals that all calls share. Plain Lean. -/
namespace Wd
inductive Kd where
  | teeth | wheel | tooth | k | points
  deriving DecidableEq
def kinds : Nat → List Kd
  | 0 => [.teeth]
  | 1 => [.teeth]
  | 2 => [.wheel]
  | 3 => [.wheel, .tooth, .k]
  | 4 => [.wheel, .tooth, .tooth]
  | 5 => [.wheel]
  | 6 => [.points]
  | 7 => [.wheel, .tooth, .wheel, .tooth]
  | 8 => [.wheel, .tooth, .wheel, .tooth]
  | 9 => [.wheel]
  | 10 => [.wheel, .wheel]
  | 11 => [.wheel, .wheel, .tooth, .k]
  | 12 => []
  | _ => []
/-- some wheel that is named isn't among the first n -/
def missW (n : Nat) : List Kd → List Nat → Bool
  | k :: ks, m :: ms => (decide (k = .wheel) && decide (n ≤ m)) || missW n ks ms
  | _, _ => false
/-- some tooth that is named isn't among the first r, or k is too great -/
def missT (r : Nat) : List Kd → List Nat → Bool
  | k :: ks, m :: ms => (decide (k = .tooth) && decide (r ≤ m)) || ((decide (k = .k) && decide (100000 < m)) || missT r ks ms)
  | _, _ => false
theorem kinds_len {c : Nat} (h : c ≤ 12) : (kinds c).length = arity c := by
  match c, h with
  | 0, _ => rfl
  | 1, _ => rfl
  | 2, _ => rfl
  | 3, _ => rfl
  | 4, _ => rfl
  | 5, _ => rfl
  | 6, _ => rfl
  | 7, _ => rfl
  | 8, _ => rfl
  | 9, _ => rfl
  | 10, _ => rfl
  | 11, _ => rfl
  | 12, _ => rfl
section
variable {r : Nat} {ws : List Nat} {c : Nat} {ms : List Nat}
theorem refuse_wheel (hr : 0 < r) (hc : c ≤ 12) (hl : ms.length = arity c) (h : missW ws.length (kinds c) ms = true) : due r ws c ms = (box r ws, [-2]) := by
  match c, hc, ms, hl, h with
  | 0, _, [a], _, h => simp [missW, kinds] at h
  | 1, _, [a], _, h => simp [missW, kinds] at h
  | 2, _, [a], _, h =>
    simp [missW, kinds] at h
    show Mu53.step (box r ws) (.figure a) = _
    rw [box_some hr]
    unfold Mu53.step
    simp [h]
  | 3, _, [a, b, d], _, h =>
    simp [missW, kinds] at h
    show Mu53.step (box r ws) (.point a b d) = _
    rw [box_some hr]
    unfold Mu53.step
    simp [h]
  | 4, _, [a, b, d], _, h =>
    simp [missW, kinds] at h
    show Mu53.step (box r ws) (.when a b d) = _
    rw [box_some hr]
    unfold Mu53.step
    simp [h]
  | 5, _, [a], _, h =>
    simp [missW, kinds] at h
    show Mu53.step (box r ws) (.crossings a) = _
    rw [box_some hr]
    unfold Mu53.step
    simp [h]
  | 6, _, [a], _, h => simp [missW, kinds] at h
  | 7, _, [a, b, d, e], _, h =>
    simp [missW, kinds] at h
    show Mu53.step (box r ws) (.common a b d e) = _
    rw [box_some hr]
    unfold Mu53.step
    rcases h with h | h
    · simp [List.getElem?_eq_none h]
    · simp [List.getElem?_eq_none h]
  | 8, _, [a, b, d, e], _, h =>
    simp [missW, kinds] at h
    show Mu53.step (box r ws) (.same a b d e) = _
    rw [box_some hr]
    unfold Mu53.step
    rcases h with h | h
    · simp [List.getElem?_eq_none h]
    · simp [List.getElem?_eq_none h]
  | 9, _, [a], _, h =>
    simp [missW, kinds] at h
    show Mu53.step (box r ws) (.cover a) = _
    rw [box_some hr]
    unfold Mu53.step
    simp [h]
  | 10, _, [a, b], _, h =>
    simp [missW, kinds] at h
    show Mu53.step (box r ws) (.turns a b) = _
    rw [box_some hr]
    unfold Mu53.step
    rcases h with h | h
    · simp [List.getElem?_eq_none h]
    · simp [List.getElem?_eq_none h]
  | 11, _, [a, b, d, e], _, h =>
    simp [missW, kinds] at h
    show Mu53.step (box r ws) (.turn a b d e) = _
    rw [box_some hr]
    unfold Mu53.step
    rcases h with h | h
    · simp [List.getElem?_eq_none h]
    · simp [List.getElem?_eq_none h]
  | 12, _, [], _, h => simp [missW, kinds] at h
theorem refuse_tooth (hr : 0 < r) (hc : c ≤ 12) (hl : ms.length = arity c) (hw : missW ws.length (kinds c) ms = false) (h : missT r (kinds c) ms = true) : due r ws c ms = (box r ws, [-1]) := by
  match c, hc, ms, hl, hw, h with
  | 0, _, [a], _, hw, h => simp [missT, kinds] at h
  | 1, _, [a], _, hw, h => simp [missT, kinds] at h
  | 2, _, [a], _, hw, h => simp [missT, kinds] at h
  | 3, _, [a, b, d], _, hw, h =>
    simp [missT, kinds] at h
    simp [missW, kinds] at hw
    show Mu53.step (box r ws) (.point a b d) = _
    rw [box_some hr]
    unfold Mu53.step
    simp [List.getElem?_eq_getElem hw, h, Mu53.LATE]
  | 4, _, [a, b, d], _, hw, h =>
    simp [missT, kinds] at h
    simp [missW, kinds] at hw
    show Mu53.step (box r ws) (.when a b d) = _
    rw [box_some hr]
    unfold Mu53.step
    simp [List.getElem?_eq_getElem hw, h, Mu53.LATE]
  | 5, _, [a], _, hw, h => simp [missT, kinds] at h
  | 6, _, [a], _, hw, h => simp [missT, kinds] at h
  | 7, _, [a, b, d, e], _, hw, h =>
    simp [missT, kinds] at h
    simp [missW, kinds] at hw
    show Mu53.step (box r ws) (.common a b d e) = _
    rw [box_some hr]
    unfold Mu53.step
    simp [List.getElem?_eq_getElem hw.1, List.getElem?_eq_getElem hw.2, h, Mu53.LATE]
  | 8, _, [a, b, d, e], _, hw, h =>
    simp [missT, kinds] at h
    simp [missW, kinds] at hw
    show Mu53.step (box r ws) (.same a b d e) = _
    rw [box_some hr]
    unfold Mu53.step
    simp [List.getElem?_eq_getElem hw.1, List.getElem?_eq_getElem hw.2, h, Mu53.LATE]
  | 9, _, [a], _, hw, h => simp [missT, kinds] at h
  | 10, _, [a, b], _, hw, h => simp [missT, kinds] at h
  | 11, _, [a, b, d, e], _, hw, h =>
    simp [missT, kinds] at h
    simp [missW, kinds] at hw
    show Mu53.step (box r ws) (.turn a b d e) = _
    rw [box_some hr]
    unfold Mu53.step
    simp [List.getElem?_eq_getElem hw.1, List.getElem?_eq_getElem hw.2, h, Mu53.LATE]
  | 12, _, [], _, hw, h => simp [missT, kinds] at h
theorem fits (hr : c = 0 ∨ 0 < r) (hc : c ≤ 12) (hl : ms.length = arity c) (hw : missW ws.length (kinds c) ms = false) (h : missT r (kinds c) ms = false) : fit r ws c ms := by
  match c, hc, ms, hl, hw, h with
  | 0, _, [a], _, hw, h => exact trivial
  | 1, _, [a], _, hw, h =>
    simp [missT, kinds] at h
    simp [missW, kinds] at hw
    simp [fit]
    try omega
  | 2, _, [a], _, hw, h =>
    simp [missT, kinds] at h
    simp [missW, kinds] at hw
    simp [fit]
    try omega
  | 3, _, [a, b, d], _, hw, h =>
    simp [missT, kinds] at h
    simp [missW, kinds] at hw
    simp [fit]
    try omega
  | 4, _, [a, b, d], _, hw, h =>
    simp [missT, kinds] at h
    simp [missW, kinds] at hw
    simp [fit]
    try omega
  | 5, _, [a], _, hw, h =>
    simp [missT, kinds] at h
    simp [missW, kinds] at hw
    simp [fit]
    try omega
  | 6, _, [a], _, hw, h =>
    simp [missT, kinds] at h
    simp [missW, kinds] at hw
    simp [fit]
    try omega
  | 7, _, [a, b, d, e], _, hw, h =>
    simp [missT, kinds] at h
    simp [missW, kinds] at hw
    simp [fit]
    try omega
  | 8, _, [a, b, d, e], _, hw, h =>
    simp [missT, kinds] at h
    simp [missW, kinds] at hw
    simp [fit]
    try omega
  | 9, _, [a], _, hw, h =>
    simp [missT, kinds] at h
    simp [missW, kinds] at hw
    simp [fit]
    try omega
  | 10, _, [a, b], _, hw, h =>
    simp [missT, kinds] at h
    simp [missW, kinds] at hw
    simp [fit]
    try omega
  | 11, _, [a, b, d, e], _, hw, h =>
    simp [missT, kinds] at h
    simp [missW, kinds] at hw
    simp [fit]
    try omega
  | 12, _, [], _, hw, h =>
    simp [missT, kinds] at h
    simp [missW, kinds] at hw
    simp [fit]
    try omega
end
end Wd
/-! zip of a tuple and a list, walked by a for with a target of two names: one more rule of the hand layer. -/
namespace Wd
open PySem PySem.Spec PyProof.Rows L2
/-- the tuple at t and the list at l as they stand at each turn; each pair is new -/
def ItTL (K : PySem.W.Frag) (t l : Addr) : It where
  go := fun n H => ∃ us ws u v, SqT K H t us ∧ SqL K H l ws ∧ us[n]? = some u ∧ ws[n]? = some v
  yld := fun n H x H' => ∃ p u v, x = .ref p ∧ H p = none ∧ H' = upd H p (.tup [u, v]) ∧ (∀ us, SqT K H t us → us[n]? = some u) ∧ ∀ ws, SqL K H l ws → ws[n]? = some v
  stop := fun n H => ∃ us ws, SqT K H t us ∧ SqL K H l ws ∧ (us.length = n ∧ n ≤ ws.length ∨ ws.length = n ∧ n ≤ us.length)
/-- the iterator's five objects behind n turns -/
structure AtTL (t l zz ti to j1 j2 : Addr) (n : Nat) (h : Heap) : Prop where
  z : IsZip h zz ti to .none
  i : IsTupOf2 h ti (.ref j1) (.ref j2)
  o : ∃ x y, IsTupOf2 h to x y
  a : h.IsTupleIter j1 t n
  b : h.IsListIter j2 l n
theorem AtTL.moved {t l zz ti to j1 j2 : Addr} {n : Nat} {h h' : Heap} (S : AtTL t l zz ti to j1 j2 n h) (k : ∀ c ∈ [zz, ti, to, j1, j2], ∀ u, h.get? c = some u → h'.get? c = some u) : AtTL t l zz ti to j1 j2 n h' where
  z := k zz (by simp) _ S.z
  i := k ti (by simp) _ S.i
  o := let ⟨x, y, e⟩ := S.o; ⟨x, y, k to (by simp) _ e⟩
  a := S.a.at fun u e => k j1 (by simp) u e
  b := S.b.at fun u e => k j2 (by simp) u e
theorem AtTL.has {t l zz ti to j1 j2 c : Addr} {n : Nat} {h : Heap} (S : AtTL t l zz ti to j1 j2 n h) (m : c ∈ [zz, ti, to, j1, j2]) : ∃ u, h.get? c = some u ∧ ∀ v, u.data ≠ .cell v := by
  simp only [List.mem_cons, List.not_mem_nil, or_false] at m
  rcases m with rfl | rfl | rfl | rfl | rfl
  · exact ⟨_, S.z, fun _ => nofun⟩
  · exact ⟨_, S.i, fun _ => nofun⟩
  · obtain ⟨_, _, e⟩ := S.o
    exact ⟨_, e, fun _ => nofun⟩
  · obtain ⟨u, e, _, d⟩ := S.a
    exact ⟨u, e, fun v x => nomatch d.symm.trans x⟩
  · obtain ⟨u, e, _, d⟩ := S.b
    exact ⟨u, e, fun v x => nomatch d.symm.trans x⟩
theorem turn_TL {P : Program} {w : World} {K : PySem.W.Frag} {elts : List Expr} {kk : Nat} {tpos : Pos} {t l zz ti to j1 j2 : Addr} (S : ZipSep2 zz ti to j1 j2 [j1, t] [j2, l]) (n1 : t ≠ j1) (n2 : l ≠ j2) :
    Turn P w K (.Tuple elts kk tpos) (ItTL K t l) [zz, ti, to, j1, j2] zz (AtTL t l zz ti to j1 j2) where
  mem := List.mem_cons_self ..
  obj := fun _ _ st _ m => st.has m
  keep := fun _ _ _ st k => st.moved k
  item := by
    rintro X rfl rfl rfl hc n pins s σ H E I hf st ⟨us, ws, u, v, qt, ql, eu, ev⟩
    obtain ⟨as, ra, pa, _⟩ := I.tuple qt
    obtain ⟨bs, rb, pb, _⟩ := I.list ql
    obtain ⟨xu, xe, xr⟩ := ra.get eu
    obtain ⟨yu, ye, yr⟩ := rb.get ev
    have hh : X.A.in1.handled = none := I.ok.hd hc
    have G := GoesN.zip2 (prog := X.prog) (w := X.w) (A := X.A) (elts := elts) (x1 := kk) (pos := tpos) S (Draws.tuple hh j1 t n1 as.toArray) (Draws.list hh j2 l n2 bs.toArray)
    have la : n < as.length := (List.getElem?_eq_some_iff.mp xe).1
    have lb : n < bs.length := (List.getElem?_eq_some_iff.mp ye).1
    refine G.goes n s _ E (by simp; omega) ⟨st.z, st.i, st.o, ⟨st.a, pa⟩, st.b, pb.isList⟩ fun r h' tk y st' k _ => ?_
    obtain ⟨p, x1, y1, rfl, fresh, ex, ey, tup⟩ := y
    have e1 : xu = x1 := by
      have z : as[n]? = some x1 := by simpa using ex
      exact Option.some.inj (xe.symm.trans z)
    have e2 : yu = y1 := by
      have z : bs[n]? = some y1 := by simpa using ey
      exact Option.some.inj (ye.symm.trans z)
    subst e1 e2
    have wr : ∀ c, c ∈ [zz, to, j1, j2] → c ∈ [zz, ti, to, j1, j2] := fun c m => by
      simp only [List.mem_cons, List.not_mem_nil, or_false] at m ⊢
      rcases m with m | m | m | m <;> simp [m]
    refine ⟨.ref p, _, I.turnedNew (t' := tk) (ob := .tup [u, v]) k (fun c m => hf c (wr c m)) fresh ⟨by show 2 ≤ sizeLine; decide, [xu, yu], .cons xr (.cons yr .nil), tup⟩, rfl,
      ⟨p, u, v, rfl, I.hok.fresh fresh, rfl, fun l' q => I.tuple_inj q qt ▸ eu, fun l' q => I.list_inj q ql ▸ ev⟩, ⟨st'.1, st'.2.1, st'.2.2.1, st'.2.2.2.1.1, st'.2.2.2.2.1⟩, fun c m => ?_⟩
    obtain ⟨o, eo, _⟩ := st.has m
    rw [upd_ne (Nat.ne_of_lt (Nat.lt_of_lt_of_le (Heap.lt_size eo) fresh))]
    exact (hf c m).1
  done := by
    rintro X rfl rfl rfl hc n pins s σ H E I hf st ⟨us, ws, qt, ql, en⟩
    obtain ⟨as, ra, pa, _⟩ := I.tuple qt
    obtain ⟨bs, rb, pb, _⟩ := I.list ql
    have la := ra.length
    have lb := rb.length
    have hh : X.A.in1.handled = none := I.ok.hd hc
    have G := GoesN.zip2 (prog := X.prog) (w := X.w) (A := X.A) (elts := elts) (x1 := kk) (pos := tpos) S (Draws.tuple hh j1 t n1 as.toArray) (Draws.list hh j2 l n2 bs.toArray)
    have em : min as.toArray.size bs.toArray.size = n := by
      simp only [List.size_toArray]
      omega
    have wr : ∀ c, c ∈ [zz, to, j1, j2] → c ∈ [zz, ti, to, j1, j2] := fun c m => by
      simp only [List.mem_cons, List.not_mem_nil, or_false] at m ⊢
      rcases m with m | m | m | m <;> simp [m]
    rw [em] at G
    exact G.stops s _ E ⟨st.z, st.i, st.o, ⟨st.a, pa⟩, st.b, pb.isList⟩ fun h' tk k _ => I.turnedL (t' := tk) k (fun c m => hf c (wr c m))
  self := fun _ _ _ _ _ st h => wpAny_pyIter_zip st.z h
/-- what zip(a tuple, a list) asks -/
def iZipTL (K : PySem.W.Frag) (ta : TA) : TI := fun σ H R => ta σ H fun vs H1 => ∃ t l us ws, vs = [.ref t, .ref l] ∧ SqT K H1 t us ∧ SqL K H1 l ws ∧ R (ItTL K t l) H1
theorem pi_zipTL {X : Cx} {e e2 : Expr} {ta : TA} {p pos tpos : Pos} {elts : List Expr} {kk : Nat} (hg : Gl X "zip") (hm : X.mg "zip" = none) (ha : PA X [e, e2] ta)
    (st : starEach [e, e2] X.env = (false, eval e X.env) :: starEach [e2] X.env := by rfl) (pl : (backTo pos (starEach [e2] X.env)).any (·.1) = false := by rfl) :
    PI X (.Tuple elts kk tpos) (.Call (.Name "zip" p) [e, e2] [] pos) (iZipTL X.K ta) where
  run := fun pins s σ H R I h => by
    refine Call_ (ld_blt I hg hm boot_zip (callWith_type1 (thn (ha.run pos pins s σ H _ I h) ?_) st pl))
    rintro us s1 ⟨vs, H1, I1, r1, t, l, as, bs, rfl, qt, ql, q⟩
    obtain _ | ⟨ra, _ | ⟨rb, _ | _⟩⟩ := r1
    cases ra
    cases rb
    obtain ⟨ia, va, pa, _⟩ := I1.tuple qt
    obtain ⟨ib, vb, pb, _⟩ := I1.list ql
    have lt : t < s1.heap.objs.size := let ⟨o, ho, _⟩ := pa; Heap.lt_size ho
    have ll : l < s1.heap.objs.size := pb.lt
    refine zip_begins2 (begins_tuple t ia.toArray) (begins_list l ib.toArray) pa pb.isList fun h' hz hi ho g1 g2 _ k => wpAny_pyIter_zip hz ?_
    refine ⟨_, _, _, _, H1, rfl, I1.kept (t' := s1.toks) k, turn_TL (zip_sep2 (N := s1.heap.objs.size) (fp1 := [t]) (fp2 := [l]) (by simpa using lt) (by simpa using ll)) (Nat.ne_of_lt lt) (Nat.ne_of_lt (Nat.lt_succ_of_lt ll)),
      ⟨hz, hi, ⟨_, _, ho⟩, ⟨_, g1, rfl, rfl⟩, ⟨_, g2, rfl, rfl⟩⟩, fun c m => ?_, q⟩
    have le : s1.heap.objs.size ≤ c := by
      simp only [List.mem_cons, List.not_mem_nil, or_false] at m
      rcases m with m | m | m | m | m <;> (rw [m]; first | exact Nat.le_refl _ | exact Nat.le_add_right _ _)
    exact I1.fpOk le (I1.hok.fresh le)
/-- a loop over zip of a tuple and a list of one length -/
theorem for_zipTL {K : PySem.W.Frag} {t l : Addr} {us ws : List V} {g : TG} {tb : TS} {D : Ends} {σ : L2.St} {H : Hp} (hl : us.length = ws.length) (Pv : Nat → L2.St → Hp → Prop) (h0 : Pv 0 σ H) (hq : ∀ n σ H, Pv n σ H → SqT K H t us ∧ SqL K H l ws)
    (hs : ∀ (n : Nat) (u v : V) (p : Addr) (σ : L2.St) (H : Hp), us[n]? = some u → ws[n]? = some v → Pv n σ H → H p = none → g (.ref p) σ (upd H p (.tup [u, v])) fun σ2 H2 => tb { D with nx := Pv (n + 1), ct := Pv (n + 1), bk := D.nx } σ2 H2)
    (hd : ∀ σ H, Pv us.length σ H → D.nx σ H) :
    ∃ W : Nat → Nat → L2.St → Hp → Prop, (∃ m, W 0 m σ H) ∧ ∀ n m σ H, W n m σ H →
      ((ItTL K t l).stop n H ∧ D.nx σ H) ∨ ((ItTL K t l).go n H ∧ ∃ N : L2.St → Hp → Prop, (∀ σ' H', N σ' H' → ∃ m', m' < m ∧ W (n + 1) m' σ' H') ∧ ∀ x H', (ItTL K t l).yld n H x H' → g x σ H' fun σ2 H2 => tb { D with nx := N, ct := N, bk := D.nx } σ2 H2) := by
  refine ⟨fun n m σ H => m + n = us.length ∧ Pv n σ H, ⟨us.length, rfl, h0⟩, ?_⟩
  rintro n m σ H ⟨e, pv⟩
  obtain ⟨qt, ql⟩ := hq n σ H pv
  cases m with
  | zero =>
    have e' : n = us.length := by omega
    subst e'
    exact .inl ⟨⟨us, ws, qt, ql, .inl ⟨rfl, by omega⟩⟩, hd σ H pv⟩
  | succ m =>
    have la : n < us.length := by omega
    have lb : n < ws.length := by omega
    refine .inr ⟨⟨us, ws, us[n], ws[n], qt, ql, List.getElem?_eq_getElem la, List.getElem?_eq_getElem lb⟩, Pv (n + 1), fun σ' H' pv' => ⟨m, Nat.lt_succ_self m, by omega, pv'⟩, ?_⟩
    rintro x H' ⟨p, u, v, rfl, np, rfl, fu, fv⟩
    exact hs n u v p σ H (fu _ qt) (fv _ ql) pv np
end Wd
/-! len(set(xs)) of a list of ints in which some may stand more than once: one more rule of the hand layer. -/
namespace Wd
open PySem PySem.Spec PyProof.Rows L2
theorem ints_here : ∀ {zs : List Int} {us : List Value}, Vals (zs.map V.int) us → IntsAre us zs
  | [], _, .nil => .nil
  | z :: zs, _, .cons h rest => by
    obtain ⟨t, rfl⟩ := h
    exact .cons z t (ints_here rest)
/-- how many there are, each counted once -/
def tCount (K : PySem.W.Frag) (ta : TE) : TE := fun σ H Q => ta σ H fun x H1 => ∃ (l : Addr) (zs : List Int), x = .ref l ∧ SqL K H1 l (zs.map V.int) ∧ zs.length ≤ 1000 ∧ Q (.int ((PySem.W.ossOf zs).length : Nat)) H1
theorem pe_count {X : Cx} {e : Expr} {t : TE} {p1 p2 p3 p4 : Pos} (gl : Gl X "len") (ml : X.mg "len" = none) (gs : Gl X "set") (ms : X.mg "set" = none) (he : PE X e t) (calm : X.calm = true := by rfl)
    (st : starEach [e] X.env = (false, eval e X.env) :: starEach [] X.env := by rfl) : PE X (.Call (.Name "len" p1) [.Call (.Name "set" p2) [e] [] p3] [] p4) (tCount X.K t) := by
  constructor
  intro pins s σ H Q I h
  apply Call_ (ld_blt I gl ml boot_len _)
  apply PyProof.Rows.callWith_builtin1 (PyProof.Rows.args_cons _ rfl) rfl rfl
  apply Call_ (ld_blt I gs ms boot_set _)
  apply PyProof.Rows.callWith_type1 (PyProof.Rows.args_cons (thn (he.run pins s σ H _ I h) _) st) st rfl
  rintro v s1 ⟨x, H1, I1, rx, l, zs, rfl, hq, hz, q⟩
  apply PyProof.Rows.args_nil
  cases rx
  obtain ⟨us, ru, hu, _⟩ := I1.list hq
  have size : us.toArray.size = zs.length := by rw [List.size_toArray, ← ru.length, List.length_map]
  have room : us.toArray.size + 1 < scanBound := by rw [size]; unfold scanBound; omega
  apply call_set_list (ns := zs) (I1.ok.hd calm) hu.isList (ints_here ru) room
  intro h' tk hS kept
  apply PyProof.Rows.args_nil
  rw [size, PySem.W.oss_met] at hS
  obtain ⟨o, es, ep, tb, ho, hx, hd, _, _, _, hf, hn⟩ := hS
  have I2 : Inv X pins σ H1 { s1 with heap := h', toks := tk } := I1.kept fun b o e => kept b o (Heap.lt_size e) e
  have le := PySem.W.oss_len zs
  exact call_len_set ho hx hd hf (by rw [hn]; omega) ⟨.int (PySem.W.ossOf zs).length, H1, I2.tok _, ⟨_, by rw [hn]⟩, q⟩
theorem oss_nodup (zs : List Int) : (PySem.W.ossOf zs).Nodup := by
  have key : ∀ ys : List Int, (PySem.W.ossOf ys.reverse).Nodup := by
    intro ys
    induction ys with
    | nil => exact List.nodup_nil
    | cons y ys ih =>
      rw [List.reverse_cons, PySem.W.oss_next]
      by_cases m : y ∈ PySem.W.ossOf ys.reverse
      · rw [if_pos m]
        exact ih
      · rw [if_neg m]
        refine List.nodup_append.mpr ⟨ih, by simp, fun a ha b hb e => m ?_⟩
        rw [List.mem_singleton] at hb
        rw [← hb, ← e]
        exact ha
  have := key zs.reverse
  rw [List.reverse_reverse] at this
  exact this
end Wd
/-! The program's text by places, the box in the heap, the promise of a call. -/
namespace Wd
open PySem PySem.Spec PyProof.Rows L2
/-! ### the text -/
def top (i : Nat) : Stmt := PySem.Challenge.pw_wheeldrawn_s01_answers.main.body.getD i (.Pass ⟨0, 0, 0, 0⟩)
abbrev sInit : Stmt := inClass (top 12) 0
abbrev sGcd : Stmt := top 13
abbrev sPar : Stmt := top 14
abbrev sBegin : Stmt := top 15
abbrev sWheel : Stmt := top 16
abbrev sFigure : Stmt := top 17
abbrev sPoint : Stmt := top 18
abbrev sWhen : Stmt := top 19
abbrev sCross : Stmt := top 20
abbrev sMake : Stmt := top 21
abbrev sComes : Stmt := top 22
abbrev sCommon : Stmt := top 23
abbrev sSame : Stmt := top 24
abbrev sCover : Stmt := top 25
abbrev sPlace : Stmt := top 26
abbrev sPit : Stmt := top 27
abbrev sTurns : Stmt := top 28
abbrev sTurn : Stmt := top 29
abbrev sLook : Stmt := top 30
abbrev sMissW : Stmt := top 32
abbrev sMissT : Stmt := top 33
abbrev sAnswer : Stmt := top 34
abbrev sAnswers : Stmt := top 35
/-! ### values -/
def iv (ms : List Nat) : List V := ms.map fun (n : Nat) => V.int (n : Int)
theorem iv_at {ms : List Nat} {i n : Nat} (h : ms[i]? = some n) : atI (iv ms) (i : Int) = some (.int (n : Int)) := atI_nat (by unfold iv; rw [List.getElem?_map, h]; rfl)
theorem iv_len (ms : List Nat) : (iv ms).length = ms.length := List.length_map ..
theorem iv_ofs (ms : List Nat) : (ofs ms).map V.int = iv ms := by
  unfold ofs iv
  rw [List.map_map]
  rfl
def Kd.s : Kd → Str
  | .teeth => "teeth"
  | .wheel => "wheel"
  | .tooth => "tooth"
  | .k => "k"
  | .points => "points"
def kv (ks : List Kd) : List V := ks.map fun k => V.str k.s
theorem kv_at {ks : List Kd} {i : Nat} {k : Kd} (h : ks[i]? = some k) : (kv ks)[i]? = some (.str k.s) := by
  unfold kv
  rw [List.getElem?_map, h]
  rfl
/-! ### the box -/
def bF (r : Nat) (lw : Addr) : List (Str × V) := [("teeth", .int (r : Int)), ("wheels", .ref lw)]
theorem lk_here {k : Str} {v : V} {r : List (Str × V)} : List.lookup k ((k, v) :: r) = some v := by
  have e : (k == k) = true := beq_self_eq_true k
  simp only [List.lookup, e]
theorem lk_past {k g : Str} {v : V} {r : List (Str × V)} (h : (k == g) = false) : List.lookup k ((g, v) :: r) = List.lookup k r := by
  simp only [List.lookup, h]
theorem put_here {f : Str} {v x : V} {r : List (Str × V)} : putF f v ((f, x) :: r) = (f, v) :: r := if_pos rfl
theorem put_past {f g : Str} {v x : V} {r : List (Str × V)} (h : ¬ g = f) : putF f v ((g, x) :: r) = (g, x) :: putF f v r := if_neg h
theorem bF_teeth (r : Nat) (lw : Addr) : (bF r lw).lookup ("teeth" : Str) = some (.int (r : Int)) := lk_here
theorem bF_wheels (r : Nat) (lw : Addr) : (bF r lw).lookup ("wheels" : Str) = some (.ref lw) := (lk_past (by decide +kernel)).trans lk_here
theorem bF_putT (r r' : Nat) (lw : Addr) : putF "teeth" (.int (r' : Int)) (bF r lw) = bF r' lw := put_here
theorem bF_putW (r : Nat) (lw lw' : Addr) : putF "wheels" (.ref lw') (bF r lw) = bF r lw' := (put_past (by decide +kernel)).trans (congrArg _ put_here)
theorem bF_new (lw : Addr) : putF "wheels" (.ref lw) (putF "teeth" (.int 0) []) = bF 0 lw := (put_past (by decide +kernel)).trans rfl
/-- a Box stands at a, its wheels in the list at lw -/
structure BoxAt (C : Addr) (H : Hp) (a lw : Addr) (r : Nat) (ws : List Nat) : Prop where
  ex : ∃ dx, H a = some (.ins C dx (bF r lw))
  lst : H lw = some (.lst (iv ws))
theorem BoxAt.same {C : Addr} {H H' : Hp} {a lw : Addr} {r : Nat} {ws : List Nat} (B : BoxAt C H a lw r ws) (s : Same H H') : BoxAt C H' a lw r ws :=
  ⟨let ⟨dx, e⟩ := B.ex; ⟨dx, s _ _ e⟩, s _ _ B.lst⟩
theorem BoxAt.ne {C : Addr} {H : Hp} {a lw : Addr} {r : Nat} {ws : List Nat} (B : BoxAt C H a lw r ws) : a ≠ lw := by
  obtain ⟨dx, e⟩ := B.ex
  exact ne_of e B.lst (by intro q; cases q)
theorem Same.new {H : Hp} {p : Addr} {o : HO} (h : H p = none) : Same H (upd H p o) := fun b u e => by
  rw [upd_ne (ne_of_none e h)]
  exact e
/-- what a call has done: p is a new list of what is answered -/
structure Out (C : Addr) (H : Hp) (bx lw : Addr) (r : Nat) (ws : List Nat) (c : Nat) (ms : List Nat) (p : Addr) (H' : Hp) : Prop where
  new : H p = none
  ex : ∃ lw' r' ws' out, due r ws c ms = (box r' ws', out) ∧ Good r' ws' ∧ BoxAt C H' bx lw' r' ws' ∧ (lw' = lw ∨ H lw' = none) ∧ H' p = some (.lst (out.map V.int))
  kept : ∀ b o, H b = some o → b ≠ bx → b ≠ lw → H' b = some o
theorem Out.plain {C : Addr} {H : Hp} {bx lw : Addr} {r : Nat} {ws : List Nat} {c : Nat} {ms : List Nat} {p : Addr} {H' : Hp} {out : List Int} (B : BoxAt C H bx lw r ws) (G : Good r ws) (s : Same H H') (n : H p = none)
    (e : H' p = some (.lst (out.map V.int))) (d : due r ws c ms = (box r ws, out)) : Out C H bx lw r ws c ms p H' :=
  ⟨n, ⟨lw, r, ws, out, d, G, B.same s, .inl rfl, e⟩, fun b o h _ _ => s b o h⟩
/-- the promise of the def that answers the call c, behind the common refusals -/
def spCall (K : PySem.W.Frag) (C : Addr) (c : Nat) : Sp := fun vs H Q _ => ∃ (bx lw nl : Addr) (r : Nat) (ws ms : List Nat),
  vs = [.ref bx, .ref nl] ∧ BoxAt C H bx lw r ws ∧ Good r ws ∧ SqL K H nl (iv ms) ∧ fit r ws c ms ∧ ∀ (p : Addr) (H' : Hp), Out C H bx lw r ws c ms p H' → Q (.ref p) H'
/-! ### what the top has written -/
structure Txt (K : PySem.W.Frag) (mg : Str → Option Value) (C : Addr) : Prop where
  cl : Cls K C
  nT : NoAttr K C "teeth"
  nW : NoAttr K C "wheels"
  gB : mg "Box" = some (.ref C)
  few : ∃ t, mg "FEWEST_TEETH" = some (.int 3 t)
  most : ∃ t, mg "MOST_TEETH" = some (.int 60 t)
  six : ∃ t, mg "MOST_WHEELS" = some (.int 6 t)
  late : ∃ t, mg "LAST_POINT" = some (.int 100000 t)
  m1 : ∃ t, mg "OUT_OF_RANGE" = some (.int (-1) t)
  m2 : ∃ t, mg "NO_WHEEL" = some (.int (-2) t)
  m5 : ∃ t, mg "BOX_FULL" = some (.int (-5) t)
  m6 : ∃ t, mg "NEVER" = some (.int (-6) t)
  m9 : ∃ t, mg "NO_BOX" = some (.int (-9) t)
  z0 : ∃ t, mg "BEGIN" = some (.int 0 t)
  len : mg "len" = none
  zip : mg "zip" = none
  range : mg "range" = none
  min : mg "min" = none
  set_ : mg "set" = none
theorem pe_gi {X : Cx} {x : Str} {z : Int} {pos : Pos} (hg : Gl X x) (h : ∃ t, X.mg x = some (.int z t)) (hd : (x == ("__debug__" : Str)) = false := by decide) : PE X (.Name x pos) (tC (.int z)) :=
  let ⟨t, e⟩ := h
  pe_glob hg e ⟨t, rfl⟩ hd
/-- an if whose test is known -/
theorem if_t {c : Bool} {A B : Prop} (hc : c = true) (h : A) : if c = true then A else B := by
  rw [if_pos hc]
  exact h
theorem if_f {c : Bool} {A B : Prop} (hc : c = false) (h : B) : if c = true then A else B := by
  rw [hc, if_neg Bool.false_ne_true]
  exact h
end Wd
/-! Box.__init__, common_divisor, points_and_rounds. -/
namespace Wd
open PySem PySem.Spec PyProof.Rows L2
section
variable {P : Program} {w : World} {K : PySem.W.Frag} {mg : Str → Option Value} {base : Heap} {C : Addr}
def spInit (C : Addr) : Sp := fun vs H Q _ => ∃ (p dx : Addr), vs = [.ref p] ∧ H p = some (.ins C dx []) ∧
  ∀ (H' : Hp) (lw : Addr), BoxAt C H' p lw 0 [] → H lw = none → (∀ b o, H b = some o → b ≠ p → H' b = some o) → Q .non H'
theorem scInit : FnScope ["self"] ["self"] (defScope sInit) := ⟨rfl, rfl, rfl, by decide +kernel, rfl, by decide +kernel, by decide +kernel⟩
theorem ok_init {f : Addr} {fd : FuncData} (F : Fun K "__init__" "Box.__init__" sInit f fd) (T : Txt K mg C) : FnOk P w K mg base CX0 1 f fd ["self"] (spInit C) := by
  refine F.ok scInit (fun vs H Q E h => ?_) (fun cdv A outer s H vs Q E hr h => ?_)
  · obtain ⟨p, dx, rfl, _⟩ := h
    rfl
  · obtain ⟨p, dx, rfl, hp, k⟩ := h
    refine ⟨_, pss_cons (ps_fld (pv 0) pe_int rfl) (pss_one (ps_fld (pv 0) (pe_lst pa_nil) rfl)), ?_⟩
    refine ⟨_, rfl, p, C, dx, [], rfl, hp, T.cl, T.nT, (by show 0 < 1000; decide), Nat.zero_le _, fun lw hlw => ?_⟩
    have n1 : H lw = none := by
      by_cases e : lw = p
      · rw [e, upd_same] at hlw
        cases hlw
      · rw [upd_ne e] at hlw
        exact hlw
    have ne : p ≠ lw := ne_of_none hp n1
    refine ⟨_, rfl, p, C, dx, _, rfl, (upd_ne ne).trans upd_same, T.cl, T.nW, (by show 1 < 1000; decide), ?_⟩
    refine k _ lw ⟨⟨dx, Eq.trans upd_same (congrArg (fun q => some (HO.ins C dx q)) (bF_new lw))⟩, (upd_ne ne.symm).trans upd_same⟩ n1 fun b o e hb => ?_
    rw [upd_ne hb, upd_ne (ne_of_none e n1), upd_ne hb]
    exact e
def spGcd : Sp := fun vs H Q _ => ∃ a b : Nat, vs = [.int (a : Int), .int (b : Int)] ∧ Q (.int ((Nat.gcd a b : Nat) : Int)) H
theorem scGcd : FnScope ["one", "other", "rest"] ["one", "other"] (defScope sGcd) := ⟨rfl, rfl, rfl, by decide +kernel, rfl, by decide +kernel, by decide +kernel⟩
def gcdLeft : L2.St → Nat
  | [_, some (.int y), _] => y.toNat
  | _ => 0
theorem ok_gcd {f : Addr} {fd : FuncData} (F : Fun K "common_divisor" "common_divisor" sGcd f fd) : FnOk P w K mg base CX0 1 f fd ["one", "other"] spGcd := by
  refine F.ok scGcd (fun vs H Q E h => ?_) (fun cdv A outer s H vs Q E hr h => ?_)
  · obtain ⟨a, b, rfl, _⟩ := h
    rfl
  · obtain ⟨a, b, rfl, k⟩ := h
    refine ⟨_, pss_cons (ps_while PassesOwn.never (pt_cmpR op_ne (pv 1) pe_int (nomark _))
        (pss_cons (ps_set (i := 2) scGcd.nd rfl (Or.inl rfl) (pe_op op_mod (pv 0) (pv 1)))
        (pss_cons (ps_set (i := 0) scGcd.nd rfl (Or.inl rfl) (pv 1))
        (pss_one (ps_set (i := 1) scGcd.nd rfl (Or.inl rfl) (pv 2))))))
      (pss_one (ps_ret (pv 0))), ?_⟩
    refine while_by (fun σ H' => ∃ (x y : Nat) (v : Option V), σ = [some (.int (x : Int)), some (.int (y : Int)), v] ∧ H' = H ∧ Nat.gcd x y = Nat.gcd a b) (fun σ _ => gcdLeft σ) ⟨a, b, none, rfl, rfl, rfl⟩ ?_ ?_
    · rintro σ H' ⟨x, y, v, rfl, rfl, e⟩
      refine ⟨_, rfl, rfl, _, rfl, ?_⟩
      by_cases hy : y = 0
      · subst hy
        refine if_f (by decide) ?_
        refine ⟨_, rfl, ?_⟩
        rw [Nat.gcd_zero_right] at e
        rw [e]
        exact k
      · refine if_t ?_ ?_
        · have : ¬ V.int (y : Int) = V.int 0 := fun q => hy (by injection q; omega)
          simp [this]
        · have hy0 : 0 < y := Nat.pos_of_ne_zero hy
          refine ⟨_, rfl, _, rfl, _, _, rfl, rfl, (by show (0 : Int) < (y : Int); omega), _, rfl, _, rfl, ⟨y, x % y, _, rfl, rfl, ?_⟩, ?_⟩
          · rw [← e, Nat.gcd_comm x y, Nat.gcd_rec y x, Nat.gcd_comm]
          · show ((x : Int) % (y : Int)).toNat < ((y : Int)).toNat
            have := Nat.mod_lt x hy0
            omega
    · rintro σ H' Q1 Q2 h ⟨v, e, s, b, eb, q⟩
      exact ⟨v, e, s, b, eb, h _ _ q⟩
/-- points and rounds, in a new tuple -/
def spPar : Sp := fun vs H Q _ => ∃ r w : Nat, vs = [.int (r : Int), .int (w : Int)] ∧ 0 < r ∧ r ≤ 60 ∧
  ∀ p : Addr, H p = none → Q (.ref p) (upd H p (.tup [.int ((Mu53.points r w : Nat) : Int), .int ((Mu53.rounds r w : Nat) : Int)]))
theorem scPar : FnScope ["teeth", "step", "gap"] ["teeth", "step"] (defScope sPar) := ⟨rfl, rfl, rfl, by decide +kernel, rfl, by decide +kernel, by decide +kernel⟩
theorem ok_par {f g : Addr} {fd gd : FuncData} (F : Fun K "points_and_rounds" "points_and_rounds" sPar f fd) (G : Fun K "common_divisor" "common_divisor" sGcd g gd) (bG : Binds K gd ["one", "other"] []) (mG : mg "common_divisor" = some (.ref g)) :
    FnOk P w K mg base CX0 2 f fd ["teeth", "step"] spPar := by
  refine F.ok scPar (fun vs H Q E h => ?_) (fun cdv A outer s H vs Q E hr h => ?_)
  · obtain ⟨r, w, rfl, _⟩ := h
    rfl
  · obtain ⟨r, w, rfl, h0, h60, k⟩ := h
    refine ⟨_, pss_cons (ps_set (i := 2) scPar.nd rfl (Or.inl rfl) (pe_call (ok_gcd G) hr rfl mG G.kp bG .nil pass0 (pa_cons (pv 0) (pa_cons (pv 1) pa_nil))))
      (pss_one (ps_ret (pe_tup (pa_cons (pe_op op_fdiv (pv 0) (pv 2)) (pa_cons (pe_op op_fdiv (pv 1) (pv 2)) pa_nil))))), ?_⟩
    have gp : 0 < Nat.gcd r w := Nat.gcd_pos_of_pos_left w h0
    have gl : Nat.gcd r w ≤ r := Nat.gcd_le_left w h0
    have cd : (0 : Int) < ((Nat.gcd r w : Nat) : Int) ∧ ((Nat.gcd r w : Nat) : Int) < 1073741824 := by omega
    refine ⟨_, rfl, _, rfl, r, w, rfl, ?_⟩
    exact ⟨_, rfl, _, rfl, _, _, rfl, rfl, cd, _, rfl, _, rfl, _, _, rfl, rfl, cd, (by show 2 ≤ sizeLine; decide), fun p hp => k p hp⟩
end
end Wd
/-! begin, wheel, figure, point. -/
namespace Wd
open PySem PySem.Spec PyProof.Rows L2
section
variable {P : Program} {w : World} {K : PySem.W.Frag} {mg : Str → Option Value} {base : Heap} {C : Addr}
theorem spCall_len {c : Nat} (vs : List V) (H : Hp) (Q : VK) (E : XK) (h : spCall K C c vs H Q E) : vs.length = (["box", "numbers"] : List Str).length := by
  obtain ⟨_, _, _, _, _, _, rfl, _⟩ := h
  rfl
theorem fit1 {r c : Nat} {ws ms : List Nat} (hc : arity c = 1) (h : fit r ws c ms) : ∃ n, ms = [n] := by
  match c, ms, h with
  | 0, [n], _ => exact ⟨n, rfl⟩
  | 1, [n], _ => exact ⟨n, rfl⟩
  | 2, [n], _ => exact ⟨n, rfl⟩
  | 5, [n], _ => exact ⟨n, rfl⟩
  | 6, [n], _ => exact ⟨n, rfl⟩
  | 9, [n], _ => exact ⟨n, rfl⟩
  | 3, _, _ => cases hc
  | 4, _, _ => cases hc
  | 7, _, _ => cases hc
  | 8, _, _ => cases hc
  | 10, _, _ => cases hc
  | 11, _, _ => cases hc
  | 12, _, _ => cases hc
theorem scBegin : FnScope ["box", "numbers", "teeth"] ["box", "numbers"] (defScope sBegin) := ⟨rfl, rfl, rfl, by decide +kernel, rfl, by decide +kernel, by decide +kernel⟩
theorem ok_begin {f : Addr} {fd : FuncData} (F : Fun K "begin" "begin" sBegin f fd) (T : Txt K mg C) : FnOk P w K mg base CX0 1 f fd ["box", "numbers"] (spCall K C 0) := by
  refine F.ok scBegin spCall_len (fun cdv A outer s H vs Q E hr h => ?_)
  obtain ⟨bx, lw, nl, r, ws, ms, rfl, B, G, hn, ft, k⟩ := h
  obtain ⟨n, rfl⟩ := fit1 rfl ft
  obtain ⟨dx, hb⟩ := B.ex
  refine ⟨_, pss_cons (ps_set (i := 2) scBegin.nd rfl (Or.inl rfl) (pe_ix ix_list (pv 1) pe_int (fun _ _ => rfl)))
    (pss_cons (ps_if (PW.pt (pw_or (pt_cmpR op_lt (pv 2) (pe_gi rfl T.few) (nomark _)) (pw_or1 (pt_cmpR op_gt (pv 2) (pe_gi rfl T.most) (nomark _)))))
      (pss_one (ps_ret (pe_lst (pa_cons (pe_gi rfl T.m1) pa_nil)))) pss_nil)
    (pss_cons (ps_fld (pv 0) (pv 2) rfl) (pss_cons (ps_fld (pv 0) (pe_lst pa_nil) rfl) (pss_one (ps_ret (pe_lst (pa_cons pe_int pa_nil))))))), ?_⟩
  have no : (n < 3 ∨ 60 < n) → (tRet (tLst (tCons (tC (.int (-1))) tNil))) { nx := fun _ H' => Q .non H', rt := Q } [some (.ref bx), some (.ref nl), some (.int (n : Int))] H := fun c =>
    ⟨by show 1 ≤ sizeLine; decide, fun p hp => k p _ (Out.plain (out := [-1]) B G (Same.new hp) hp upd_same (due_begin_no c))⟩
  refine ⟨_, rfl, nl, _, _, _, rfl, rfl, hn, iv_at (i := 0) (n := n) rfl, _, rfl, _, _, rfl, rfl, _, rfl, ?_⟩
  by_cases c1 : n < 3
  · exact if_t (by simpa using (by omega : (n : Int) < 3)) (if_t rfl (no (.inl c1)))
  refine if_f (by simpa using (by omega : (3 : Int) ≤ n)) ?_
  refine ⟨_, rfl, _, _, rfl, rfl, _, rfl, ?_⟩
  by_cases c2 : 60 < n
  · exact if_t (by simpa using (by omega : (60 : Int) < n)) (no (.inr c2))
  refine if_f (by simpa using (by omega : (n : Int) ≤ 60)) ?_
  refine ⟨_, rfl, _, rfl, bx, C, dx, _, rfl, hb, T.cl, T.nT, (by show 2 < 1000; decide), Nat.zero_le _, fun l2 hl2 => ?_⟩
  have n2 : H l2 = none := by
    by_cases e : l2 = bx
    · rw [e, upd_same] at hl2
      cases hl2
    · rw [upd_ne e] at hl2
      exact hl2
  have ne : bx ≠ l2 := ne_of_none hb n2
  refine ⟨_, rfl, bx, C, dx, _, rfl, (upd_ne ne).trans upd_same, T.cl, T.nW, (by show 2 < 1000; decide), (by show 1 ≤ sizeLine; decide), fun p hp => ?_⟩
  rw [bF_putT, bF_putW] at hp ⊢
  have p1 : p ≠ bx := fun e => by
    rw [e, upd_same] at hp
    cases hp
  have p2 : p ≠ l2 := fun e => by
    rw [e, upd_ne ne.symm, upd_same] at hp
    cases hp
  rw [upd_ne p1, upd_ne p2, upd_ne p1] at hp
  refine k p _ ⟨hp, ⟨l2, n, [], [0], due_begin (by omega) (by omega), Good.fresh (by omega) (by omega), ⟨⟨dx, ?_⟩, ?_⟩, .inr n2, upd_same⟩, fun b o e h1 h2 => ?_⟩
  · rw [upd_ne p1.symm, upd_same]
  · rw [upd_ne p2.symm, upd_ne ne.symm, upd_same]
    rfl
  · rw [upd_ne (ne_of_none e hp), upd_ne h1, upd_ne (ne_of_none e n2), upd_ne h1]
    exact e
theorem scWheel : FnScope ["box", "numbers", "teeth"] ["box", "numbers"] (defScope sWheel) := ⟨rfl, rfl, rfl, by decide +kernel, rfl, by decide +kernel, by decide +kernel⟩
theorem ok_wheel {f : Addr} {fd : FuncData} (F : Fun K "wheel" "wheel" sWheel f fd) (T : Txt K mg C) : FnOk P w K mg base CX0 1 f fd ["box", "numbers"] (spCall K C 1) := by
  refine F.ok scWheel spCall_len (fun cdv A outer s H vs Q E hr h => ?_)
  obtain ⟨bx, lw, nl, r, ws, ms, rfl, B, G, hn, ft, k⟩ := h
  obtain ⟨n, rfl⟩ := fit1 rfl ft
  have hr0 : 0 < r := ft
  obtain ⟨dx, hb⟩ := B.ex
  refine ⟨_, pss_cons (ps_set (i := 2) scWheel.nd rfl (Or.inl rfl) (pe_ix ix_list (pv 1) pe_int (fun _ _ => rfl)))
    (pss_cons (ps_if (PW.pt (pw_or (pt_cmpR op_lt (pv 2) pe_int (nomark _)) (pw_or1 (pt_cmpR op_ge (pv 2) (pe_fld (pv 0) rfl) (nomark _)))))
      (pss_one (ps_ret (pe_lst (pa_cons (pe_gi rfl T.m1) pa_nil)))) pss_nil)
    (pss_cons (ps_if (pt_cmpR op_eq (pe_callB call_len_seq (by rfl) T.len PySem.boot_len (pa_cons (pe_fld (pv 0) rfl) pa_nil)) (pe_gi rfl T.six) (nomark _))
      (pss_one (ps_ret (pe_lst (pa_cons (pe_gi rfl T.m5) pa_nil)))) pss_nil)
    (pss_cons (ps_expr (pe_bm PySem.F.plainAttrs_list PySem.F.slot_list_append PySem.F.type_list_append mt_append (pe_fld (pv 0) rfl) (pa_cons (pv 2) pa_nil)))
    (pss_one (ps_ret (pe_lst (pa_cons (pe_op op_sub (pe_callB call_len_seq (by rfl) T.len PySem.boot_len (pa_cons (pe_fld (pv 0) rfl) pa_nil)) pe_int) pa_nil))))))), ?_⟩
  have no : (n = 0 ∨ r ≤ n) → (tRet (tLst (tCons (tC (.int (-1))) tNil))) { nx := fun _ H' => Q .non H', rt := Q } [some (.ref bx), some (.ref nl), some (.int (n : Int))] H := fun c =>
    ⟨by show 1 ≤ sizeLine; decide, fun p hp => k p _ (Out.plain (out := [-1]) B G (Same.new hp) hp upd_same (due_wheel_no hr0 c))⟩
  refine ⟨_, rfl, nl, _, _, _, rfl, rfl, hn, iv_at (i := 0) (n := n) rfl, _, rfl, _, _, rfl, rfl, _, rfl, ?_⟩
  by_cases c1 : n = 0
  · exact if_t (by simpa using (by omega : (n : Int) < 1)) (if_t rfl (no (.inl c1)))
  refine if_f (by simpa using (by omega : (1 : Int) ≤ n)) ?_
  refine ⟨_, rfl, _, rfl, bx, C, dx, _, _, rfl, hb, T.cl, T.nT, bF_teeth r lw, _, _, rfl, rfl, _, rfl, ?_⟩
  by_cases c2 : r ≤ n
  · exact if_t (by simpa using (by omega : (r : Int) ≤ n)) (no (.inr c2))
  refine if_f (by simpa using (by omega : (n : Int) < r)) ?_
  refine ⟨_, rfl, bx, C, dx, _, _, rfl, hb, T.cl, T.nW, bF_wheels r lw, lw, _, rfl, .inl (SqL.of B.lst), rfl, _, rfl, ?_⟩
  rw [iv_len]
  by_cases c3 : ws.length = 6
  · refine if_t (by rw [c3]; decide) ⟨by show 1 ≤ sizeLine; decide, fun p hp => k p _ (Out.plain (out := [-5]) B G (Same.new hp) hp upd_same (due_wheel_full (by omega) (by omega) (by omega)))⟩
  have six := G.six
  refine if_f ?_ ?_
  · have : ¬ V.int (ws.length : Int) = V.int 6 := fun q => c3 (by injection q; omega)
    simp [this]
  refine ⟨_, rfl, bx, C, dx, _, _, rfl, hb, T.cl, T.nW, bF_wheels r lw, .inl ⟨rfl, _, SqL.of B.lst⟩, _, rfl, lw, _, _, rfl, rfl, B.lst, (by rw [iv_len]; exact small1000 (by omega)), ?_⟩
  have ne : bx ≠ lw := B.ne
  have e1 : iv ws ++ [V.int (n : Int)] = iv (ws ++ [n]) := by
    unfold iv
    rw [List.map_append]
    rfl
  rw [e1]
  refine ⟨_, rfl, bx, C, dx, _, _, rfl, (upd_ne ne).trans hb, T.cl, T.nW, bF_wheels r lw, lw, _, rfl, .inl (SqL.of upd_same), _, _, rfl, rfl, (by show 1 ≤ sizeLine; decide), fun p hp => ?_⟩
  have p2 : p ≠ lw := fun e => by
    rw [e, upd_same] at hp
    cases hp
  rw [upd_ne p2] at hp
  refine k p _ ⟨hp, ⟨lw, r, ws ++ [n], [(ws.length : Int)], due_wheel (by omega) (by omega) (by omega), G.more (by omega) (by omega) (by omega), ⟨⟨dx, ?_⟩, ?_⟩, .inl rfl, ?_⟩, fun b o e h1 h2 => ?_⟩
  · rw [upd_ne (ne_of_none hb hp), upd_ne ne]
    exact hb
  · rw [upd_ne p2.symm, upd_same]
  · rw [upd_same, iv_len, List.length_append]
    show some (HO.lst [V.int (((ws.length + 1 : Nat) : Int) - 1)]) = some (HO.lst [V.int (ws.length : Int)])
    rw [show (((ws.length + 1 : Nat) : Int) - 1) = (ws.length : Int) by omega]
  · rw [upd_ne (ne_of_none e hp), upd_ne h2]
    exact e
end
end Wd
/-! figure, point, when, crossings, make. -/
namespace Wd
open PySem PySem.Spec PyProof.Rows L2
section
variable {P : Program} {w : World} {K : PySem.W.Frag} {mg : Str → Option Value} {base : Heap} {C : Addr}
theorem wheel_at {i : Nat} {ws : List Nat} (h : i < ws.length) : ∃ w, ws[i]? = some w := ⟨_, List.getElem?_eq_getElem h⟩
theorem scFigure : FnScope ["box", "numbers", "step", "closing", "gap"] ["box", "numbers"] (defScope sFigure) := ⟨rfl, rfl, rfl, by decide +kernel, rfl, by decide +kernel, by decide +kernel⟩
theorem ok_figure {f g : Addr} {fd gd : FuncData} (F : Fun K "figure" "figure" sFigure f fd) (T : Txt K mg C) (G2 : FnOk P w K mg base CX0 2 g gd ["teeth", "step"] spPar) (kG : PySem.W.keepIn K (.ref g) = true) (bG : Binds K gd ["teeth", "step"] [])
    (mG : mg "points_and_rounds" = some (.ref g)) : FnOk P w K mg base CX0 3 f fd ["box", "numbers"] (spCall K C 2) := by
  refine F.ok scFigure spCall_len (fun cdv A outer s H vs Q E hr h => ?_)
  obtain ⟨bx, lw, nl, r, ws, ms, rfl, B, G, hn, ft, k⟩ := h
  obtain ⟨i, rfl⟩ := fit1 rfl ft
  have hr0 : 0 < r := ft.1
  obtain ⟨v, hv⟩ := wheel_at ft.2
  obtain ⟨dx, hb⟩ := B.ex
  refine ⟨_, pss_cons (ps_set (i := 2) scFigure.nd rfl (Or.inl rfl) (pe_ix ix_list (pe_fld (pv 0) rfl) (pe_ix ix_list (pv 1) pe_int (fun _ _ => rfl)) (fun _ _ => rfl)))
    (pss_cons (ps_set (i := 3) scFigure.nd rfl (Or.inl rfl) (pe_call G2 hr rfl mG kG bG .nil pass0 (pa_cons (pe_fld (pv 0) rfl) (pa_cons (pv 2) pa_nil))))
    (pss_cons (ps_set (i := 4) scFigure.nd rfl (Or.inl rfl) (pe_op op_fdiv (pe_fld (pv 0) rfl) (pe_ix ix_tup (pv 3) pe_int (fun _ _ => rfl))))
    (pss_one (ps_ret (pe_lst (pa_cons (pe_ix ix_tup (pv 3) pe_int (fun _ _ => rfl)) (pa_cons (pe_ix ix_tup (pv 3) pe_int (fun _ _ => rfl)) (pa_cons (pv 4) pa_nil)))))))), ?_⟩
  refine ⟨_, rfl, bx, C, dx, _, _, rfl, hb, T.cl, T.nW, bF_wheels r lw, _, rfl, nl, _, _, _, rfl, rfl, hn, iv_at (i := 0) (n := i) rfl, lw, _, _, _, rfl, rfl, SqL.of B.lst, iv_at hv, ?_⟩
  refine ⟨_, rfl, bx, C, dx, _, _, rfl, hb, T.cl, T.nT, bF_teeth r lw, _, rfl, r, v, rfl, hr0, G.high, fun t ht => ?_⟩
  have s1 : Same H (upd H t (.tup [.int ((Mu53.points r v : Nat) : Int), .int ((Mu53.rounds r v : Nat) : Int)])) := Same.new ht
  have pp := points_pos (w := v) hr0
  have pl := points_le r v
  have hi := G.high
  have cd : (0 : Int) < ((Mu53.points r v : Nat) : Int) ∧ ((Mu53.points r v : Nat) : Int) < 1073741824 := by omega
  refine ⟨_, rfl, bx, C, dx, _, _, rfl, s1 _ _ hb, T.cl, T.nT, bF_teeth r lw, _, rfl, t, _, _, _, rfl, rfl, SqT.of upd_same, atI_nat (j := 0) rfl, _, _, rfl, rfl, cd, ?_⟩
  refine ⟨_, rfl, t, _, _, _, rfl, rfl, SqT.of upd_same, atI_nat (j := 0) rfl, _, rfl, t, _, _, _, rfl, rfl, SqT.of upd_same, atI_nat (j := 1) rfl, _, rfl, (by show 3 ≤ sizeLine; decide), fun p hp => ?_⟩
  refine k p _ (Out.plain (out := [(Mu53.points r v : Int), (Mu53.rounds r v : Int), (Nat.gcd r v : Int)]) B G (s1.trans (Same.new hp)) (s1.free hp) ?_ (due_figure hr0 hv))
  rw [upd_same]
  show some (HO.lst [_, _, V.int ((r : Int) / (Mu53.points r v : Int))]) = some (HO.lst [_, _, V.int ((Nat.gcd r v : Nat) : Int)])
  rw [← gap_is hr0, Int.natCast_ediv]
theorem scPoint : FnScope ["box", "numbers", "step", "begun", "k"] ["box", "numbers"] (defScope sPoint) := ⟨rfl, rfl, rfl, by decide +kernel, rfl, by decide +kernel, by decide +kernel⟩
theorem fit3 {r : Nat} {ws ms : List Nat} (h : fit r ws 3 ms) : ∃ i t k, ms = [i, t, k] ∧ 0 < r ∧ i < ws.length ∧ t < r ∧ k ≤ 100000 := by
  match ms, h with
  | [i, t, k], h => exact ⟨i, t, k, rfl, h⟩
theorem fit4 {r : Nat} {ws ms : List Nat} (h : fit r ws 4 ms) : ∃ i t x, ms = [i, t, x] ∧ 0 < r ∧ i < ws.length ∧ t < r ∧ x < r := by
  match ms, h with
  | [i, t, x], h => exact ⟨i, t, x, rfl, h⟩
theorem ok_point {f : Addr} {fd : FuncData} (F : Fun K "point" "point" sPoint f fd) (T : Txt K mg C) : FnOk P w K mg base CX0 1 f fd ["box", "numbers"] (spCall K C 3) := by
  refine F.ok scPoint spCall_len (fun cdv A outer s H vs Q E hr h => ?_)
  obtain ⟨bx, lw, nl, r, ws, ms, rfl, B, G, hn, ft, k⟩ := h
  obtain ⟨i, t, m, rfl, hr0, hi, ht, hm⟩ := fit3 ft
  obtain ⟨v, hv⟩ := wheel_at hi
  obtain ⟨dx, hb⟩ := B.ex
  refine ⟨_, pss_cons (ps_set (i := 2) scPoint.nd rfl (Or.inl rfl) (pe_ix ix_list (pe_fld (pv 0) rfl) (pe_ix ix_list (pv 1) pe_int (fun _ _ => rfl)) (fun _ _ => rfl)))
    (pss_cons (ps_set (i := 3) scPoint.nd rfl (Or.inl rfl) (pe_ix ix_list (pv 1) pe_int (fun _ _ => rfl)))
    (pss_cons (ps_set (i := 4) scPoint.nd rfl (Or.inl rfl) (pe_ix ix_list (pv 1) pe_int (fun _ _ => rfl)))
    (pss_one (ps_ret (pe_lst (pa_cons (pe_op op_mod (pe_op op_add (pv 3) (pe_op op_mul (pv 4) (pv 2))) (pe_fld (pv 0) rfl)) pa_nil)))))), ?_⟩
  refine ⟨_, rfl, bx, C, dx, _, _, rfl, hb, T.cl, T.nW, bF_wheels r lw, _, rfl, nl, _, _, _, rfl, rfl, hn, iv_at (i := 0) (n := i) rfl, lw, _, _, _, rfl, rfl, SqL.of B.lst, iv_at hv, ?_⟩
  refine ⟨_, rfl, nl, _, _, _, rfl, rfl, hn, iv_at (i := 1) (n := t) rfl, _, rfl, nl, _, _, _, rfl, rfl, hn, iv_at (i := 2) (n := m) rfl, ?_⟩
  refine ⟨_, rfl, _, rfl, _, rfl, _, _, rfl, rfl, .inl ⟨by omega, by omega⟩, _, _, rfl, rfl, _, rfl, bx, C, dx, _, _, rfl, hb, T.cl, T.nT, bF_teeth r lw, _, _, rfl, rfl, (by show (0 : Int) < (r : Int); omega), (by show 1 ≤ sizeLine; decide), fun p hp => ?_⟩
  refine k p _ (Out.plain (out := [((Mu53.point r v t m : Nat) : Int)]) B G (Same.new hp) hp ?_ (due_point hr0 hv ht hm))
  rw [upd_same]
  show some (HO.lst [V.int (((t : Int) + (m : Int) * (v : Int)) % (r : Int))]) = some (HO.lst [V.int (((t + m * v) % r : Nat) : Int)])
  rw [Int.natCast_emod, Int.natCast_add, Int.natCast_mul]
theorem scWhen : FnScope ["box", "numbers", "step", "begun", "tooth", "k", "way"] ["box", "numbers"] (defScope sWhen) := ⟨rfl, rfl, rfl, by decide +kernel, rfl, by decide +kernel, by decide +kernel⟩
theorem ok_when {f : Addr} {fd : FuncData} (F : Fun K "when" "when" sWhen f fd) (T : Txt K mg C) : FnOk P w K mg base CX0 1 f fd ["box", "numbers"] (spCall K C 4) := by
  refine F.ok scWhen spCall_len (fun cdv A outer s H vs Q E hr h => ?_)
  obtain ⟨bx, lw, nl, r, ws, ms, rfl, B, G, hn, ft, k⟩ := h
  obtain ⟨i, t, x, rfl, hr0, hi, ht, hx⟩ := fit4 ft
  obtain ⟨v, hv⟩ := wheel_at hi
  obtain ⟨dx, hb⟩ := B.ex
  have r60 := G.high
  have vr := G.at hv
  refine ⟨_, pss_cons (ps_set (i := 2) scWhen.nd rfl (Or.inl rfl) (pe_ix ix_list (pe_fld (pv 0) rfl) (pe_ix ix_list (pv 1) pe_int (fun _ _ => rfl)) (fun _ _ => rfl)))
    (pss_cons (ps_set (i := 3) scWhen.nd rfl (Or.inl rfl) (pe_ix ix_list (pv 1) pe_int (fun _ _ => rfl)))
    (pss_cons (ps_set (i := 4) scWhen.nd rfl (Or.inl rfl) (pe_ix ix_list (pv 1) pe_int (fun _ _ => rfl)))
    (pss_cons (ps_for PassesOwn.never rfl (pi_range1 rfl T.range (pa_cons (pe_fld (pv 0) rfl) pa_nil)) (pg_name (i := 5) scWhen.nd rfl (Or.inl rfl))
      (pss_cons (ps_set (i := 6) scWhen.nd rfl (Or.inl rfl) (pe_op op_add (pv 3) (pe_op op_mul (pv 5) (pv 2))))
      (pss_one (ps_if (pt_cmpR op_eq (pe_op op_mod (pv 6) (pe_fld (pv 0) rfl)) (pv 4) (nomark _))
        (pss_one (ps_ret (pe_lst (pa_cons (pv 5) (pa_cons (pe_op op_fdiv (pv 6) (pe_fld (pv 0) rfl)) pa_nil))))) pss_nil))))
    (pss_one (ps_ret (pe_lst (pa_cons (pe_gi rfl T.m6) pa_nil))))))), ?_⟩
  refine ⟨_, rfl, bx, C, dx, _, _, rfl, hb, T.cl, T.nW, bF_wheels r lw, _, rfl, nl, _, _, _, rfl, rfl, hn, iv_at (i := 0) (n := i) rfl, lw, _, _, _, rfl, rfl, SqL.of B.lst, iv_at hv, ?_⟩
  refine ⟨_, rfl, nl, _, _, _, rfl, rfl, hn, iv_at (i := 1) (n := t) rfl, _, rfl, nl, _, _, _, rfl, rfl, hn, iv_at (i := 2) (n := x) rfl, ?_⟩
  refine ⟨_, rfl, bx, C, dx, _, _, rfl, hb, T.cl, T.nT, bF_teeth r lw, (r : Int), rfl, by omega, by omega, for_range (lo := 0) (n := r) (fun j σ H' => ∃ a b : Option V,
    σ = [some (.ref bx), some (.ref nl), some (.int (v : Int)), some (.int (t : Int)), some (.int (x : Int)), a, b] ∧ H' = H ∧ ∀ m, m < j → Mu53.point r v t m ≠ x) ⟨none, none, rfl, rfl, fun m hm => by omega⟩ ?_ ?_⟩
  · rintro j σ H' hj ⟨a, b, rfl, rfl, hm⟩
    have ej : (0 : Int) + (j : Int) = (j : Int) := by omega
    rw [ej]
    refine ⟨_, rfl, _, rfl, _, rfl, _, _, rfl, rfl, .inl ⟨by omega, by omega⟩, _, _, rfl, rfl, _, rfl, _, rfl, bx, C, dx, _, _, rfl, hb, T.cl, T.nT, bF_teeth r lw, _, _, rfl, rfl, (by show (0 : Int) < (r : Int); omega), _, rfl, rfl, _, rfl, ?_⟩
    have ew : (t : Int) + (j : Int) * (v : Int) = ((t + j * v : Nat) : Int) := by rw [Int.natCast_add, Int.natCast_mul]
    have em : ((t : Int) + (j : Int) * (v : Int)) % (r : Int) = (((t + j * v) % r : Nat) : Int) := by rw [ew, Int.natCast_emod]
    by_cases c : Mu53.point r v t j = x
    · have c' : (t + j * v) % r = x := c
      refine if_t (decide_eq_true (show V.int (((t : Int) + (j : Int) * (v : Int)) % (r : Int)) = V.int (x : Int) by rw [em, c'])) ?_
      refine ⟨_, rfl, _, rfl, _, rfl, bx, C, dx, _, _, rfl, hb, T.cl, T.nT, bF_teeth r lw, _, _, rfl, rfl, ⟨by omega, by omega⟩, (by show 2 ≤ sizeLine; decide), fun p hp => ?_⟩
      refine k p _ (Out.plain (out := [(j : Int), ((t + j * v) / r : Nat)]) B G (Same.new hp) hp ?_ (due_when hr0 hv ht hx (when_found hr0 c hm)))
      rw [upd_same, Int.natCast_ediv, ← ew]
      rfl
    · have c' : ¬ (t + j * v) % r = x := c
      refine if_f (decide_eq_false (show ¬ V.int (((t : Int) + (j : Int) * (v : Int)) % (r : Int)) = V.int (x : Int) from fun q => c' ?_)) ?_
      · rw [em] at q
        injection q
        omega
      · refine ⟨_, _, rfl, rfl, fun m hmj => ?_⟩
        rcases Nat.lt_or_eq_of_le (Nat.le_of_lt_succ hmj) with h | h
        · exact hm m h
        · rw [h]
          exact c
  · rintro σ H' ⟨a, b, rfl, rfl, hm⟩
    exact ⟨by show 1 ≤ sizeLine; decide, fun p hp => k p _ (Out.plain (out := [-6]) B G (Same.new hp) hp upd_same (due_when_no hr0 hv ht hx (when_never hm)))⟩
theorem scCross : FnScope ["box", "numbers", "step", "closing", "points", "rounds", "cut_off"] ["box", "numbers"] (defScope sCross) := ⟨rfl, rfl, rfl, by decide +kernel, rfl, by decide +kernel, by decide +kernel⟩
theorem ok_cross {f g : Addr} {fd gd : FuncData} (F : Fun K "crossings" "crossings" sCross f fd) (T : Txt K mg C) (G2 : FnOk P w K mg base CX0 2 g gd ["teeth", "step"] spPar) (kG : PySem.W.keepIn K (.ref g) = true) (bG : Binds K gd ["teeth", "step"] [])
    (mG : mg "points_and_rounds" = some (.ref g)) : FnOk P w K mg base CX0 3 f fd ["box", "numbers"] (spCall K C 5) := by
  refine F.ok scCross spCall_len (fun cdv A outer s H vs Q E hr h => ?_)
  obtain ⟨bx, lw, nl, r, ws, ms, rfl, B, G, hn, ft, k⟩ := h
  obtain ⟨i, rfl⟩ := fit1 rfl ft
  have hr0 : 0 < r := ft.1
  obtain ⟨v, hv⟩ := wheel_at ft.2
  obtain ⟨dx, hb⟩ := B.ex
  refine ⟨_, pss_cons (ps_set (i := 2) scCross.nd rfl (Or.inl rfl) (pe_ix ix_list (pe_fld (pv 0) rfl) (pe_ix ix_list (pv 1) pe_int (fun _ _ => rfl)) (fun _ _ => rfl)))
    (pss_cons (ps_set (i := 3) scCross.nd rfl (Or.inl rfl) (pe_call G2 hr rfl mG kG bG .nil pass0 (pa_cons (pe_fld (pv 0) rfl) (pa_cons (pv 2) pa_nil))))
    (pss_cons (ps_set (i := 4) scCross.nd rfl (Or.inl rfl) (pe_ix ix_tup (pv 3) pe_int (fun _ _ => rfl)))
    (pss_cons (ps_set (i := 5) scCross.nd rfl (Or.inl rfl) (pe_ix ix_tup (pv 3) pe_int (fun _ _ => rfl)))
    (pss_cons (ps_set (i := 6) scCross.nd rfl (Or.inl rfl) (pe_op op_sub (pe_callB (call_min2 rfl) (by rfl) T.min (by decide +kernel) (pa_cons (pv 5) (pa_cons (pe_op op_sub (pv 4) (pv 5)) pa_nil))) pe_int))
    (pss_one (ps_ret (pe_lst (pa_cons (pe_op op_mul (pv 4) (pv 6)) pa_nil)))))))), ?_⟩
  refine ⟨_, rfl, bx, C, dx, _, _, rfl, hb, T.cl, T.nW, bF_wheels r lw, _, rfl, nl, _, _, _, rfl, rfl, hn, iv_at (i := 0) (n := i) rfl, lw, _, _, _, rfl, rfl, SqL.of B.lst, iv_at hv, ?_⟩
  refine ⟨_, rfl, bx, C, dx, _, _, rfl, hb, T.cl, T.nT, bF_teeth r lw, _, rfl, r, v, rfl, hr0, G.high, fun t ht => ?_⟩
  have s1 : Same H (upd H t (.tup [.int ((Mu53.points r v : Nat) : Int), .int ((Mu53.rounds r v : Nat) : Int)])) := Same.new ht
  have pl := points_le r v
  have hi := G.high
  refine ⟨_, rfl, t, _, _, _, rfl, rfl, SqT.of upd_same, atI_nat (j := 0) rfl, _, rfl, t, _, _, _, rfl, rfl, SqT.of upd_same, atI_nat (j := 1) rfl, ?_⟩
  refine ⟨_, rfl, _, rfl, _, rfl, _, _, rfl, rfl, _, _, rfl, _, _, rfl, rfl, _, rfl, _, rfl, _, _, rfl, rfl, .inl ⟨by omega, by omega⟩, (by show 1 ≤ sizeLine; decide), fun p hp => ?_⟩
  refine k p _ (Out.plain (out := [((Mu53.crossings r v : Nat) : Int)]) B G (s1.trans (Same.new hp)) (s1.free hp) ?_ (due_crossings hr0 hv))
  rw [upd_same, crossings_is (G.at hv).1 (G.at hv).2]
  rfl
end
end Wd
/-! make. -/
namespace Wd
open PySem PySem.Spec PyProof.Rows L2
section
variable {P : Program} {w : World} {K : PySem.W.Frag} {mg : Str → Option Value} {base : Heap} {C : Addr}
theorem scMake : FnScope ["box", "numbers", "points", "fitting", "step"] ["box", "numbers"] (defScope sMake) := ⟨rfl, rfl, rfl, by decide +kernel, rfl, by decide +kernel, by decide +kernel⟩
theorem ok_make {f g : Addr} {fd gd : FuncData} (F : Fun K "make" "make" sMake f fd) (T : Txt K mg C) (G2 : FnOk P w K mg base CX0 2 g gd ["teeth", "step"] spPar) (kG : PySem.W.keepIn K (.ref g) = true) (bG : Binds K gd ["teeth", "step"] [])
    (mG : mg "points_and_rounds" = some (.ref g)) : FnOk P w K mg base CX0 3 f fd ["box", "numbers"] (spCall K C 6) := by
  refine F.ok scMake spCall_len (fun cdv A outer s H vs Q E hr h => ?_)
  obtain ⟨bx, lw, nl, r, ws, ms, rfl, B, G, hn, ft, k⟩ := h
  obtain ⟨n, rfl⟩ := fit1 rfl ft
  have hr0 : 0 < r := ft
  have r60 := G.high
  obtain ⟨dx, hb⟩ := B.ex
  refine ⟨_, pss_cons (ps_set (i := 2) scMake.nd rfl (Or.inr rfl) (pe_ix ix_list (pv 1) pe_int (fun _ _ => rfl)))
    (pss_cons (ps_if (PW.pt (pw_or (pt_cmpR op_lt (pv 2) pe_int (nomark _)) (pw_or1 (pt_cmpR op_gt (pv 2) (pe_fld (pv 0) rfl) (nomark _)))))
      (pss_one (ps_ret (pe_lst (pa_cons (pe_gi rfl T.m1) pa_nil)))) pss_nil)
    (pss_cons (ps_setLc (i := 3) (own := [("step", 4)]) (g := gName 4) (tt := tTest (tOp rEq (tOp (rIxT K) (tCall spPar [] E0 (tCons (tFld K (tVar 0) "teeth") (tCons (tVar 4) tNil))) (tC (.int 0))) (tVar 2))) (te := tVar 4) (by rfl) scMake.nd rfl rfl (sw_true rfl rfl rfl (by decide +kernel)) (pi_range2 (by rfl) T.range (pa_cons pe_int (pa_cons (pe_fld (pv 0) rfl) pa_nil)))
      (blkOk_by (own := [("step", 4)]) (N := ["box", "numbers", "points", "fitting", "step"]) (sc := defScope sMake) (by decide +kernel))
      (fun _ _ _ _ _ => pg_name (i := 4) scMake.nd rfl (Or.inl rfl))
      (fun _ _ _ _ _ => by exact pts_one (pt_cmpR op_eq (pe_ix ix_tup (pe_call G2 hr rfl mG kG bG .nil pass0 (pa_cons (pe_fld (pv 0) rfl) (pa_cons (pv 4) pa_nil))) pe_int (fun _ _ => rfl)) (pv 2) (nomark _)))
      (fun _ _ _ _ _ => pv 4))
    (pss_one (ps_ret (pe_op op_cat (pe_lst (pa_cons (pe_callB call_len_seq (by rfl) T.len PySem.boot_len (pa_cons (pv 3) pa_nil)) pa_nil)) (pv 3)))))), ?_⟩
  have no : (n = 0 ∨ r < n) → (tRet (tLst (tCons (tC (.int (-1))) tNil))) { nx := fun _ H' => Q .non H', rt := Q } [some (.ref bx), some (.ref nl), some (.int (n : Int)), none, none] H := fun c =>
    ⟨by show 1 ≤ sizeLine; decide, fun p hp => k p _ (Out.plain (out := [-1]) B G (Same.new hp) hp upd_same (due_make_no hr0 c))⟩
  refine ⟨_, rfl, nl, _, _, _, rfl, rfl, hn, iv_at (i := 0) (n := n) rfl, _, rfl, _, _, rfl, rfl, _, rfl, ?_⟩
  by_cases c1 : n = 0
  · exact if_t (by simpa using (by omega : (n : Int) < 1)) (if_t rfl (no (.inl c1)))
  refine if_f (by simpa using (by omega : (1 : Int) ≤ n)) ?_
  refine ⟨_, rfl, _, rfl, bx, C, dx, _, _, rfl, hb, T.cl, T.nT, bF_teeth r lw, _, _, rfl, rfl, _, rfl, ?_⟩
  by_cases c2 : r < n
  · exact if_t (by simpa using (by omega : (r : Int) < n)) (no (.inr c2))
  refine if_f (by simpa using (by omega : (n : Int) ≤ r)) ?_
  refine ⟨_, rfl, bx, C, dx, _, _, rfl, hb, T.cl, T.nT, bF_teeth r lw, 1, (r : Int), rfl, ⟨by decide, by decide, by omega, by omega⟩, fun D hD => ?_⟩
  have en : ((r : Int) - 1).toNat = r - 1 := by omega
  refine lc_range (lo := 1) (n := ((r : Int) - 1).toNat) (fun i H' => Same H H' ∧ H' D = some (.lst (iv (wheelsTo r n (i + 1))))) ⟨Same.new hD, upd_same⟩ ?_ ?_
  · rintro i H' hi ⟨s1, hD1⟩
    have e1 : (1 : Int) + (i : Int) = ((i + 1 : Nat) : Int) := by omega
    rw [e1]
    refine ⟨rfl, _, rfl, bx, C, dx, _, _, rfl, s1 _ _ hb, T.cl, T.nT, bF_teeth r lw, _, rfl, r, i + 1, rfl, hr0, r60, fun t ht => ?_⟩
    have nDt : D ≠ t := ne_of_none hD1 ht
    refine ⟨t, _, _, _, rfl, rfl, SqT.of upd_same, atI_nat (j := 0) rfl, _, rfl, rfl, _, rfl, ?_⟩
    have s2 : Same H (upd H' t (.tup [.int ((Mu53.points r (i + 1) : Nat) : Int), .int ((Mu53.rounds r (i + 1) : Nat) : Int)])) := s1.trans (Same.new ht)
    by_cases c : Mu53.points r (i + 1) = n
    · refine if_t (decide_eq_true (show V.int ((Mu53.points r (i + 1) : Nat) : Int) = V.int (n : Int) by rw [c])) ?_
      refine ⟨_, rfl, _, (upd_ne nDt).trans hD1, ?_, ?_, ?_⟩
      · have := wheelsTo_len r n (i + 1)
        rw [iv_len]
        exact small1000 (by omega)
      · exact fun b o e => by
          rw [upd_ne (ne_of_none e hD)]
          exact s2 b o e
      · rw [upd_same, wheelsTo_in c]
        unfold iv
        rw [List.map_append]
        rfl
    · refine if_f (decide_eq_false (show ¬ V.int ((Mu53.points r (i + 1) : Nat) : Int) = V.int (n : Int) from fun q => c (by injection q; omega))) ?_
      exact ⟨s2, by rw [upd_ne nDt, hD1, wheelsTo_out c]⟩
  · rintro H' ⟨s1, hD1⟩
    rw [en, Nat.sub_add_cancel hr0] at hD1
    have hl := wheelsTo_len r n r
    refine ⟨_, rfl, D, _, rfl, .inl (SqL.of hD1), (by show 1 ≤ sizeLine; decide), fun q hq => ?_⟩
    refine ⟨_, rfl, q, D, _, _, rfl, rfl, upd_same, (upd_ne (ne_of_none hD1 hq)).trans hD1, ?_, fun p hp => ?_⟩
    · rw [iv_len]
      show 1 + _ ≤ sizeLine
      exact Nat.le_of_lt (small1000 (by omega))
    · have s2 : Same H (upd H' q (.lst [.int ((iv (wheelsTo r n r)).length : Int)])) := s1.trans (Same.new hq)
      refine k p _ (Out.plain (out := ofs ((wheelsTo r n r).length :: wheelsTo r n r)) B G (s2.trans (Same.new hp)) (s2.free hp) ?_ (due_make (by omega) (by omega)))
      rw [upd_same, iv_ofs, iv_len]
      rfl
end
end Wd
/-! names_missing_wheel, names_missing_tooth. -/
namespace Wd
open PySem PySem.Spec PyProof.Rows L2
theorem Kd.s_inj {a b : Kd} (h : V.str a.s = V.str b.s) : a = b := by
  injection h with h
  cases a <;> cases b <;> first | rfl | exact absurd h (by decide +kernel)
theorem Kd.s_t {a b : Kd} (h : a = b) : decide (V.str a.s = V.str b.s) = true := decide_eq_true (by rw [h])
theorem Kd.s_f {a b : Kd} (h : ¬ a = b) : decide (V.str a.s = V.str b.s) = false := decide_eq_false fun q => h (Kd.s_inj q)
theorem SameT.seq {K : PySem.W.Frag} {H H' : Hp} {a : Addr} {xs : List V} (e : Same H H') (h : SqT K H a xs) : SqT K H' a xs := by
  rcases h with (h | ⟨o, h⟩) | h
  · exact .inl (.inl (e _ _ h))
  · exact .inl (.inr ⟨o, e _ _ h⟩)
  · exact .inr h
theorem drop_at {α : Type} {l : List α} {n : Nat} {x : α} (h : l[n]? = some x) : l.drop n = x :: l.drop (n + 1) := by
  obtain ⟨hn, e⟩ := List.getElem?_eq_some_iff.mp h
  rw [List.drop_eq_getElem_cons hn, e]
theorem kv_of {ks : List Kd} {n : Nat} {v : V} (h : (kv ks)[n]? = some v) : ∃ d, ks[n]? = some d ∧ v = .str d.s := by
  unfold kv at h
  rw [List.getElem?_map] at h
  cases e : ks[n]? with
  | none =>
    rw [e] at h
    cases h
  | some d =>
    rw [e] at h
    exact ⟨d, rfl, (Option.some.inj h).symm⟩
theorem iv_of {ms : List Nat} {n : Nat} {v : V} (h : (iv ms)[n]? = some v) : ∃ m : Nat, ms[n]? = some m ∧ v = .int (m : Int) := by
  unfold iv at h
  rw [List.getElem?_map] at h
  cases e : ms[n]? with
  | none =>
    rw [e] at h
    cases h
  | some d =>
    rw [e] at h
    exact ⟨d, rfl, (Option.some.inj h).symm⟩
theorem kv_len (ks : List Kd) : (kv ks).length = ks.length := List.length_map ..
section
variable {P : Program} {w : World} {K : PySem.W.Frag} {mg : Str → Option Value} {base : Heap} {C : Addr}
/-- a look at the numbers of a call -/
def spMiss (K : PySem.W.Frag) (C : Addr) (ans : Nat → List Nat → List Kd → List Nat → Bool) : Sp := fun vs H Q _ => ∃ (bx lw kt nl : Addr) (r : Nat) (ws : List Nat) (ks : List Kd) (ms : List Nat),
  vs = [.ref bx, .ref kt, .ref nl] ∧ BoxAt C H bx lw r ws ∧ SqT K H kt (kv ks) ∧ SqL K H nl (iv ms) ∧ ks.length = ms.length ∧ ∀ H' : Hp, Same H H' → Q (.bl (ans r ws ks ms)) H'
def ansW (_ : Nat) (ws : List Nat) (ks : List Kd) (ms : List Nat) : Bool := missW ws.length ks ms
def ansT (r : Nat) (_ : List Nat) (ks : List Kd) (ms : List Nat) : Bool := missT r ks ms
theorem scMissW : FnScope ["box", "kinds", "numbers", "kind", "number"] ["box", "kinds", "numbers"] (defScope sMissW) := ⟨rfl, rfl, rfl, by decide +kernel, rfl, by decide +kernel, by decide +kernel⟩
theorem ok_missW {f : Addr} {fd : FuncData} (F : Fun K "names_missing_wheel" "names_missing_wheel" sMissW f fd) (T : Txt K mg C) : FnOk P w K mg base CX0 1 f fd ["box", "kinds", "numbers"] (spMiss K C ansW) := by
  refine F.ok scMissW (fun vs H Q E h => ?_) (fun cdv A outer s H vs Q E hr h => ?_)
  · obtain ⟨_, _, _, _, _, _, _, _, rfl, _⟩ := h
    rfl
  obtain ⟨bx, lw, kt, nl, r, ws, ks, ms, rfl, B, hk, hn, hl, k⟩ := h
  obtain ⟨dx, hb⟩ := B.ex
  refine ⟨_, pss_cons (ps_for PassesOwn.never rfl (pi_zipTL (by rfl) T.zip (pa_cons (pv 1) (pa_cons (pv 2) pa_nil)))
      (pg_tup rfl (pgs_cons (pg_name (i := 3) scMissW.nd rfl (Or.inl rfl)) (pgs_cons (pg_name (i := 4) scMissW.nd rfl (Or.inl rfl)) pgs_nil)))
      (pss_one (ps_if (PW.pt (pw_and (pt_cmpR op_eq (pv 3) pe_str (nomark _)) (pw_and1 (pt_cmpR op_ge (pv 4) (pe_callB call_len_seq (by rfl) T.len PySem.boot_len (pa_cons (pe_fld (pv 0) rfl) pa_nil)) (nomark _)))))
        (pss_one (ps_ret pe_bl)) pss_nil)))
    (pss_one (ps_ret pe_bl)), ?_⟩
  refine ⟨_, rfl, _, rfl, kt, nl, _, _, rfl, hk, hn, for_zipTL (K := K) (us := kv ks) (ws := iv ms) (by rw [kv_len, iv_len]; exact hl) (fun n σ H' => ∃ a b : Option V,
    σ = [some (.ref bx), some (.ref kt), some (.ref nl), a, b] ∧ Same H H' ∧ missW ws.length ks ms = missW ws.length (ks.drop n) (ms.drop n)) ⟨none, none, rfl, Same.refl H, rfl⟩
    (fun n σ H' ⟨_, _, _, s1, _⟩ => ⟨SameT.seq s1 hk, s1.seq hn⟩) ?_ ?_⟩
  · rintro n u v p σ H' hu hv ⟨a, b, rfl, s1, e⟩ hp
    obtain ⟨d, hd, rfl⟩ := kv_of hu
    obtain ⟨m, hm, rfl⟩ := iv_of hv
    have s2 : Same H (upd H' p (.tup [V.str d.s, V.int (m : Int)])) := s1.trans (Same.new hp)
    rw [drop_at hd, drop_at hm] at e
    have e : missW ws.length ks ms = ((decide (d = .wheel) && decide (ws.length ≤ m)) || missW ws.length (ks.drop (n + 1)) (ms.drop (n + 1))) := e
    refine ⟨p, _, rfl, SqT.of upd_same, rfl, _, _, rfl, _, _, rfl, rfl, _, rfl, rfl, _, rfl, ?_⟩
    by_cases c : d = .wheel
    · refine if_t (Kd.s_t (b := .wheel) c) ?_
      refine ⟨_, rfl, _, rfl, bx, C, dx, _, _, rfl, s2 _ _ hb, T.cl, T.nW, bF_wheels r lw, lw, _, rfl, .inl (SqL.of (s2 _ _ B.lst)), _, _, rfl, rfl, _, rfl, ?_⟩
      rw [iv_len]
      by_cases c2 : ws.length ≤ m
      · refine if_t (by simpa using (by omega : (ws.length : Int) ≤ m)) ?_
        have z := k _ s2
        rw [show ansW r ws ks ms = true by rw [show ansW r ws ks ms = _ from e]; simp [c, c2]] at z
        exact z
      · refine if_f (by simpa using (by omega : (m : Int) < ws.length)) ?_
        refine ⟨_, _, rfl, s2, ?_⟩
        rw [e]
        simp [c2]
    · refine if_f (Kd.s_f (b := .wheel) c) (if_f rfl ?_)
      refine ⟨_, _, rfl, s2, ?_⟩
      rw [e]
      simp [c]
  · rintro σ H' ⟨a, b, rfl, s1, e⟩
    have z := k _ s1
    have e' : ansW r ws ks ms = false := by
      show missW ws.length ks ms = false
      rw [e, kv_len, List.drop_length]
      rfl
    rw [e'] at z
    exact z
theorem scMissT : FnScope ["box", "kinds", "numbers", "kind", "number"] ["box", "kinds", "numbers"] (defScope sMissT) := ⟨rfl, rfl, rfl, by decide +kernel, rfl, by decide +kernel, by decide +kernel⟩
theorem ok_missT {f : Addr} {fd : FuncData} (F : Fun K "names_missing_tooth" "names_missing_tooth" sMissT f fd) (T : Txt K mg C) : FnOk P w K mg base CX0 1 f fd ["box", "kinds", "numbers"] (spMiss K C ansT) := by
  refine F.ok scMissT (fun vs H Q E h => ?_) (fun cdv A outer s H vs Q E hr h => ?_)
  · obtain ⟨_, _, _, _, _, _, _, _, rfl, _⟩ := h
    rfl
  obtain ⟨bx, lw, kt, nl, r, ws, ks, ms, rfl, B, hk, hn, hl, k⟩ := h
  obtain ⟨dx, hb⟩ := B.ex
  refine ⟨_, pss_cons (ps_for PassesOwn.never rfl (pi_zipTL (by rfl) T.zip (pa_cons (pv 1) (pa_cons (pv 2) pa_nil)))
      (pg_tup rfl (pgs_cons (pg_name (i := 3) scMissT.nd rfl (Or.inl rfl)) (pgs_cons (pg_name (i := 4) scMissT.nd rfl (Or.inl rfl)) pgs_nil)))
      (pss_cons (ps_if (PW.pt (pw_and (pt_cmpR op_eq (pv 3) pe_str (nomark _)) (pw_and1 (pt_cmpR op_ge (pv 4) (pe_fld (pv 0) rfl) (nomark _)))))
        (pss_one (ps_ret pe_bl)) pss_nil)
      (pss_one (ps_if (PW.pt (pw_and (pt_cmpR op_eq (pv 3) pe_str (nomark _)) (pw_and1 (pt_cmpR op_gt (pv 4) (pe_gi rfl T.late) (nomark _)))))
        (pss_one (ps_ret pe_bl)) pss_nil))))
    (pss_one (ps_ret pe_bl)), ?_⟩
  refine ⟨_, rfl, _, rfl, kt, nl, _, _, rfl, hk, hn, for_zipTL (K := K) (us := kv ks) (ws := iv ms) (by rw [kv_len, iv_len]; exact hl) (fun n σ H' => ∃ a b : Option V,
    σ = [some (.ref bx), some (.ref kt), some (.ref nl), a, b] ∧ Same H H' ∧ missT r ks ms = missT r (ks.drop n) (ms.drop n)) ⟨none, none, rfl, Same.refl H, rfl⟩
    (fun n σ H' ⟨_, _, _, s1, _⟩ => ⟨SameT.seq s1 hk, s1.seq hn⟩) ?_ ?_⟩
  · rintro n u v p σ H' hu hv ⟨a, b, rfl, s1, e⟩ hp
    obtain ⟨d, hd, rfl⟩ := kv_of hu
    obtain ⟨m, hm, rfl⟩ := iv_of hv
    have s2 : Same H (upd H' p (.tup [V.str d.s, V.int (m : Int)])) := s1.trans (Same.new hp)
    rw [drop_at hd, drop_at hm] at e
    have e : missT r ks ms = ((decide (d = .tooth) && decide (r ≤ m)) || ((decide (d = .k) && decide (100000 < m)) || missT r (ks.drop (n + 1)) (ms.drop (n + 1)))) := e
    have yes : missT r ks ms = true → Q (.bl true) (upd H' p (.tup [V.str d.s, V.int (m : Int)])) := fun y => by
      have z := k _ s2
      rw [show ansT r ws ks ms = true from y] at z
      exact z
    refine ⟨p, _, rfl, SqT.of upd_same, rfl, _, _, rfl, _, _, rfl, rfl, _, rfl, rfl, _, rfl, ?_⟩
    by_cases c : d = .tooth
    · refine if_t (Kd.s_t (b := .tooth) c) ?_
      refine ⟨_, rfl, _, rfl, bx, C, dx, _, _, rfl, s2 _ _ hb, T.cl, T.nT, bF_teeth r lw, _, _, rfl, rfl, _, rfl, ?_⟩
      by_cases c2 : r ≤ m
      · exact if_t (by simpa using (by omega : (r : Int) ≤ m)) (yes (by rw [e]; simp [c, c2]))
      · refine if_f (by simpa using (by omega : (m : Int) < r)) ?_
        have c3 : ¬ d = .k := by rw [c]; decide
        refine ⟨_, rfl, rfl, _, rfl, if_f (Kd.s_f (b := .k) c3) (if_f rfl ?_)⟩
        refine ⟨_, _, rfl, s2, ?_⟩
        rw [e]
        simp [c2, c3]
    · refine if_f (Kd.s_f (b := .tooth) c) (if_f rfl ?_)
      refine ⟨_, rfl, rfl, _, rfl, ?_⟩
      by_cases c3 : d = .k
      · refine if_t (Kd.s_t (b := .k) c3) ?_
        refine ⟨_, rfl, _, _, rfl, rfl, _, rfl, ?_⟩
        by_cases c4 : 100000 < m
        · exact if_t (by simpa using (by omega : (100000 : Int) < m)) (yes (by rw [e]; simp [c3, c4]))
        · refine if_f (by simpa using (by omega : (m : Int) ≤ 100000)) ?_
          refine ⟨_, _, rfl, s2, ?_⟩
          rw [e]
          simp [c, c4]
      · refine if_f (Kd.s_f (b := .k) c3) (if_f rfl ?_)
        refine ⟨_, _, rfl, s2, ?_⟩
        rw [e]
        simp [c, c3]
  · rintro σ H' ⟨a, b, rfl, s1, e⟩
    have z := k _ s1
    have e' : ansT r ws ks ms = false := by
      show missT r ks ms = false
      rw [e, kv_len, List.drop_length]
      rfl
    rw [e'] at z
    exact z
end
end Wd
/-! comes_to, common, same, cover. -/
namespace Wd
open PySem PySem.Spec PyProof.Rows L2
section
variable {P : Program} {w : World} {K : PySem.W.Frag} {mg : Str → Option Value} {base : Heap} {C : Addr}
def spComes : Sp := fun vs H Q _ => ∃ r w t x : Nat, vs = [.int (r : Int), .int (w : Int), .int (t : Int), .int (x : Int)] ∧ 0 < r ∧ t < r ∧ Q (.bl (comes r w t x)) H
theorem scComes : FnScope ["teeth", "step", "begun", "tooth"] ["teeth", "step", "begun", "tooth"] (defScope sComes) := ⟨rfl, rfl, rfl, by decide +kernel, rfl, by decide +kernel, by decide +kernel⟩
theorem ok_comes {f g : Addr} {fd gd : FuncData} (F : Fun K "comes_to" "comes_to" sComes f fd) (G : Fun K "common_divisor" "common_divisor" sGcd g gd) (bG : Binds K gd ["one", "other"] []) (mG : mg "common_divisor" = some (.ref g)) :
    FnOk P w K mg base CX0 2 f fd ["teeth", "step", "begun", "tooth"] spComes := by
  refine F.ok scComes (fun vs H Q E h => ?_) (fun cdv A outer s H vs Q E hr h => ?_)
  · obtain ⟨_, _, _, _, rfl, _⟩ := h
    rfl
  obtain ⟨r, w, t, x, rfl, h0, ht, k⟩ := h
  have gp : 0 < Nat.gcd r w := Nat.gcd_pos_of_pos_left w h0
  refine ⟨_, pss_one (ps_ret (pe_cmpR op_eq (pe_op op_mod (pe_op op_sub (pv 3) (pv 2)) (pe_call (ok_gcd G) hr rfl mG G.kp bG .nil pass0 (pa_cons (pv 0) (pa_cons (pv 1) pa_nil)))) pe_int (nomark _))), ?_⟩
  refine ⟨_, rfl, _, rfl, _, _, rfl, rfl, _, rfl, _, rfl, r, w, rfl, _, _, rfl, rfl, (by show (0 : Int) < ((Nat.gcd r w : Nat) : Int); omega), rfl, ?_⟩
  have e : decide (V.int (((x : Int) - (t : Int)) % ((Nat.gcd r w : Nat) : Int)) = V.int 0) = comes r w t x := by
    unfold comes
    rw [comes_int h0 ht]
    refine decide_eq_decide.mpr ⟨fun q => ?_, fun q => ?_⟩
    · injection q
      omega
    · rw [q]
      rfl
  rw [← e] at k
  exact k
theorem fit7 {r c : Nat} {ws ms : List Nat} (hc : c = 7 ∨ c = 8) (h : fit r ws c ms) : ∃ i t j u, ms = [i, t, j, u] ∧ 0 < r ∧ i < ws.length ∧ t < r ∧ j < ws.length ∧ u < r := by
  rcases hc with rfl | rfl
  · match ms, h with
    | [i, t, j, u], h => exact ⟨i, t, j, u, rfl, h⟩
  · match ms, h with
    | [i, t, j, u], h => exact ⟨i, t, j, u, rfl, h⟩
theorem cut_one (xs : List Nat) : cutV (iv xs) none (some 1) = iv (xs.take 1) := by
  cases xs with
  | nil => rfl
  | cons x xs =>
    have e : HT.sIx (iv (x :: xs)).length (iv (x :: xs)).length (some 1) = 1 := by
      refine (HT.sIx_nat _ _ 1).trans ?_
      rw [iv_len, List.length_cons]
      omega
    unfold cutV
    rw [HT.sIx_none, e]
    rfl
theorem scCommon : FnScope ["box", "numbers", "step", "other_step", "of_one", "of_both", "tooth"] ["box", "numbers"] (defScope sCommon) := ⟨rfl, rfl, rfl, by decide +kernel, rfl, by decide +kernel, by decide +kernel⟩
theorem ok_common {f g : Addr} {fd gd : FuncData} (F : Fun K "common" "common" sCommon f fd) (T : Txt K mg C) (G2 : FnOk P w K mg base CX0 2 g gd ["teeth", "step", "begun", "tooth"] spComes) (kG : PySem.W.keepIn K (.ref g) = true) (bG : Binds K gd ["teeth", "step", "begun", "tooth"] [])
    (mG : mg "comes_to" = some (.ref g)) : FnOk P w K mg base CX0 3 f fd ["box", "numbers"] (spCall K C 7) := by
  refine F.ok scCommon spCall_len (fun cdv A outer s H vs Q E hr h => ?_)
  obtain ⟨bx, lw, nl, r, ws, ms, rfl, B, G, hn, ft, k⟩ := h
  obtain ⟨i, t, j, u, rfl, hr0, hi, ht, hj, hu⟩ := fit7 (.inl rfl) ft
  obtain ⟨v, hv⟩ := wheel_at hi
  obtain ⟨v2, hv2⟩ := wheel_at hj
  have r60 := G.high
  obtain ⟨dx, hb⟩ := B.ex
  refine ⟨_, pss_cons (ps_set (i := 2) scCommon.nd rfl (Or.inr rfl) (pe_ix ix_list (pe_fld (pv 0) rfl) (pe_ix ix_list (pv 1) pe_int (fun _ _ => rfl)) (fun _ _ => rfl)))
    (pss_cons (ps_set (i := 3) scCommon.nd rfl (Or.inr rfl) (pe_ix ix_list (pe_fld (pv 0) rfl) (pe_ix ix_list (pv 1) pe_int (fun _ _ => rfl)) (fun _ _ => rfl)))
    (pss_cons (ps_setLc (i := 4) (own := [("tooth", 6)]) (g := gName 6) (tt := tB (tCall spComes [] E0 (tCons (tFld K (tVar 0) "teeth") (tCons (tVar 2) (tCons (tOp (rIxL K) (tVar 1) (tC (.int 1))) (tCons (tVar 6) tNil)))))) (te := tVar 6) (by rfl) scCommon.nd rfl rfl (sw_true rfl rfl rfl (by decide +kernel)) (pi_range1 (by rfl) T.range (pa_cons (pe_fld (pv 0) rfl) pa_nil))
      (blkOk_by (own := [("tooth", 6)]) (N := ["box", "numbers", "step", "other_step", "of_one", "of_both", "tooth"]) (sc := defScope sCommon) (by decide +kernel))
      (fun _ _ _ _ _ => pg_name (i := 6) scCommon.nd rfl (Or.inl rfl))
      (fun _ _ _ _ _ => by exact pts_one (pt_val (pe_call G2 hr rfl mG kG bG .nil pass0 (pa_cons (pe_fld (pv 0) rfl) (pa_cons (pv 2) (pa_cons (pe_ix ix_list (pv 1) pe_int (fun _ _ => rfl)) (pa_cons (pv 6) pa_nil)))))))
      (fun _ _ _ _ _ => pv 6))
    (pss_cons (ps_setLc (i := 5) (own := [("tooth", 6)]) (g := gName 6) (tt := tB (tCall spComes [] E0 (tCons (tFld K (tVar 0) "teeth") (tCons (tVar 3) (tCons (tOp (rIxL K) (tVar 1) (tC (.int 3))) (tCons (tVar 6) tNil)))))) (te := tVar 6) (by rfl) scCommon.nd rfl rfl (sw_true rfl rfl rfl (by decide +kernel)) (pi_list (pv 4))
      (blkOk_by (own := [("tooth", 6)]) (N := ["box", "numbers", "step", "other_step", "of_one", "of_both", "tooth"]) (sc := defScope sCommon) (by decide +kernel))
      (fun _ _ _ _ _ => pg_name (i := 6) scCommon.nd rfl (Or.inl rfl))
      (fun _ _ _ _ _ => by exact pts_one (pt_val (pe_call G2 hr rfl mG kG bG .nil pass0 (pa_cons (pe_fld (pv 0) rfl) (pa_cons (pv 3) (pa_cons (pe_ix ix_list (pv 1) pe_int (fun _ _ => rfl)) (pa_cons (pv 6) pa_nil)))))))
      (fun _ _ _ _ _ => pv 6))
    (pss_one (ps_ret (pe_op op_cat (pe_lst (pa_cons (pe_callB call_len_seq (by rfl) T.len PySem.boot_len (pa_cons (pv 5) pa_nil)) pa_nil)) (pe_slice sl_list (pv 5) po_none (po_some pe_int)))))))), ?_⟩
  refine ⟨_, rfl, bx, C, dx, _, _, rfl, hb, T.cl, T.nW, bF_wheels r lw, _, rfl, nl, _, _, _, rfl, rfl, hn, iv_at (i := 0) (n := i) rfl, lw, _, _, _, rfl, rfl, SqL.of B.lst, iv_at hv, ?_⟩
  refine ⟨_, rfl, bx, C, dx, _, _, rfl, hb, T.cl, T.nW, bF_wheels r lw, _, rfl, nl, _, _, _, rfl, rfl, hn, iv_at (i := 2) (n := j) rfl, lw, _, _, _, rfl, rfl, SqL.of B.lst, iv_at hv2, ?_⟩
  refine ⟨_, rfl, bx, C, dx, _, _, rfl, hb, T.cl, T.nT, bF_teeth r lw, (r : Int), rfl, by omega, by omega, fun D hD => ?_⟩
  refine lc_range (lo := 0) (n := r) (fun m H' => Same H H' ∧ H' D = some (.lst (iv (onesTo r v t m)))) ⟨Same.new hD, upd_same⟩ ?_ ?_
  · rintro m H' hm ⟨s1, hD1⟩
    have e0 : (0 : Int) + (m : Int) = (m : Int) := by omega
    rw [e0]
    refine ⟨rfl, _, rfl, bx, C, dx, _, _, rfl, s1 _ _ hb, T.cl, T.nT, bF_teeth r lw, _, rfl, _, rfl, nl, _, _, _, rfl, rfl, s1.seq hn, iv_at (i := 1) (n := t) rfl, _, rfl, r, v, t, m, rfl, hr0, ht, _, rfl, ?_⟩
    cases c : comes r v t m with
    | true =>
      refine if_t rfl ⟨_, rfl, _, hD1, ?_, fun b o e => ?_, ?_⟩
      · have := onesTo_len r v t m
        rw [iv_len]
        exact small1000 (by omega)
      · rw [upd_ne (ne_of_none e hD)]
        exact s1 b o e
      · rw [upd_same, onesTo_in c]
        unfold iv
        rw [List.map_append]
        rfl
    | false => exact if_f rfl ⟨s1, by rw [hD1, onesTo_out c]⟩
  rintro H1 ⟨s1, hD1⟩
  have B1 := B.same s1
  have hb1 := s1 _ _ hb
  have hn1 := s1.seq hn
  have ln := onesTo_len r v t r
  refine ⟨_, rfl, D, rfl, ⟨_, SqL.of hD1⟩, fun D2 hD2 => ?_⟩
  refine lc_list (xs := iv (onesTo r v t r)) (fun m H' => Same H1 H' ∧ H' D2 = some (.lst (iv (((onesTo r v t r).take m).filter (comes r v2 u))))) ⟨Same.new hD2, upd_same⟩ (fun m H' _ p => SqL.of (p.1 _ _ hD1)) ?_ ?_
  · rintro m x H' hx ⟨s2, hD3⟩
    obtain ⟨n, hn2, rfl⟩ := iv_of hx
    refine ⟨rfl, _, rfl, bx, C, dx, _, _, rfl, s2 _ _ hb1, T.cl, T.nT, bF_teeth r lw, _, rfl, _, rfl, nl, _, _, _, rfl, rfl, s2.seq hn1, iv_at (i := 3) (n := u) rfl, _, rfl, r, v2, u, n, rfl, hr0, hu, _, rfl, ?_⟩
    cases c : comes r v2 u n with
    | true =>
      refine if_t rfl ⟨_, rfl, _, hD3, ?_, fun b o e => ?_, ?_⟩
      · have l1 := List.length_filter_le (comes r v2 u) ((onesTo r v t r).take m)
        have l2 := List.length_take_le' m (onesTo r v t r)
        rw [iv_len]
        exact small1000 (by omega)
      · rw [upd_ne (ne_of_none e hD2)]
        exact s2 b o e
      · rw [upd_same, filt_in hn2 c]
        unfold iv
        rw [List.map_append]
        rfl
    | false => exact if_f rfl ⟨s2, by rw [hD3, filt_out hn2 c]⟩
  rintro H2 ⟨s2, hD3⟩
  rw [iv_len, List.take_length, ← common_is ht hu] at hD3
  have hl : (Mu53.common r v t v2 u).length ≤ r := by
    rw [common_is ht hu]
    exact Nat.le_trans (List.length_filter_le _ _) ln
  refine ⟨_, rfl, D2, _, rfl, .inl (SqL.of hD3), (by show 1 ≤ sizeLine; decide), fun q hq => ?_⟩
  refine ⟨_, rfl, 1, rfl, D2, _, rfl, SqL.of ((upd_ne (ne_of_none hD3 hq)).trans hD3), fun z hz => ?_⟩
  have nqz : q ≠ z := ne_of_none upd_same hz
  refine ⟨q, z, _, _, rfl, rfl, (upd_ne nqz).trans upd_same, upd_same, ?_, fun p hp => ?_⟩
  · have := cutV_length (iv (Mu53.common r v t v2 u)) none (some 1)
    rw [iv_len] at this
    show 1 + _ ≤ sizeLine
    exact Nat.le_of_lt (small1000 (by omega))
  · have s3 := ((s1.trans s2).trans (Same.new hq)).trans (Same.new (o := .lst (cutV (iv (Mu53.common r v t v2 u)) none (some 1))) hz)
    refine k p _ (Out.plain (out := ofs ((Mu53.common r v t v2 u).length :: (Mu53.common r v t v2 u).take 1)) B G (s3.trans (Same.new hp)) (s3.free hp) ?_ (due_common hr0 hv hv2 ht hu))
    rw [upd_same, iv_ofs, iv_len, cut_one]
    rfl
theorem scSame : FnScope ["box", "numbers", "step", "other_step", "like_lines"] ["box", "numbers"] (defScope sSame) := ⟨rfl, rfl, rfl, by decide +kernel, rfl, by decide +kernel, by decide +kernel⟩
theorem ok_same {f g : Addr} {fd gd : FuncData} (F : Fun K "same" "same" sSame f fd) (T : Txt K mg C) (G2 : FnOk P w K mg base CX0 2 g gd ["teeth", "step", "begun", "tooth"] spComes) (kG : PySem.W.keepIn K (.ref g) = true) (bG : Binds K gd ["teeth", "step", "begun", "tooth"] [])
    (mG : mg "comes_to" = some (.ref g)) : FnOk P w K mg base CX0 3 f fd ["box", "numbers"] (spCall K C 8) := by
  refine F.ok scSame spCall_len (fun cdv A outer s H vs Q E hr h => ?_)
  obtain ⟨bx, lw, nl, r, ws, ms, rfl, B, G, hn, ft, k⟩ := h
  obtain ⟨i, t, j, u, rfl, hr0, hi, ht, hj, hu⟩ := fit7 (.inr rfl) ft
  obtain ⟨v, hv⟩ := wheel_at hi
  obtain ⟨v2, hv2⟩ := wheel_at hj
  obtain ⟨dx, hb⟩ := B.ex
  refine ⟨_, pss_cons (ps_set (i := 2) scSame.nd rfl (Or.inl rfl) (pe_ix ix_list (pe_fld (pv 0) rfl) (pe_ix ix_list (pv 1) pe_int (fun _ _ => rfl)) (fun _ _ => rfl)))
    (pss_cons (ps_set (i := 3) scSame.nd rfl (Or.inl rfl) (pe_ix ix_list (pe_fld (pv 0) rfl) (pe_ix ix_list (pv 1) pe_int (fun _ _ => rfl)) (fun _ _ => rfl)))
    (pss_cons (ps_set (i := 4) scSame.nd rfl (Or.inl rfl) (pe_orT (pe_cmpR op_eq (pv 3) (pv 2) (nomark _)) (pe_one (pe_cmpR op_eq (pv 3) (pe_op op_sub (pe_fld (pv 0) rfl) (pv 2)) (nomark _)))))
    (pss_cons (ps_if (PW.pt (pw_and (pt_val (pv 4)) (pw_and1 (pt_val (pe_call G2 hr rfl mG kG bG .nil pass0 (pa_cons (pe_fld (pv 0) rfl) (pa_cons (pv 2) (pa_cons (pe_ix ix_list (pv 1) pe_int (fun _ _ => rfl)) (pa_cons (pe_ix ix_list (pv 1) pe_int (fun _ _ => rfl)) pa_nil)))))))))
      (pss_one (ps_ret (pe_lst (pa_cons pe_int pa_nil)))) pss_nil)
    (pss_one (ps_ret (pe_lst (pa_cons pe_int pa_nil))))))), ?_⟩
  have yes : ∀ z : Option V, ((decide (v2 = v) || decide (v2 = r - v)) && comes r v t u) = true → (tRet (tLst (tCons (tC (.int 1)) tNil))) { nx := fun _ H' => Q .non H', rt := Q } [some (.ref bx), some (.ref nl), some (.int (v : Int)), some (.int (v2 : Int)), z] H := fun z c =>
    ⟨by show 1 ≤ sizeLine; decide, fun p hp => k p _ (Out.plain (out := [1]) B G (Same.new hp) hp upd_same (by rw [due_same hr0 hv hv2 ht hu, same_is ht hu (G.at hv).1 (G.at hv).2 (G.at hv2).1 (G.at hv2).2, c, if_pos rfl]))⟩
  have no : ∀ z : Option V, ((decide (v2 = v) || decide (v2 = r - v)) && comes r v t u) = false → (tRet (tLst (tCons (tC (.int 0)) tNil))) { nx := fun _ H' => Q .non H', rt := Q } [some (.ref bx), some (.ref nl), some (.int (v : Int)), some (.int (v2 : Int)), z] H := fun z c =>
    ⟨by show 1 ≤ sizeLine; decide, fun p hp => k p _ (Out.plain (out := [0]) B G (Same.new hp) hp upd_same (by rw [due_same hr0 hv hv2 ht hu, same_is ht hu (G.at hv).1 (G.at hv).2 (G.at hv2).1 (G.at hv2).2, c, if_neg Bool.false_ne_true]))⟩
  have vr := G.at hv
  have e1 : decide (V.int (v2 : Int) = V.int (v : Int)) = decide (v2 = v) := decide_eq_decide.mpr ⟨fun q => by injection q; omega, fun q => by rw [q]⟩
  have e2 : decide (V.int (v2 : Int) = V.int ((r : Int) - (v : Int))) = decide (v2 = r - v) := decide_eq_decide.mpr ⟨fun q => by injection q; omega, fun q => by rw [show (v2 : Int) = (r : Int) - (v : Int) by omega]⟩
  refine ⟨_, rfl, bx, C, dx, _, _, rfl, hb, T.cl, T.nW, bF_wheels r lw, _, rfl, nl, _, _, _, rfl, rfl, hn, iv_at (i := 0) (n := i) rfl, lw, _, _, _, rfl, rfl, SqL.of B.lst, iv_at hv, ?_⟩
  refine ⟨_, rfl, bx, C, dx, _, _, rfl, hb, T.cl, T.nW, bF_wheels r lw, _, rfl, nl, _, _, _, rfl, rfl, hn, iv_at (i := 2) (n := j) rfl, lw, _, _, _, rfl, rfl, SqL.of B.lst, iv_at hv2, ?_⟩
  have ask : ∀ (b : Bool), b = (decide (v2 = v) || decide (v2 = r - v)) → ∀ (X Y : Prop), (((decide (v2 = v) || decide (v2 = r - v)) && comes r v t u) = true → X) → (((decide (v2 = v) || decide (v2 = r - v)) && comes r v t u) = false → Y) →
      (b = true → (if comes r v t u = true then X else Y)) ∧ (b = false → Y) := by
    intro b hb X Y hX hY
    rw [← hb] at hX hY
    refine ⟨fun h => ?_, fun h => hY (by rw [h]; rfl)⟩
    cases c : comes r v t u with
    | true => exact if_t rfl (hX (by rw [h, c]; rfl))
    | false => exact if_f rfl (hY (by rw [h, c]; rfl))
  refine ⟨_, rfl, _, rfl, rfl, _, rfl, ?_⟩
  by_cases c1 : v2 = v
  · refine if_t (by rw [e1]; exact decide_eq_true c1) ?_
    refine ⟨_, rfl, _, rfl, ?_⟩
    refine if_t (by rw [e1]; exact decide_eq_true c1) ?_
    refine ⟨_, rfl, bx, C, dx, _, _, rfl, hb, T.cl, T.nT, bF_teeth r lw, _, rfl, _, rfl, nl, _, _, _, rfl, rfl, hn, iv_at (i := 1) (n := t) rfl, _, rfl, nl, _, _, _, rfl, rfl, hn, iv_at (i := 3) (n := u) rfl, r, v, t, u, rfl, hr0, ht, _, rfl, ?_⟩
    exact (ask true (by simp [c1]) _ _ (yes none) (no none)).1 rfl
  · refine if_f (by rw [e1]; exact decide_eq_false c1) ?_
    refine ⟨_, rfl, _, rfl, bx, C, dx, _, _, rfl, hb, T.cl, T.nT, bF_teeth r lw, _, rfl, _, _, rfl, rfl, rfl, ?_⟩
    refine ⟨_, rfl, _, rfl, ?_⟩
    by_cases c2 : v2 = r - v
    · refine if_t (by rw [e2]; exact decide_eq_true c2) ?_
      refine ⟨_, rfl, bx, C, dx, _, _, rfl, hb, T.cl, T.nT, bF_teeth r lw, _, rfl, _, rfl, nl, _, _, _, rfl, rfl, hn, iv_at (i := 1) (n := t) rfl, _, rfl, nl, _, _, _, rfl, rfl, hn, iv_at (i := 3) (n := u) rfl, r, v, t, u, rfl, hr0, ht, _, rfl, ?_⟩
      exact (ask true (by simp [c2]) _ _ (yes none) (no none)).1 rfl
    · refine if_f (by rw [e2]; exact decide_eq_false c2) (if_f rfl ?_)
      exact no none (by simp [c1, c2])
theorem scCover : FnScope ["box", "numbers", "step"] ["box", "numbers"] (defScope sCover) := ⟨rfl, rfl, rfl, by decide +kernel, rfl, by decide +kernel, by decide +kernel⟩
theorem ok_cover {f g : Addr} {fd gd : FuncData} (F : Fun K "cover" "cover" sCover f fd) (T : Txt K mg C) (G2 : Fun K "common_divisor" "common_divisor" sGcd g gd) (bG : Binds K gd ["one", "other"] []) (mG : mg "common_divisor" = some (.ref g)) :
    FnOk P w K mg base CX0 2 f fd ["box", "numbers"] (spCall K C 9) := by
  refine F.ok scCover spCall_len (fun cdv A outer s H vs Q E hr h => ?_)
  obtain ⟨bx, lw, nl, r, ws, ms, rfl, B, G, hn, ft, k⟩ := h
  obtain ⟨i, rfl⟩ := fit1 rfl ft
  have hr0 : 0 < r := ft.1
  obtain ⟨v, hv⟩ := wheel_at ft.2
  obtain ⟨dx, hb⟩ := B.ex
  refine ⟨_, pss_cons (ps_set (i := 2) scCover.nd rfl (Or.inl rfl) (pe_ix ix_list (pe_fld (pv 0) rfl) (pe_ix ix_list (pv 1) pe_int (fun _ _ => rfl)) (fun _ _ => rfl)))
    (pss_one (ps_ret (pe_lst (pa_cons (pe_call (ok_gcd G2) hr rfl mG G2.kp bG .nil pass0 (pa_cons (pe_fld (pv 0) rfl) (pa_cons (pv 2) pa_nil))) pa_nil)))), ?_⟩
  refine ⟨_, rfl, bx, C, dx, _, _, rfl, hb, T.cl, T.nW, bF_wheels r lw, _, rfl, nl, _, _, _, rfl, rfl, hn, iv_at (i := 0) (n := i) rfl, lw, _, _, _, rfl, rfl, SqL.of B.lst, iv_at hv, ?_⟩
  refine ⟨_, rfl, bx, C, dx, _, _, rfl, hb, T.cl, T.nT, bF_teeth r lw, _, rfl, r, v, rfl, (by show 1 ≤ sizeLine; decide), fun p hp => ?_⟩
  exact k p _ (Out.plain (out := [((Nat.gcd r v : Nat) : Int)]) B G (Same.new hp) hp upd_same (due_cover hr0 hv))
end
end Wd
/-! place_in_turn, points_in_turn, turns, turn, look. -/
namespace Wd
open PySem PySem.Spec PyProof.Rows L2
section
variable {P : Program} {w : World} {K : PySem.W.Frag} {mg : Str → Option Value} {base : Heap} {C : Addr}
def spPlace (K : PySem.W.Frag) : Sp := fun vs H Q _ => ∃ (st : Addr) (r w v t k : Nat), vs = [.int (r : Int), .ref st, .int (t : Int), .int (k : Int)] ∧ SqT K H st [.int (w : Int), .int (v : Int)] ∧ 0 < r ∧ k ≤ 100000 ∧ Q (.int ((Mu53.inTurn r w v t k : Nat) : Int)) H
theorem scPlace : FnScope ["teeth", "steps", "begun", "k", "pairs"] ["teeth", "steps", "begun", "k"] (defScope sPlace) := ⟨rfl, rfl, rfl, by decide +kernel, rfl, by decide +kernel, by decide +kernel⟩
theorem ok_place {f : Addr} {fd : FuncData} (F : Fun K "place_in_turn" "place_in_turn" sPlace f fd) : FnOk P w K mg base CX0 1 f fd ["teeth", "steps", "begun", "k"] (spPlace K) := by
  refine F.ok scPlace (fun vs H Q E h => ?_) (fun cdv A outer s H vs Q E hr h => ?_)
  · obtain ⟨_, _, _, _, _, _, rfl, _⟩ := h
    rfl
  obtain ⟨st, r, w, v, t, n, rfl, hs, h0, hn, k⟩ := h
  refine ⟨_, pss_cons (ps_set (i := 4) scPlace.nd rfl (Or.inl rfl) (pe_op op_fdiv (pv 3) pe_int))
    (pss_one (ps_ret (pe_op op_mod (pe_op op_add (pe_op op_add (pv 2) (pe_op op_mul (pe_op op_sub (pv 3) (pv 4)) (pe_ix ix_tup (pv 1) pe_int (fun _ _ => rfl)))) (pe_op op_mul (pv 4) (pe_ix ix_tup (pv 1) pe_int (fun _ _ => rfl)))) (pv 0)))), ?_⟩
  refine ⟨_, rfl, _, _, rfl, rfl, ⟨by decide, by decide⟩, ?_⟩
  refine ⟨_, rfl, _, rfl, _, rfl, _, _, rfl, rfl, _, rfl, st, _, _, _, rfl, rfl, hs, atI_nat (j := 0) rfl, _, _, rfl, rfl, .inl ⟨by omega, by omega⟩, _, _, rfl, rfl, ?_⟩
  refine ⟨_, rfl, _, rfl, st, _, _, _, rfl, rfl, hs, atI_nat (j := 1) rfl, _, _, rfl, rfl, .inl ⟨by omega, by omega⟩, _, _, rfl, rfl, _, rfl, _, _, rfl, rfl, (by show (0 : Int) < (r : Int); omega), ?_⟩
  rw [← turn_int] at k
  exact k
def spPit (K : PySem.W.Frag) : Sp := fun vs H Q _ => ∃ (st : Addr) (r w v : Nat), vs = [.int (r : Int), .ref st] ∧ SqT K H st [.int (w : Int), .int (v : Int)] ∧ 0 < r ∧ r ≤ 60 ∧ w < r ∧ v < r ∧ ∀ H', Same H H' → Q (.int ((Mu53.turnLong r w v : Nat) : Int)) H'
theorem scPit : FnScope ["teeth", "steps"] ["teeth", "steps"] (defScope sPit) := ⟨rfl, rfl, rfl, by decide +kernel, rfl, by decide +kernel, by decide +kernel⟩
theorem ok_pit {f g : Addr} {fd gd : FuncData} (F : Fun K "points_in_turn" "points_in_turn" sPit f fd) (G2 : FnOk P w K mg base CX0 2 g gd ["teeth", "step"] spPar) (kG : PySem.W.keepIn K (.ref g) = true) (bG : Binds K gd ["teeth", "step"] [])
    (mG : mg "points_and_rounds" = some (.ref g)) : FnOk P w K mg base CX0 3 f fd ["teeth", "steps"] (spPit K) := by
  refine F.ok scPit (fun vs H Q E h => ?_) (fun cdv A outer s H vs Q E hr h => ?_)
  · obtain ⟨_, _, _, _, rfl, _⟩ := h
    rfl
  obtain ⟨st, r, w, v, rfl, hs, h0, h60, hw, hv, k⟩ := h
  refine ⟨_, pss_cons (ps_if (pt_cmpR op_eq (pe_ix ix_tup (pv 1) pe_int (fun _ _ => rfl)) (pe_ix ix_tup (pv 1) pe_int (fun _ _ => rfl)) (nomark _))
      (pss_one (ps_ret (pe_ix ix_tup (pe_call G2 hr rfl mG kG bG .nil pass0 (pa_cons (pv 0) (pa_cons (pe_ix ix_tup (pv 1) pe_int (fun _ _ => rfl)) pa_nil))) pe_int (fun _ _ => rfl)))) pss_nil)
    (pss_one (ps_ret (pe_op op_mul pe_int (pe_ix ix_tup (pe_call G2 hr rfl mG kG bG .nil pass0 (pa_cons (pv 0) (pa_cons (pe_op op_add (pe_ix ix_tup (pv 1) pe_int (fun _ _ => rfl)) (pe_ix ix_tup (pv 1) pe_int (fun _ _ => rfl))) pa_nil))) pe_int (fun _ _ => rfl))))), ?_⟩
  refine ⟨_, rfl, st, _, _, _, rfl, rfl, hs, atI_nat (j := 0) rfl, _, rfl, st, _, _, _, rfl, rfl, hs, atI_nat (j := 1) rfl, rfl, _, rfl, ?_⟩
  have el : Mu53.turnLong r w v = if w = v then Mu53.points r w else 2 * Mu53.points r (w + v) := by
    unfold Mu53.turnLong
    rw [Nat.mod_eq_of_lt hw, Nat.mod_eq_of_lt hv]
  by_cases c : w = v
  · refine if_t (decide_eq_true (by rw [c])) ?_
    refine ⟨_, rfl, _, rfl, st, _, _, _, rfl, rfl, hs, atI_nat (j := 0) rfl, r, w, rfl, h0, h60, fun p hp => ?_⟩
    refine ⟨p, _, _, _, rfl, rfl, SqT.of upd_same, atI_nat (j := 0) rfl, ?_⟩
    rw [el, if_pos c] at k
    exact k _ (Same.new hp)
  · refine if_f (decide_eq_false fun q => c (by injection q; omega)) ?_
    refine ⟨_, rfl, _, rfl, st, _, _, _, rfl, rfl, hs, atI_nat (j := 0) rfl, _, rfl, st, _, _, _, rfl, rfl, hs, atI_nat (j := 1) rfl, _, _, rfl, rfl, r, w + v, rfl, h0, h60, fun p hp => ?_⟩
    refine ⟨p, _, _, _, rfl, rfl, SqT.of upd_same, atI_nat (j := 0) rfl, _, _, rfl, rfl, .inl ⟨by decide, by decide⟩, ?_⟩
    rw [el, if_neg c, Int.natCast_mul] at k
    exact k _ (Same.new hp)
theorem fit10 {r : Nat} {ws ms : List Nat} (h : fit r ws 10 ms) : ∃ i j, ms = [i, j] ∧ 0 < r ∧ i < ws.length ∧ j < ws.length := by
  match ms, h with
  | [i, j], h => exact ⟨i, j, rfl, h⟩
theorem fit11 {r : Nat} {ws ms : List Nat} (h : fit r ws 11 ms) : ∃ i j t k, ms = [i, j, t, k] ∧ 0 < r ∧ i < ws.length ∧ j < ws.length ∧ t < r ∧ k ≤ 100000 := by
  match ms, h with
  | [i, j, t, k], h => exact ⟨i, j, t, k, rfl, h⟩
theorem scTurns : FnScope ["box", "numbers", "steps", "points", "places", "k"] ["box", "numbers"] (defScope sTurns) := ⟨rfl, rfl, rfl, by decide +kernel, rfl, by decide +kernel, by decide +kernel⟩
theorem ok_turns {f g g1 : Addr} {fd gd gd1 : FuncData} (F : Fun K "turns" "turns" sTurns f fd) (T : Txt K mg C)
    (G3 : FnOk P w K mg base CX0 3 g gd ["teeth", "steps"] (spPit K)) (kG : PySem.W.keepIn K (.ref g) = true) (bG : Binds K gd ["teeth", "steps"] []) (mG : mg "points_in_turn" = some (.ref g))
    (G1 : FnOk P w K mg base CX0 1 g1 gd1 ["teeth", "steps", "begun", "k"] (spPlace K)) (k1 : PySem.W.keepIn K (.ref g1) = true) (b1 : Binds K gd1 ["teeth", "steps", "begun", "k"] []) (m1 : mg "place_in_turn" = some (.ref g1)) :
    FnOk P w K mg base CX0 4 f fd ["box", "numbers"] (spCall K C 10) := by
  refine F.ok scTurns spCall_len (fun cdv A outer s H vs Q E hr h => ?_)
  obtain ⟨bx, lw, nl, r, ws, ms, rfl, B, G, hn, ft, k⟩ := h
  obtain ⟨i, j, rfl, hr0, hi, hj⟩ := fit10 ft
  obtain ⟨v, hv⟩ := wheel_at hi
  obtain ⟨v2, hv2⟩ := wheel_at hj
  have r60 := G.high
  have vr := (G.at hv).2
  have v2r := (G.at hv2).2
  have tl := turnLong_le (w := v) (v := v2) r60
  obtain ⟨dx, hb⟩ := B.ex
  have hr1 : Room 1 _ := hr.mono (by decide)
  refine ⟨_, pss_cons (ps_set (i := 2) scTurns.nd rfl (Or.inr rfl) (pe_tup (pa_cons (pe_ix ix_list (pe_fld (pv 0) rfl) (pe_ix ix_list (pv 1) pe_int (fun _ _ => rfl)) (fun _ _ => rfl)) (pa_cons (pe_ix ix_list (pe_fld (pv 0) rfl) (pe_ix ix_list (pv 1) pe_int (fun _ _ => rfl)) (fun _ _ => rfl)) pa_nil))))
    (pss_cons (ps_set (i := 3) scTurns.nd rfl (Or.inl rfl) (pe_call G3 hr rfl mG kG bG .nil pass0 (pa_cons (pe_fld (pv 0) rfl) (pa_cons (pv 2) pa_nil))))
    (pss_cons (ps_setLc (i := 4) (own := [("k", 5)]) (g := gName 5) (tt := tYes) (te := tCall (spPlace K) [] E0 (tCons (tFld K (tVar 0) "teeth") (tCons (tVar 2) (tCons (tC (.int 0)) (tCons (tVar 5) tNil))))) (by rfl) scTurns.nd rfl rfl (sw_true rfl rfl rfl (by decide +kernel)) (pi_range1 (by rfl) T.range (pa_cons (pv 3) pa_nil))
      (blkOk_by (own := [("k", 5)]) (N := ["box", "numbers", "steps", "points", "places", "k"]) (sc := defScope sTurns) (by decide +kernel))
      (fun _ _ _ _ _ => pg_name (i := 5) scTurns.nd rfl (Or.inl rfl))
      (fun _ _ _ _ _ => pts_nil)
      (fun _ _ _ _ _ => by exact pe_call G1 hr1 rfl m1 k1 b1 .nil pass0 (pa_cons (pe_fld (pv 0) rfl) (pa_cons (pv 2) (pa_cons pe_int (pa_cons (pv 5) pa_nil))))))
    (pss_one (ps_ret (pe_lst (pa_cons (pe_count (by rfl) T.len (by rfl) T.set_ (pv 4)) (pa_cons (pv 3) pa_nil))))))), ?_⟩
  refine ⟨_, rfl, bx, C, dx, _, _, rfl, hb, T.cl, T.nW, bF_wheels r lw, _, rfl, nl, _, _, _, rfl, rfl, hn, iv_at (i := 0) (n := i) rfl, lw, _, _, _, rfl, rfl, SqL.of B.lst, iv_at hv, ?_⟩
  refine ⟨_, rfl, bx, C, dx, _, _, rfl, hb, T.cl, T.nW, bF_wheels r lw, _, rfl, nl, _, _, _, rfl, rfl, hn, iv_at (i := 1) (n := j) rfl, lw, _, _, _, rfl, rfl, SqL.of B.lst, iv_at hv2, (by show 2 ≤ sizeLine; decide), fun st hst => ?_⟩
  have s1 : Same H (upd H st (.tup [.int (v : Int), .int (v2 : Int)])) := Same.new hst
  refine ⟨_, rfl, bx, C, dx, _, _, rfl, s1 _ _ hb, T.cl, T.nT, bF_teeth r lw, _, rfl, st, r, v, v2, rfl, SqT.of upd_same, hr0, r60, vr, v2r, fun H1 s2 => ?_⟩
  have s12 := s1.trans s2
  have hst1 : H1 st = some (.tup [.int (v : Int), .int (v2 : Int)]) := s2 _ _ upd_same
  refine ⟨_, rfl, ((Mu53.turnLong r v v2 : Nat) : Int), rfl, by omega, by omega, fun D hD => ?_⟩
  refine lc_range (lo := 0) (n := Mu53.turnLong r v v2) (fun m H' => Same H1 H' ∧ H' D = some (.lst (iv (places r v v2 m)))) ⟨Same.new hD, upd_same⟩ ?_ ?_
  · rintro m H' hm ⟨s3, hD1⟩
    have e0 : (0 : Int) + (m : Int) = (m : Int) := by omega
    rw [e0]
    refine ⟨rfl, ?_⟩
    unfold tYes
    refine if_t rfl ?_
    refine ⟨_, rfl, bx, C, dx, _, _, rfl, (s12.trans s3) _ _ hb, T.cl, T.nT, bF_teeth r lw, _, rfl, _, rfl, st, r, v, v2, 0, m, rfl, SqT.of (s3 _ _ hst1), hr0, by omega, ?_⟩
    refine ⟨_, hD1, ?_, fun b o e => ?_, ?_⟩
    · rw [iv_len, places_len]
      exact small1000 (by omega)
    · rw [upd_ne (ne_of_none e hD)]
      exact s3 b o e
    · rw [upd_same, places_next]
      unfold iv
      rw [List.map_append]
      rfl
  rintro H2 ⟨s3, hD1⟩
  have s123 := s12.trans s3
  rw [← iv_ofs] at hD1
  have cnt : (PySem.W.ossOf (ofs (places r v v2 (Mu53.turnLong r v v2)))).length = Mu53.turnPoints r v v2 := turns_count_int hr0 vr v2r (oss_nodup _) fun x => PySem.W.oss_has
  refine ⟨_, rfl, D, _, rfl, SqL.of hD1, ?_, _, rfl, (by show 2 ≤ sizeLine; decide), fun p hp => ?_⟩
  · unfold ofs
    rw [List.length_map, places_len]
    omega
  · refine k p _ (Out.plain (out := [((Mu53.turnPoints r v v2 : Nat) : Int), ((Mu53.turnLong r v v2 : Nat) : Int)]) B G (s123.trans (Same.new hp)) (s123.free hp) ?_ (due_turns hr0 hv hv2))
    rw [upd_same, cnt]
    rfl
theorem scTurn : FnScope ["box", "numbers", "steps"] ["box", "numbers"] (defScope sTurn) := ⟨rfl, rfl, rfl, by decide +kernel, rfl, by decide +kernel, by decide +kernel⟩
theorem ok_turn {f g1 : Addr} {fd gd1 : FuncData} (F : Fun K "turn" "turn" sTurn f fd) (T : Txt K mg C)
    (G1 : FnOk P w K mg base CX0 1 g1 gd1 ["teeth", "steps", "begun", "k"] (spPlace K)) (k1 : PySem.W.keepIn K (.ref g1) = true) (b1 : Binds K gd1 ["teeth", "steps", "begun", "k"] []) (m1 : mg "place_in_turn" = some (.ref g1)) :
    FnOk P w K mg base CX0 2 f fd ["box", "numbers"] (spCall K C 11) := by
  refine F.ok scTurn spCall_len (fun cdv A outer s H vs Q E hr h => ?_)
  obtain ⟨bx, lw, nl, r, ws, ms, rfl, B, G, hn, ft, k⟩ := h
  obtain ⟨i, j, t, n, rfl, hr0, hi, hj, ht, hk⟩ := fit11 ft
  obtain ⟨v, hv⟩ := wheel_at hi
  obtain ⟨v2, hv2⟩ := wheel_at hj
  obtain ⟨dx, hb⟩ := B.ex
  refine ⟨_, pss_cons (ps_set (i := 2) scTurn.nd rfl (Or.inl rfl) (pe_tup (pa_cons (pe_ix ix_list (pe_fld (pv 0) rfl) (pe_ix ix_list (pv 1) pe_int (fun _ _ => rfl)) (fun _ _ => rfl)) (pa_cons (pe_ix ix_list (pe_fld (pv 0) rfl) (pe_ix ix_list (pv 1) pe_int (fun _ _ => rfl)) (fun _ _ => rfl)) pa_nil))))
    (pss_one (ps_ret (pe_lst (pa_cons (pe_call G1 hr rfl m1 k1 b1 .nil pass0 (pa_cons (pe_fld (pv 0) rfl) (pa_cons (pv 2) (pa_cons (pe_ix ix_list (pv 1) pe_int (fun _ _ => rfl)) (pa_cons (pe_ix ix_list (pv 1) pe_int (fun _ _ => rfl)) pa_nil))))) pa_nil)))), ?_⟩
  refine ⟨_, rfl, bx, C, dx, _, _, rfl, hb, T.cl, T.nW, bF_wheels r lw, _, rfl, nl, _, _, _, rfl, rfl, hn, iv_at (i := 0) (n := i) rfl, lw, _, _, _, rfl, rfl, SqL.of B.lst, iv_at hv, ?_⟩
  refine ⟨_, rfl, bx, C, dx, _, _, rfl, hb, T.cl, T.nW, bF_wheels r lw, _, rfl, nl, _, _, _, rfl, rfl, hn, iv_at (i := 1) (n := j) rfl, lw, _, _, _, rfl, rfl, SqL.of B.lst, iv_at hv2, (by show 2 ≤ sizeLine; decide), fun st hst => ?_⟩
  have s1 : Same H (upd H st (.tup [.int (v : Int), .int (v2 : Int)])) := Same.new hst
  have hn1 := s1.seq hn
  refine ⟨_, rfl, bx, C, dx, _, _, rfl, s1 _ _ hb, T.cl, T.nT, bF_teeth r lw, _, rfl, _, rfl, nl, _, _, _, rfl, rfl, hn1, iv_at (i := 2) (n := t) rfl, _, rfl, nl, _, _, _, rfl, rfl, hn1, iv_at (i := 3) (n := n) rfl, st, r, v, v2, t, n, rfl, SqT.of upd_same, hr0, hk, (by show 1 ≤ sizeLine; decide), fun p hp => ?_⟩
  exact k p _ (Out.plain (out := [((Mu53.inTurn r v v2 t n : Nat) : Int)]) B G (s1.trans (Same.new hp)) (s1.free hp) upd_same (due_turn hr0 hv hv2 ht hk))
theorem scLook : FnScope ["box", "numbers"] ["box", "numbers"] (defScope sLook) := ⟨rfl, rfl, rfl, by decide +kernel, rfl, by decide +kernel, by decide +kernel⟩
theorem ok_look {f : Addr} {fd : FuncData} (F : Fun K "look" "look" sLook f fd) (T : Txt K mg C) : FnOk P w K mg base CX0 1 f fd ["box", "numbers"] (spCall K C 12) := by
  refine F.ok scLook spCall_len (fun cdv A outer s H vs Q E hr h => ?_)
  obtain ⟨bx, lw, nl, r, ws, ms, rfl, B, G, hn, ft, k⟩ := h
  have f12 : ms = [] ∧ 0 < r := by
    match ms, ft with
    | [], h => exact ⟨rfl, h⟩
  obtain ⟨rfl, hr0⟩ := f12
  obtain ⟨dx, hb⟩ := B.ex
  have six := G.six
  refine ⟨_, pss_one (ps_ret (pe_op op_cat (pe_lst (pa_cons (pe_fld (pv 0) rfl) (pa_cons (pe_callB call_len_seq (by rfl) T.len PySem.boot_len (pa_cons (pe_fld (pv 0) rfl) pa_nil)) pa_nil))) (pe_fld (pv 0) rfl))), ?_⟩
  refine ⟨_, rfl, bx, C, dx, _, _, rfl, hb, T.cl, T.nT, bF_teeth r lw, _, rfl, bx, C, dx, _, _, rfl, hb, T.cl, T.nW, bF_wheels r lw, lw, _, rfl, .inl (SqL.of B.lst), (by show 2 ≤ sizeLine; decide), fun q hq => ?_⟩
  have s1 := Same.new (o := .lst [.int (r : Int), .int ((iv ws).length : Int)]) hq
  refine ⟨_, rfl, bx, C, dx, _, _, rfl, s1 _ _ hb, T.cl, T.nW, bF_wheels r lw, q, lw, _, _, rfl, rfl, upd_same, s1 _ _ B.lst, ?_, fun p hp => ?_⟩
  · rw [iv_len]
    show 2 + _ ≤ sizeLine
    exact Nat.le_of_lt (small1000 (by omega))
  · refine k p _ (Out.plain (out := ofs (r :: ws.length :: ws)) B G (s1.trans (Same.new hp)) (s1.free hp) ?_ (due_look hr0))
    rw [upd_same, iv_ofs, iv_len]
    rfl
end
end Wd
/-! answer, answers. -/
namespace Wd
open PySem PySem.Spec PyProof.Rows L2
section
variable {P : Program} {w : World} {K : PySem.W.Frag} {mg : Str → Option Value} {base : Heap} {C : Addr}
/-- the two tables of the top -/
structure Tabs (P : Program) (w : World) (K : PySem.W.Frag) (mg : Str → Option Value) (base : Heap) (C aK aC : Addr) (kts fs : List Addr) : Prop where
  gK : mg "KINDS" = some (.ref aK)
  gC : mg "CALLS" = some (.ref aC)
  kl : kts.length = 13
  fl : fs.length = 13
  nd : fs.Nodup
  kT : ∀ H, SqT K H aK (kts.map V.ref)
  cT : ∀ H, SqT K H aC (fs.map V.ref)
  kE : ∀ (c : Nat) (kt : Addr), kts[c]? = some kt → ∀ H, SqT K H kt (kv (kinds c))
  hE : ∀ (c : Nat) (f : Addr), fs[c]? = some f → Held P w K mg base 4 f (spCall K C c)
def pick (K : PySem.W.Frag) (C : Addr) (fs : List Addr) (f : Addr) : Option Sp := (fs.findIdx? (· == f)).map (spCall K C)
theorem pick_of {fs : List Addr} {f : Addr} {sp : Sp} (h : pick K C fs f = some sp) : ∃ c, fs[c]? = some f ∧ sp = spCall K C c := by
  unfold pick at h
  cases e : fs.findIdx? (· == f) with
  | none =>
    rw [e] at h
    cases h
  | some c =>
    rw [e] at h
    obtain ⟨hc, q, _⟩ := List.findIdx?_eq_some_iff_getElem.mp e
    exact ⟨c, by rw [List.getElem?_eq_getElem hc, eq_of_beq q], (Option.some.inj h).symm⟩
theorem pick_at {fs : List Addr} {f : Addr} {c : Nat} (nd : fs.Nodup) (h : fs[c]? = some f) : pick K C fs f = some (spCall K C c) := by
  obtain ⟨hc, e⟩ := List.getElem?_eq_some_iff.mp h
  unfold pick
  rw [List.findIdx?_eq_some_iff_getElem.mpr ⟨hc, by simp [e], fun j hj => ?_⟩]
  · rfl
  · intro q
    have z : fs[j]? = some f := by rw [List.getElem?_eq_getElem (by omega), eq_of_beq q]
    have := nd_ix nd z h
    omega
theorem and_guard {b1 b2 : Bool} {X Y S : Prop} (mk : (if b2 = true then X else Y) → S) (hX : b1 = true → b2 = true → X) (hY : (b1 && b2) = false → Y) : if b1 = true then S else (if false = true then X else Y) := by
  cases b1 with
  | true =>
    refine if_t rfl (mk ?_)
    cases b2 with
    | true => exact if_t rfl (hX rfl rfl)
    | false => exact if_f rfl (hY rfl)
  | false => exact if_f rfl (if_f rfl (hY rfl))
def spAnswer (K : PySem.W.Frag) (C : Addr) : Sp := fun vs H Q _ => ∃ (bx lw nl : Addr) (r c : Nat) (ws ms : List Nat),
  vs = [.ref bx, .int (c : Int), .ref nl] ∧ BoxAt C H bx lw r ws ∧ Good r ws ∧ SqL K H nl (iv ms) ∧ c ≤ 12 ∧ ms.length = arity c ∧ ∀ (p : Addr) (H' : Hp), Out C H bx lw r ws c ms p H' → Q (.ref p) H'
theorem scAnswer : FnScope ["box", "call", "numbers", "kinds", "answering"] ["box", "call", "numbers"] (defScope sAnswer) := ⟨rfl, rfl, rfl, by decide +kernel, rfl, by decide +kernel, by decide +kernel⟩
/-- what is done over a heap that has grown is done over the heap before -/
theorem Out.grown {H H1 : Hp} {bx lw : Addr} {r c : Nat} {ws ms : List Nat} {p : Addr} {H' : Hp} (s : Same H H1) (o : Out C H1 bx lw r ws c ms p H') : Out C H bx lw r ws c ms p H' := by
  obtain ⟨lw', r', ws', out, h1, h2, h3, h4, h5⟩ := o.ex
  exact ⟨s.free o.new, ⟨lw', r', ws', out, h1, h2, h3, h4.imp id s.free, h5⟩, fun b u e => o.kept b u (s b u e)⟩
theorem ok_answer {f fW fT aK aC : Addr} {fd dW dT : FuncData} {kts fs : List Addr} (F : Fun K "answer" "answer" sAnswer f fd) (T : Txt K mg C) (B : Tabs P w K mg base C aK aC kts fs)
    (GW : FnOk P w K mg base CX0 1 fW dW ["box", "kinds", "numbers"] (spMiss K C ansW)) (kW : PySem.W.keepIn K (.ref fW) = true) (bW : Binds K dW ["box", "kinds", "numbers"] []) (mW : mg "names_missing_wheel" = some (.ref fW))
    (GT : FnOk P w K mg base CX0 1 fT dT ["box", "kinds", "numbers"] (spMiss K C ansT)) (kT : PySem.W.keepIn K (.ref fT) = true) (bT : Binds K dT ["box", "kinds", "numbers"] []) (mT : mg "names_missing_tooth" = some (.ref fT)) :
    FnOk P w K mg base CX0 5 f fd ["box", "call", "numbers"] (spAnswer K C) := by
  refine F.ok scAnswer (fun vs H Q E h => ?_) (fun cdv A outer s H vs Q E hr h => ?_)
  · obtain ⟨_, _, _, _, _, _, _, rfl, _⟩ := h
    rfl
  obtain ⟨bx, lw, nl, r, c, ws, ms, rfl, Bx, G, hn, hc, hl, k⟩ := h
  obtain ⟨dx, hb⟩ := Bx.ex
  have hr1 : Room 1 _ := hr.mono (by decide)
  refine ⟨_, pss_cons (ps_if (PW.pt (pw_and (pt_cmpR op_ne (pv 1) (pe_gi rfl T.z0) (nomark _)) (pw_and1 (pt_cmpR op_eq (pe_fld (pv 0) rfl) pe_int (nomark _)))))
      (pss_one (ps_ret (pe_lst (pa_cons (pe_gi rfl T.m9) pa_nil)))) pss_nil)
    (pss_cons (ps_set (i := 3) scAnswer.nd rfl (Or.inl rfl) (pe_ix ix_tup (pe_glob (v := .ref aK) rfl B.gK rfl) (pv 1) (fun _ _ => rfl)))
    (pss_cons (ps_if (pt_val (pe_call GW hr1 rfl mW kW bW .nil pass0 (pa_cons (pv 0) (pa_cons (pv 3) (pa_cons (pv 2) pa_nil)))))
      (pss_one (ps_ret (pe_lst (pa_cons (pe_gi rfl T.m2) pa_nil)))) pss_nil)
    (pss_cons (ps_if (pt_val (pe_call GT hr1 rfl mT kT bT .nil pass0 (pa_cons (pv 0) (pa_cons (pv 3) (pa_cons (pv 2) pa_nil)))))
      (pss_one (ps_ret (pe_lst (pa_cons (pe_gi rfl T.m1) pa_nil)))) pss_nil)
    (pss_cons (ps_set (i := 4) scAnswer.nd rfl (Or.inl rfl) (pe_ix ix_tup (pe_glob (v := .ref aC) rfl B.gC rfl) (pv 1) (fun _ _ => rfl)))
    (pss_one (ps_ret (pe_callA (i := 4) (S := pick K C fs) (fun g sp hg => let ⟨j, e, es⟩ := pick_of hg; es ▸ B.hE j g e) hr rfl (Or.inl rfl) (pa_cons (pv 0) (pa_cons (pv 2) pa_nil))))))))), ?_⟩
  refine ⟨_, rfl, rfl, _, rfl, and_guard (b2 := decide (V.int (r : Int) = V.int 0)) (fun q => ⟨_, rfl, bx, C, dx, _, _, rfl, hb, T.cl, T.nT, bF_teeth r lw, rfl, _, rfl, q⟩) (fun h1 h2 => ?_) (fun h1 => ?_)⟩
  · have c0 : c ≠ 0 := fun e => by
      subst e
      simp at h1
    have r0 : r = 0 := by
      have := of_decide_eq_true h2
      injection this
      omega
    subst r0
    have w0 := G.none_ rfl
    subst w0
    exact ⟨by show 1 ≤ sizeLine; decide, fun p hp => k p _ (Out.plain (out := [-9]) Bx G (Same.new hp) hp upd_same (due_none c0 hc hl))⟩
  have cr : c = 0 ∨ 0 < r := by
    by_cases c0 : c = 0
    · exact .inl c0
    · refine .inr ?_
      have e1 : ¬ V.int (c : Int) = V.int 0 := fun q => c0 (by injection q; omega)
      by_cases r0 : r = 0
      · subst r0
        simp [e1] at h1
      · omega
  obtain ⟨kt, hkt⟩ : ∃ kt, kts[c]? = some kt := ⟨_, List.getElem?_eq_getElem (by rw [B.kl]; omega)⟩
  obtain ⟨g, hg⟩ : ∃ g, fs[c]? = some g := ⟨_, List.getElem?_eq_getElem (by rw [B.fl]; omega)⟩
  have kl : (kinds c).length = ms.length := by rw [kinds_len hc, hl]
  refine ⟨_, rfl, aK, _, _, _, rfl, rfl, B.kT _, atI_nat (j := c) (v := V.ref kt) (by rw [List.getElem?_map, hkt]; rfl), ?_⟩
  refine ⟨_, rfl, _, rfl, _, rfl, bx, lw, kt, nl, r, ws, kinds c, ms, rfl, Bx, B.kE c kt hkt H, hn, kl, fun H1 s1 => ⟨_, rfl, ?_⟩⟩
  cases mw : ansW r ws (kinds c) ms with
  | true =>
    have mw : missW ws.length (kinds c) ms = true := mw
    have r1 : 0 < r := by
      rcases cr with rfl | h
      · match ms, hl, mw with
        | [m], _, mw => simp [missW, kinds] at mw
      · exact h
    exact if_t rfl ⟨by show 1 ≤ sizeLine; decide, fun p hp => k p _ (Out.plain (out := [-2]) Bx G (s1.trans (Same.new hp)) (s1.free hp) upd_same (refuse_wheel r1 hc hl mw))⟩
  | false =>
  have mw : missW ws.length (kinds c) ms = false := mw
  refine if_f rfl ?_
  have Bx1 := Bx.same s1
  refine ⟨_, rfl, _, rfl, _, rfl, bx, lw, kt, nl, r, ws, kinds c, ms, rfl, Bx1, B.kE c kt hkt H1, s1.seq hn, kl, fun H2 s2 => ⟨_, rfl, ?_⟩⟩
  have s12 := s1.trans s2
  cases mt : ansT r ws (kinds c) ms with
  | true =>
    have mt : missT r (kinds c) ms = true := mt
    have r1 : 0 < r := by
      rcases cr with rfl | h
      · match ms, hl, mt with
        | [m], _, mt => simp [missT, kinds] at mt
      · exact h
    exact if_t rfl ⟨by show 1 ≤ sizeLine; decide, fun p hp => k p _ (Out.plain (out := [-1]) Bx G (s12.trans (Same.new hp)) (s12.free hp) upd_same (refuse_tooth r1 hc hl mw mt))⟩
  | false =>
  have mt : missT r (kinds c) ms = false := mt
  refine if_f rfl ?_
  refine ⟨_, rfl, aC, _, _, _, rfl, rfl, B.cT _, atI_nat (j := c) (v := V.ref g) (by rw [List.getElem?_map, hg]; rfl), ?_⟩
  exact ⟨g, _, rfl, pick_at B.nd hg, _, rfl, _, rfl, bx, lw, nl, r, ws, ms, rfl, Bx.same s12, G, s12.seq hn, fits cr hc hl mw mt, fun p H' o => k p H' (o.grown s12)⟩
end
end Wd
/-! answers. -/
namespace Wd
open PySem PySem.Spec PyProof.Rows L2
theorem cut_is {l : List Int} {n m : Nat} {ms : List Nat} (h : n + m ≤ l.length) (e : (l.drop n).take m = ofs ms) : cutV (l.map V.int) (some ((n : Nat) : Int)) (some ((n + m : Nat) : Int)) = iv ms := by
  unfold cutV
  rw [HT.sIx_nat, HT.sIx_nat, List.length_map, Nat.min_eq_left h, Nat.min_eq_left (show n ≤ l.length by omega), Nat.add_sub_cancel_left, ← List.map_drop, ← List.map_take, e, iv_ofs]
section
variable {P : Program} {w : World} {K : PySem.W.Frag} {mg : Str → Option Value} {base : Heap} {C : Addr}
def spAns (K : PySem.W.Frag) : Sp := fun vs H Q _ => ∃ (a : Addr) (l : List Int), vs = [.ref a] ∧ SqL K H a (l.map V.int) ∧ PyMu53.answers_asked l = true ∧
  ∀ (H' : Hp) (p : Addr), H' p = some (.lst ((PyMu53.answers l).map V.int)) → Q (.ref p) H'
theorem scAnswers : FnScope ["calls", "box", "given", "place", "call", "end", "told"] ["calls"] (defScope sAnswers) := ⟨rfl, rfl, rfl, by decide +kernel, rfl, by decide +kernel, by decide +kernel⟩
def placeOf : L2.St → Nat
  | [_, _, _, some (.int y), _, _, _] => y.toNat
  | _ => 0
theorem ok_answers {f fI fA aK aC : Addr} {fd dI dA : FuncData} {kts fs : List Addr} (F : Fun K "answers" "answers" sAnswers f fd) (T : Txt K mg C) (B : Tabs P w K mg base C aK aC kts fs)
    (M : Mk K C fI) (GI : FnOk P w K mg base CX0 1 fI dI ["self"] (spInit C)) (bI : Binds K dI ["self"] [])
    (GA : FnOk P w K mg base CX0 5 fA dA ["box", "call", "numbers"] (spAnswer K C)) (kA : PySem.W.keepIn K (.ref fA) = true) (bA : Binds K dA ["box", "call", "numbers"] []) (mA : mg "answer" = some (.ref fA)) :
    FnOk P w K mg base CX0 6 f fd ["calls"] (spAns K) := by
  refine F.ok scAnswers (fun vs H Q E h => ?_) (fun cdv A outer s H vs Q E hr h => ?_)
  · obtain ⟨_, _, rfl, _⟩ := h
    rfl
  obtain ⟨a, l, rfl, ha, hask, k⟩ := h
  have hr2 : Room 2 _ := hr.mono (by decide)
  refine ⟨_, pss_cons (ps_set (i := 1) scAnswers.nd rfl (Or.inl rfl) (pe_make0 M GI hr2 rfl T.gB bI .nil pass0))
    (pss_cons (ps_set (i := 2) scAnswers.nd rfl (Or.inl rfl) (pe_lst pa_nil))
    (pss_cons (ps_set (i := 3) scAnswers.nd rfl (Or.inl rfl) pe_int)
    (pss_cons (ps_while PassesOwn.never (pt_cmpR op_lt (pv 3) (pe_callB call_len_seq (by rfl) T.len PySem.boot_len (pa_cons (pv 0) pa_nil)) (nomark _))
      (pss_cons (ps_set (i := 4) scAnswers.nd rfl (Or.inl rfl) (pe_ix ix_list (pv 0) (pv 3) (fun _ _ => rfl)))
      (pss_cons (ps_set (i := 5) scAnswers.nd rfl (Or.inl rfl) (pe_op op_add (pe_op op_add (pv 3) pe_int) (pe_callB call_len_seq (by rfl) T.len PySem.boot_len (pa_cons (pe_ix ix_tup (pe_glob (v := .ref aK) rfl B.gK rfl) (pv 4) (fun _ _ => rfl)) pa_nil))))
      (pss_cons (ps_set (i := 6) scAnswers.nd rfl (Or.inl rfl) (pe_call GA hr rfl mA kA bA .nil pass0 (pa_cons (pv 1) (pa_cons (pv 4) (pa_cons (pe_slice sl_list (pv 0) (po_some (pe_op op_add (pv 3) pe_int)) (po_some (pv 5))) pa_nil)))))
      (pss_cons (ps_expr (pe_bm PySem.F.plainAttrs_list PySem.F.slot_list_append PySem.F.type_list_append mt_append (pv 2) (pa_cons (pe_callB call_len_seq (by rfl) T.len PySem.boot_len (pa_cons (pv 6) pa_nil)) pa_nil)))
      (pss_cons (ps_expr (pe_bm PySem.F.plainAttrs_list PySem.F.slot_list_extend PySem.F.type_list_extend mt_extend (pv 2) (pa_cons (pv 6) pa_nil)))
      (pss_one (ps_set (i := 3) scAnswers.nd rfl (Or.inl rfl) (pv 5)))))))))
    (pss_one (ps_ret (pv 2)))))), ?_⟩
  obtain ⟨R0, short⟩ := Rest.start hask
  intro bx dx nbx ndx ne
  refine ⟨bx, dx, rfl, upd_same, fun H1 lw B1 nlw kp => ⟨rfl, ?_⟩⟩
  have s1 : Same H H1 := Same.made nbx ndx kp
  have nlw : H lw = none := by
    by_cases e1 : lw = bx
    · rw [e1]
      exact nbx
    · by_cases e2 : lw = dx
      · rw [e2]
        exact ndx
      · rw [upd_ne e1, upd_ne e2] at nlw
        exact nlw
  refine ⟨Nat.zero_le _, fun gv ngv => ?_⟩
  have s2 : Same H (upd H1 gv (.lst [])) := s1.trans (Same.new ngv)
  refine while_by (fun σ H' => ∃ (n : Nat) (given : List Int) (lw : Addr) (r : Nat) (ws : List Nat) (x y z : Option V), σ = [some (.ref a), some (.ref bx), some (.ref gv), some (.int (n : Int)), x, y, z] ∧
      Same H H' ∧ BoxAt C H' bx lw r ws ∧ Good r ws ∧ H lw = none ∧ H' gv = some (.lst (given.map V.int)) ∧ gv ≠ lw ∧ Rest l n given r ws) (fun σ _ => l.length - placeOf σ)
    ⟨0, [], lw, 0, [], none, none, none, rfl, s2, B1.same (Same.new ngv), Good.start, nlw, upd_same, (ne_of_none B1.lst ngv).symm, R0⟩ ?_ ?_
  · rintro σ H2 ⟨n, given, lw2, r, ws, x, y, z, rfl, sH, B2, G2, nl2, hg, glw, R⟩
    refine ⟨_, rfl, _, rfl, a, _, rfl, .inl (sH.seq ha), _, _, rfl, rfl, _, rfl, ?_⟩
    rw [List.length_map]
    by_cases hn : ¬ n < l.length
    · refine if_f (by simpa using (by omega : (l.length : Int) ≤ n)) ?_
      refine ⟨_, rfl, k H2 gv ?_⟩
      rw [R.done hn]
      exact hg
    have hn : n < l.length := Classical.not_not.mp hn
    refine if_t (by simpa using (by omega : (n : Int) < l.length)) ?_
    obtain ⟨c, ms, h1, h2, h3, h4, h5, next⟩ := R.next hn
    obtain ⟨kt, hkt⟩ : ∃ kt, kts[c]? = some kt := ⟨_, List.getElem?_eq_getElem (by rw [B.kl]; omega)⟩
    refine ⟨_, rfl, _, rfl, a, _, _, _, rfl, rfl, sH.seq ha, atI_nat (j := n) (v := V.int (c : Int)) (by rw [List.getElem?_map, h1]; rfl), ?_⟩
    refine ⟨_, rfl, _, _, rfl, rfl, _, rfl, aK, _, _, _, rfl, rfl, B.kT _, atI_nat (j := c) (v := V.ref kt) (by rw [List.getElem?_map, hkt]; rfl), kt, _, rfl, .inr (B.kE c kt hkt _), _, _, rfl, rfl, ?_⟩
    have e5 : (n : Int) + 1 + ((kv (kinds c)).length : Int) = ((n + 1 + arity c : Nat) : Int) := by
      rw [kv_len, kinds_len h2]
      omega
    have e3 : (n : Int) + 1 = ((n + 1 : Nat) : Int) := by omega
    have e6 : cutV (l.map V.int) (some ((n : Int) + 1)) (some ((n : Int) + 1 + ((kv (kinds c)).length : Int))) = iv ms := by
      rw [e5, e3]
      exact cut_is h4 h5
    refine ⟨_, rfl, _, rfl, _, rfl, _, rfl, _, _, rfl, rfl, _, rfl, _, rfl, _, rfl, a, _, rfl, sH.seq ha, fun q nq => ?_⟩
    rw [e6]
    have s3 : Same H2 (upd H2 q (.lst (iv ms))) := Same.new nq
    refine ⟨bx, lw2, q, r, c, ws, ms, rfl, B2.same s3, G2, SqL.of upd_same, h2, h3, fun p H4 O => ?_⟩
    obtain ⟨lw', r', ws', out, hd, G', B', hlw, hp⟩ := O.ex
    obtain ⟨d2, hb2⟩ := B2.ex
    have gbx : gv ≠ bx := ne_of hg hb2 (by intro z; cases z)
    have hg4 : H4 gv = some (.lst (given.map V.int)) := O.kept gv _ (s3 _ _ hg) gbx glw
    have gp : gv ≠ p := ne_of_none (s3 _ _ hg) O.new
    have R' := next r' ws' out hd
    have sz := R'.short
    rw [List.length_append, List.length_cons] at sz
    have line : (10000000 : Nat) < sizeLine := by decide
    refine ⟨_, rfl, .inl ⟨rfl, _, SqL.of hg4⟩, _, rfl, p, _, rfl, .inl (SqL.of hp), gv, _, _, rfl, rfl, hg4, (by rw [List.length_map]; omega), ?_⟩
    refine ⟨_, rfl, .inl ⟨rfl, _, SqL.of upd_same⟩, _, rfl, gv, p, _, _, rfl, rfl, upd_same, (upd_ne gp.symm).trans hp, (by rw [List.length_append, List.length_map, List.length_map]; simp; omega), ?_⟩
    have glw' : gv ≠ lw' := by
      rcases hlw with z | z
      · rw [z]
        exact glw
      · exact ne_of_none (s3 _ _ hg) z
    have nl' : H lw' = none := by
      rcases hlw with z | z
      · rw [z]
        exact nl2
      · exact (sH.trans s3).free z
    refine ⟨_, rfl, ⟨n + 1 + arity c, given ++ ((out.length : Int) :: out), lw', r', ws', _, _, _, by rw [← e5]; rfl, fun b o e => ?_, ⟨let ⟨d3, h3⟩ := B'.ex; ⟨d3, ?_⟩, ?_⟩, G', nl', ?_, glw', R'⟩, ?_⟩
    · have e1 := s3 _ _ (sH b o e)
      rw [upd_ne (ne_of_none e (s1.free ngv)), upd_ne (ne_of_none e (s1.free ngv))]
      exact O.kept b o e1 (ne_of_none e nbx) (ne_of_none e nl2)
    · rw [upd_ne gbx.symm, upd_ne gbx.symm]
      exact h3
    · rw [upd_ne glw'.symm, upd_ne glw'.symm]
      exact B'.lst
    · rw [upd_same, List.map_append, List.append_assoc, List.length_map]
      rfl
    · show l.length - ((n : Int) + 1 + ((kv (kinds c)).length : Int)).toNat < l.length - ((n : Int)).toNat
      rw [e5]
      omega
  · rintro σ H' Q1 Q2 h ⟨v, e, v2, e2, p, ys, ep, hs, i, j, ei, ej, b, eb, q⟩
    exact ⟨v, e, v2, e2, p, ys, ep, hs, i, j, ei, ej, b, eb, h _ _ q⟩
end
end Wd
/-! The end: what the top has written. -/
namespace Wd
open PySem PySem.Spec PyProof.Rows L2
open PySem.W (Codec)
theorem tup_K {K : PySem.W.Frag} {a : Addr} {d : Option Addr} {its : Array Value} {n : Nat} {s : Array (Option Value)} {xs : List V} (h : K.lookup a = some ⟨.type "tuple", d, .seq its n, s⟩) (z : its.size ≤ 100) (r : Vals xs its.toList) (H : Hp) : SqT K H a xs :=
  .inr ⟨_, its, n, h, rfl, rfl, Nat.le_trans z (by decide), r⟩
theorem all_mk {P : Program} {w : World} {K : PySem.W.Frag} {h : Heap} {mg : Str → Option Value} {fa : Addr}
    {fGcd fPar fBeg fWhe fFig fPoi fWhn fCro fMak fCom fCmn fSam fCov fPla fPit fTns fTrn fLoo fMW fMT fAns fAll fIni C aK aC k0 k1 k2 k3 k4 k5 k6 k7 k8 k9 k10 k11 k12 : Addr}
    {odGcd anGcd odPar anPar odBeg anBeg odWhe anWhe odFig anFig odPoi anPoi odWhn anWhn odCro anCro odMak anMak odCom anCom odCmn anCmn odSam anSam odCov anCov odPla anPla odPit anPit odTns anTns odTrn anTrn odLoo anLoo odMW anMW odMT anMT odAns anAns odAll anAll odIni anIni : Option Addr} {slGcd slPar slBeg slWhe slFig slPoi slWhn slCro slMak slCom slCmn slSam slCov slPla slPit slTns slTrn slLoo slMW slMT slAns slAll slIni : Array (Option Value)}
    {ocGcd kVGcd dcGcd pmGcd cdGcd ctGcd ocPar kVPar dcPar pmPar cdPar ctPar ocBeg kVBeg dcBeg pmBeg cdBeg ctBeg ocWhe kVWhe dcWhe pmWhe cdWhe ctWhe ocFig kVFig dcFig pmFig cdFig ctFig ocPoi kVPoi dcPoi pmPoi cdPoi ctPoi ocWhn kVWhn dcWhn pmWhn cdWhn ctWhn ocCro kVCro dcCro pmCro cdCro ctCro ocMak kVMak dcMak pmMak cdMak ctMak ocCom kVCom dcCom pmCom cdCom ctCom ocCmn kVCmn dcCmn pmCmn cdCmn ctCmn ocSam kVSam dcSam pmSam cdSam ctSam ocCov kVCov dcCov pmCov cdCov ctCov ocPla kVPla dcPla pmPla cdPla ctPla ocPit kVPit dcPit pmPit cdPit ctPit ocTns kVTns dcTns pmTns cdTns ctTns ocTrn kVTrn dcTrn pmTrn cdTrn ctTrn ocLoo kVLoo dcLoo pmLoo cdLoo ctLoo ocMW kVMW dcMW pmMW cdMW ctMW ocMT kVMT dcMT pmMT cdMT ctMT ocAns kVAns dcAns pmAns cdAns ctAns ocAll kVAll dcAll pmAll cdAll ctAll ocIni kVIni dcIni pmIni cdIni ctIni : Value}
    {tfew tmost tsix tlate tm1 tm2 tm5 tm6 tm9 tz0 : Tok}
    {dK dC d0 d1 d2 d3 d4 d5 d6 d7 d8 d9 d10 d11 d12 : Option Addr} {nK nC n0 n1 n2 n3 n4 n5 n6 n7 n8 n9 n10 n11 n12 : Nat} {sK sC s0 s1 s2 s3 s4 s5 s6 s7 s8 s9 s10 s11 s12 : Array (Option Value)}
    {u0_0 u1_0 u2_0 u3_0 u3_1 u3_2 u4_0 u4_1 u4_2 u5_0 u6_0 u7_0 u7_1 u7_2 u7_3 u8_0 u8_1 u8_2 u8_3 u9_0 u10_0 u10_1 u11_0 u11_1 u11_2 u11_3 : Tok}
    (X : K.In h) (G : h.Ns mainGlobals mg) (hfa : mg "answers" = some (.ref fa))
    (aB : PySem.W.nsIn K mainGlobals "Box" = some (some (.ref C)))
    (aIni : PySem.W.findIn K (.ref C) "__init__" = some (some (.ref fIni)))
    (iIni : PySem.W.isFn K (.ref fIni) = true)
    (lIni : K.lookup fIni = some ⟨ocIni, odIni, .func (PySem.W.fnOf "__init__" "Box.__init__" (defArgs sInit) (defBody sInit) (defScope sInit) .none kVIni dcIni pmIni anIni cdIni ctIni), slIni⟩)
    (cIni : PySem.W.codeIn K cdIni "Box.__init__" = true)
    (kIni : PySem.W.keepIn K (.ref fIni) = true)
    (aGcd : PySem.W.nsIn K mainGlobals "common_divisor" = some (some (.ref fGcd)))
    (lGcd : K.lookup fGcd = some ⟨ocGcd, odGcd, .func (PySem.W.fnOf "common_divisor" "common_divisor" (defArgs sGcd) (defBody sGcd) (defScope sGcd) .none kVGcd dcGcd pmGcd anGcd cdGcd ctGcd), slGcd⟩)
    (cGcd : PySem.W.codeIn K cdGcd "common_divisor" = true)
    (kGcd : PySem.W.keepIn K (.ref fGcd) = true)
    (aPar : PySem.W.nsIn K mainGlobals "points_and_rounds" = some (some (.ref fPar)))
    (lPar : K.lookup fPar = some ⟨ocPar, odPar, .func (PySem.W.fnOf "points_and_rounds" "points_and_rounds" (defArgs sPar) (defBody sPar) (defScope sPar) .none kVPar dcPar pmPar anPar cdPar ctPar), slPar⟩)
    (cPar : PySem.W.codeIn K cdPar "points_and_rounds" = true)
    (kPar : PySem.W.keepIn K (.ref fPar) = true)
    (aBeg : PySem.W.nsIn K mainGlobals "begin" = some (some (.ref fBeg)))
    (lBeg : K.lookup fBeg = some ⟨ocBeg, odBeg, .func (PySem.W.fnOf "begin" "begin" (defArgs sBegin) (defBody sBegin) (defScope sBegin) .none kVBeg dcBeg pmBeg anBeg cdBeg ctBeg), slBeg⟩)
    (cBeg : PySem.W.codeIn K cdBeg "begin" = true)
    (kBeg : PySem.W.keepIn K (.ref fBeg) = true)
    (aWhe : PySem.W.nsIn K mainGlobals "wheel" = some (some (.ref fWhe)))
    (lWhe : K.lookup fWhe = some ⟨ocWhe, odWhe, .func (PySem.W.fnOf "wheel" "wheel" (defArgs sWheel) (defBody sWheel) (defScope sWheel) .none kVWhe dcWhe pmWhe anWhe cdWhe ctWhe), slWhe⟩)
    (cWhe : PySem.W.codeIn K cdWhe "wheel" = true)
    (kWhe : PySem.W.keepIn K (.ref fWhe) = true)
    (aFig : PySem.W.nsIn K mainGlobals "figure" = some (some (.ref fFig)))
    (lFig : K.lookup fFig = some ⟨ocFig, odFig, .func (PySem.W.fnOf "figure" "figure" (defArgs sFigure) (defBody sFigure) (defScope sFigure) .none kVFig dcFig pmFig anFig cdFig ctFig), slFig⟩)
    (cFig : PySem.W.codeIn K cdFig "figure" = true)
    (kFig : PySem.W.keepIn K (.ref fFig) = true)
    (aPoi : PySem.W.nsIn K mainGlobals "point" = some (some (.ref fPoi)))
    (lPoi : K.lookup fPoi = some ⟨ocPoi, odPoi, .func (PySem.W.fnOf "point" "point" (defArgs sPoint) (defBody sPoint) (defScope sPoint) .none kVPoi dcPoi pmPoi anPoi cdPoi ctPoi), slPoi⟩)
    (cPoi : PySem.W.codeIn K cdPoi "point" = true)
    (kPoi : PySem.W.keepIn K (.ref fPoi) = true)
    (aWhn : PySem.W.nsIn K mainGlobals "when" = some (some (.ref fWhn)))
    (lWhn : K.lookup fWhn = some ⟨ocWhn, odWhn, .func (PySem.W.fnOf "when" "when" (defArgs sWhen) (defBody sWhen) (defScope sWhen) .none kVWhn dcWhn pmWhn anWhn cdWhn ctWhn), slWhn⟩)
    (cWhn : PySem.W.codeIn K cdWhn "when" = true)
    (kWhn : PySem.W.keepIn K (.ref fWhn) = true)
    (aCro : PySem.W.nsIn K mainGlobals "crossings" = some (some (.ref fCro)))
    (lCro : K.lookup fCro = some ⟨ocCro, odCro, .func (PySem.W.fnOf "crossings" "crossings" (defArgs sCross) (defBody sCross) (defScope sCross) .none kVCro dcCro pmCro anCro cdCro ctCro), slCro⟩)
    (cCro : PySem.W.codeIn K cdCro "crossings" = true)
    (kCro : PySem.W.keepIn K (.ref fCro) = true)
    (aMak : PySem.W.nsIn K mainGlobals "make" = some (some (.ref fMak)))
    (lMak : K.lookup fMak = some ⟨ocMak, odMak, .func (PySem.W.fnOf "make" "make" (defArgs sMake) (defBody sMake) (defScope sMake) .none kVMak dcMak pmMak anMak cdMak ctMak), slMak⟩)
    (cMak : PySem.W.codeIn K cdMak "make" = true)
    (kMak : PySem.W.keepIn K (.ref fMak) = true)
    (aCom : PySem.W.nsIn K mainGlobals "comes_to" = some (some (.ref fCom)))
    (lCom : K.lookup fCom = some ⟨ocCom, odCom, .func (PySem.W.fnOf "comes_to" "comes_to" (defArgs sComes) (defBody sComes) (defScope sComes) .none kVCom dcCom pmCom anCom cdCom ctCom), slCom⟩)
    (cCom : PySem.W.codeIn K cdCom "comes_to" = true)
    (kCom : PySem.W.keepIn K (.ref fCom) = true)
    (aCmn : PySem.W.nsIn K mainGlobals "common" = some (some (.ref fCmn)))
    (lCmn : K.lookup fCmn = some ⟨ocCmn, odCmn, .func (PySem.W.fnOf "common" "common" (defArgs sCommon) (defBody sCommon) (defScope sCommon) .none kVCmn dcCmn pmCmn anCmn cdCmn ctCmn), slCmn⟩)
    (cCmn : PySem.W.codeIn K cdCmn "common" = true)
    (kCmn : PySem.W.keepIn K (.ref fCmn) = true)
    (aSam : PySem.W.nsIn K mainGlobals "same" = some (some (.ref fSam)))
    (lSam : K.lookup fSam = some ⟨ocSam, odSam, .func (PySem.W.fnOf "same" "same" (defArgs sSame) (defBody sSame) (defScope sSame) .none kVSam dcSam pmSam anSam cdSam ctSam), slSam⟩)
    (cSam : PySem.W.codeIn K cdSam "same" = true)
    (kSam : PySem.W.keepIn K (.ref fSam) = true)
    (aCov : PySem.W.nsIn K mainGlobals "cover" = some (some (.ref fCov)))
    (lCov : K.lookup fCov = some ⟨ocCov, odCov, .func (PySem.W.fnOf "cover" "cover" (defArgs sCover) (defBody sCover) (defScope sCover) .none kVCov dcCov pmCov anCov cdCov ctCov), slCov⟩)
    (cCov : PySem.W.codeIn K cdCov "cover" = true)
    (kCov : PySem.W.keepIn K (.ref fCov) = true)
    (aPla : PySem.W.nsIn K mainGlobals "place_in_turn" = some (some (.ref fPla)))
    (lPla : K.lookup fPla = some ⟨ocPla, odPla, .func (PySem.W.fnOf "place_in_turn" "place_in_turn" (defArgs sPlace) (defBody sPlace) (defScope sPlace) .none kVPla dcPla pmPla anPla cdPla ctPla), slPla⟩)
    (cPla : PySem.W.codeIn K cdPla "place_in_turn" = true)
    (kPla : PySem.W.keepIn K (.ref fPla) = true)
    (aPit : PySem.W.nsIn K mainGlobals "points_in_turn" = some (some (.ref fPit)))
    (lPit : K.lookup fPit = some ⟨ocPit, odPit, .func (PySem.W.fnOf "points_in_turn" "points_in_turn" (defArgs sPit) (defBody sPit) (defScope sPit) .none kVPit dcPit pmPit anPit cdPit ctPit), slPit⟩)
    (cPit : PySem.W.codeIn K cdPit "points_in_turn" = true)
    (kPit : PySem.W.keepIn K (.ref fPit) = true)
    (aTns : PySem.W.nsIn K mainGlobals "turns" = some (some (.ref fTns)))
    (lTns : K.lookup fTns = some ⟨ocTns, odTns, .func (PySem.W.fnOf "turns" "turns" (defArgs sTurns) (defBody sTurns) (defScope sTurns) .none kVTns dcTns pmTns anTns cdTns ctTns), slTns⟩)
    (cTns : PySem.W.codeIn K cdTns "turns" = true)
    (kTns : PySem.W.keepIn K (.ref fTns) = true)
    (aTrn : PySem.W.nsIn K mainGlobals "turn" = some (some (.ref fTrn)))
    (lTrn : K.lookup fTrn = some ⟨ocTrn, odTrn, .func (PySem.W.fnOf "turn" "turn" (defArgs sTurn) (defBody sTurn) (defScope sTurn) .none kVTrn dcTrn pmTrn anTrn cdTrn ctTrn), slTrn⟩)
    (cTrn : PySem.W.codeIn K cdTrn "turn" = true)
    (kTrn : PySem.W.keepIn K (.ref fTrn) = true)
    (aLoo : PySem.W.nsIn K mainGlobals "look" = some (some (.ref fLoo)))
    (lLoo : K.lookup fLoo = some ⟨ocLoo, odLoo, .func (PySem.W.fnOf "look" "look" (defArgs sLook) (defBody sLook) (defScope sLook) .none kVLoo dcLoo pmLoo anLoo cdLoo ctLoo), slLoo⟩)
    (cLoo : PySem.W.codeIn K cdLoo "look" = true)
    (kLoo : PySem.W.keepIn K (.ref fLoo) = true)
    (aMW : PySem.W.nsIn K mainGlobals "names_missing_wheel" = some (some (.ref fMW)))
    (lMW : K.lookup fMW = some ⟨ocMW, odMW, .func (PySem.W.fnOf "names_missing_wheel" "names_missing_wheel" (defArgs sMissW) (defBody sMissW) (defScope sMissW) .none kVMW dcMW pmMW anMW cdMW ctMW), slMW⟩)
    (cMW : PySem.W.codeIn K cdMW "names_missing_wheel" = true)
    (kMW : PySem.W.keepIn K (.ref fMW) = true)
    (aMT : PySem.W.nsIn K mainGlobals "names_missing_tooth" = some (some (.ref fMT)))
    (lMT : K.lookup fMT = some ⟨ocMT, odMT, .func (PySem.W.fnOf "names_missing_tooth" "names_missing_tooth" (defArgs sMissT) (defBody sMissT) (defScope sMissT) .none kVMT dcMT pmMT anMT cdMT ctMT), slMT⟩)
    (cMT : PySem.W.codeIn K cdMT "names_missing_tooth" = true)
    (kMT : PySem.W.keepIn K (.ref fMT) = true)
    (aAns : PySem.W.nsIn K mainGlobals "answer" = some (some (.ref fAns)))
    (lAns : K.lookup fAns = some ⟨ocAns, odAns, .func (PySem.W.fnOf "answer" "answer" (defArgs sAnswer) (defBody sAnswer) (defScope sAnswer) .none kVAns dcAns pmAns anAns cdAns ctAns), slAns⟩)
    (cAns : PySem.W.codeIn K cdAns "answer" = true)
    (kAns : PySem.W.keepIn K (.ref fAns) = true)
    (aAll : PySem.W.nsIn K mainGlobals "answers" = some (some (.ref fAll)))
    (lAll : K.lookup fAll = some ⟨ocAll, odAll, .func (PySem.W.fnOf "answers" "answers" (defArgs sAnswers) (defBody sAnswers) (defScope sAnswers) .none kVAll dcAll pmAll anAll cdAll ctAll), slAll⟩)
    (cAll : PySem.W.codeIn K cdAll "answers" = true)
    (kAll : PySem.W.keepIn K (.ref fAll) = true)
    (pg : PySem.W.plainGet K C Str.empty = true)
    (hd : PySem.W.hasDictIn K C = true)
    (po : PySem.W.plainOver K C = true)
    (sa : PySem.W.findIn K (.ref C) "__setattr__" = some (some (.builtin "object.__setattr__")))
    (mk : PySem.W.makesIn K C = true)
    (kc : PySem.W.keepIn K (.ref C) = true)
    (nT : PySem.W.findIn K (.ref C) "teeth" = some none)
    (nW : PySem.W.findIn K (.ref C) "wheels" = some none)
    (gfew : PySem.W.nsIn K mainGlobals "FEWEST_TEETH" = some (some (.int (3) tfew)))
    (gmost : PySem.W.nsIn K mainGlobals "MOST_TEETH" = some (some (.int (60) tmost)))
    (gsix : PySem.W.nsIn K mainGlobals "MOST_WHEELS" = some (some (.int (6) tsix)))
    (glate : PySem.W.nsIn K mainGlobals "LAST_POINT" = some (some (.int (100000) tlate)))
    (gm1 : PySem.W.nsIn K mainGlobals "OUT_OF_RANGE" = some (some (.int (-1) tm1)))
    (gm2 : PySem.W.nsIn K mainGlobals "NO_WHEEL" = some (some (.int (-2) tm2)))
    (gm5 : PySem.W.nsIn K mainGlobals "BOX_FULL" = some (some (.int (-5) tm5)))
    (gm6 : PySem.W.nsIn K mainGlobals "NEVER" = some (some (.int (-6) tm6)))
    (gm9 : PySem.W.nsIn K mainGlobals "NO_BOX" = some (some (.int (-9) tm9)))
    (gz0 : PySem.W.nsIn K mainGlobals "BEGIN" = some (some (.int (0) tz0)))
    (xlen : PySem.W.nsIn K mainGlobals "len" = some none)
    (xzip : PySem.W.nsIn K mainGlobals "zip" = some none)
    (xrange : PySem.W.nsIn K mainGlobals "range" = some none)
    (xmin : PySem.W.nsIn K mainGlobals "min" = some none)
    (xset : PySem.W.nsIn K mainGlobals "set" = some none)
    (aKi : PySem.W.nsIn K mainGlobals "KINDS" = some (some (.ref aK)))
    (lKi : K.lookup aK = some ⟨.type "tuple", dK, .seq #[.ref k0, .ref k1, .ref k2, .ref k3, .ref k4, .ref k5, .ref k6, .ref k7, .ref k8, .ref k9, .ref k10, .ref k11, .ref k12] nK, sK⟩)
    (aCa : PySem.W.nsIn K mainGlobals "CALLS" = some (some (.ref aC)))
    (lCa : K.lookup aC = some ⟨.type "tuple", dC, .seq #[.ref fBeg, .ref fWhe, .ref fFig, .ref fPoi, .ref fWhn, .ref fCro, .ref fMak, .ref fCmn, .ref fSam, .ref fCov, .ref fTns, .ref fTrn, .ref fLoo] nC, sC⟩)
    (l0 : K.lookup k0 = some ⟨.type "tuple", d0, .seq #[.str "teeth" u0_0] n0, s0⟩)
    (l1 : K.lookup k1 = some ⟨.type "tuple", d1, .seq #[.str "teeth" u1_0] n1, s1⟩)
    (l2 : K.lookup k2 = some ⟨.type "tuple", d2, .seq #[.str "wheel" u2_0] n2, s2⟩)
    (l3 : K.lookup k3 = some ⟨.type "tuple", d3, .seq #[.str "wheel" u3_0, .str "tooth" u3_1, .str "k" u3_2] n3, s3⟩)
    (l4 : K.lookup k4 = some ⟨.type "tuple", d4, .seq #[.str "wheel" u4_0, .str "tooth" u4_1, .str "tooth" u4_2] n4, s4⟩)
    (l5 : K.lookup k5 = some ⟨.type "tuple", d5, .seq #[.str "wheel" u5_0] n5, s5⟩)
    (l6 : K.lookup k6 = some ⟨.type "tuple", d6, .seq #[.str "points" u6_0] n6, s6⟩)
    (l7 : K.lookup k7 = some ⟨.type "tuple", d7, .seq #[.str "wheel" u7_0, .str "tooth" u7_1, .str "wheel" u7_2, .str "tooth" u7_3] n7, s7⟩)
    (l8 : K.lookup k8 = some ⟨.type "tuple", d8, .seq #[.str "wheel" u8_0, .str "tooth" u8_1, .str "wheel" u8_2, .str "tooth" u8_3] n8, s8⟩)
    (l9 : K.lookup k9 = some ⟨.type "tuple", d9, .seq #[.str "wheel" u9_0] n9, s9⟩)
    (l10 : K.lookup k10 = some ⟨.type "tuple", d10, .seq #[.str "wheel" u10_0, .str "wheel" u10_1] n10, s10⟩)
    (l11 : K.lookup k11 = some ⟨.type "tuple", d11, .seq #[.str "wheel" u11_0, .str "wheel" u11_1, .str "tooth" u11_2, .str "k" u11_3] n11, s11⟩)
    (l12 : K.lookup k12 = some ⟨.type "tuple", d12, .seq #[] n12, s12⟩)
    (nd : ([fBeg, fWhe, fFig, fPoi, fWhn, fCro, fMak, fCmn, fSam, fCov, fTns, fTrn, fLoo] : List Addr).Nodup)
    : ∃ fd : FuncData, (∀ (s : Shared) (us : List Value), us.length = (["calls"] : List Str).length → BindsTo s fd ⟨us, []⟩ ((["calls"] : List Str).zip us)) ∧ ∀ base : Heap, K.In base → base.Ns mainGlobals mg → FnOk P w K mg base CX0 6 fa fd ["calls"] (spAns K) := by
  have e := hfa.symm.trans (PySem.W.mg_of X G aAll)
  cases e
  have T : Txt K mg C := ⟨⟨pg, hd, po, sa⟩, nT, nW, PySem.W.mg_of X G aB, ⟨_, PySem.W.mg_of X G gfew⟩, ⟨_, PySem.W.mg_of X G gmost⟩, ⟨_, PySem.W.mg_of X G gsix⟩, ⟨_, PySem.W.mg_of X G glate⟩, ⟨_, PySem.W.mg_of X G gm1⟩, ⟨_, PySem.W.mg_of X G gm2⟩, ⟨_, PySem.W.mg_of X G gm5⟩, ⟨_, PySem.W.mg_of X G gm6⟩, ⟨_, PySem.W.mg_of X G gm9⟩, ⟨_, PySem.W.mg_of X G gz0⟩, PySem.W.mg_none_of X G xlen, PySem.W.mg_none_of X G xzip, PySem.W.mg_none_of X G xrange, PySem.W.mg_none_of X G xmin, PySem.W.mg_none_of X G xset⟩
  have FGcd := fun_mk (st := sGcd) lGcd cGcd kGcd
  have bGcd := FGcd.binds (ps := ["one", "other"]) fun _ _ _ _ _ _ us hl => match us, hl with | [_, _], _ => rfl
  have gGcd := PySem.W.mg_of X G aGcd
  have FPar := fun_mk (st := sPar) lPar cPar kPar
  have bPar := FPar.binds (ps := ["teeth", "step"]) fun _ _ _ _ _ _ us hl => match us, hl with | [_, _], _ => rfl
  have gPar := PySem.W.mg_of X G aPar
  have FBeg := fun_mk (st := sBegin) lBeg cBeg kBeg
  have bBeg := FBeg.binds (ps := ["box", "numbers"]) fun _ _ _ _ _ _ us hl => match us, hl with | [_, _], _ => rfl
  have gBeg := PySem.W.mg_of X G aBeg
  have FWhe := fun_mk (st := sWheel) lWhe cWhe kWhe
  have bWhe := FWhe.binds (ps := ["box", "numbers"]) fun _ _ _ _ _ _ us hl => match us, hl with | [_, _], _ => rfl
  have gWhe := PySem.W.mg_of X G aWhe
  have FFig := fun_mk (st := sFigure) lFig cFig kFig
  have bFig := FFig.binds (ps := ["box", "numbers"]) fun _ _ _ _ _ _ us hl => match us, hl with | [_, _], _ => rfl
  have gFig := PySem.W.mg_of X G aFig
  have FPoi := fun_mk (st := sPoint) lPoi cPoi kPoi
  have bPoi := FPoi.binds (ps := ["box", "numbers"]) fun _ _ _ _ _ _ us hl => match us, hl with | [_, _], _ => rfl
  have gPoi := PySem.W.mg_of X G aPoi
  have FWhn := fun_mk (st := sWhen) lWhn cWhn kWhn
  have bWhn := FWhn.binds (ps := ["box", "numbers"]) fun _ _ _ _ _ _ us hl => match us, hl with | [_, _], _ => rfl
  have gWhn := PySem.W.mg_of X G aWhn
  have FCro := fun_mk (st := sCross) lCro cCro kCro
  have bCro := FCro.binds (ps := ["box", "numbers"]) fun _ _ _ _ _ _ us hl => match us, hl with | [_, _], _ => rfl
  have gCro := PySem.W.mg_of X G aCro
  have FMak := fun_mk (st := sMake) lMak cMak kMak
  have bMak := FMak.binds (ps := ["box", "numbers"]) fun _ _ _ _ _ _ us hl => match us, hl with | [_, _], _ => rfl
  have gMak := PySem.W.mg_of X G aMak
  have FCom := fun_mk (st := sComes) lCom cCom kCom
  have bCom := FCom.binds (ps := ["teeth", "step", "begun", "tooth"]) fun _ _ _ _ _ _ us hl => match us, hl with | [_, _, _, _], _ => rfl
  have gCom := PySem.W.mg_of X G aCom
  have FCmn := fun_mk (st := sCommon) lCmn cCmn kCmn
  have bCmn := FCmn.binds (ps := ["box", "numbers"]) fun _ _ _ _ _ _ us hl => match us, hl with | [_, _], _ => rfl
  have gCmn := PySem.W.mg_of X G aCmn
  have FSam := fun_mk (st := sSame) lSam cSam kSam
  have bSam := FSam.binds (ps := ["box", "numbers"]) fun _ _ _ _ _ _ us hl => match us, hl with | [_, _], _ => rfl
  have gSam := PySem.W.mg_of X G aSam
  have FCov := fun_mk (st := sCover) lCov cCov kCov
  have bCov := FCov.binds (ps := ["box", "numbers"]) fun _ _ _ _ _ _ us hl => match us, hl with | [_, _], _ => rfl
  have gCov := PySem.W.mg_of X G aCov
  have FPla := fun_mk (st := sPlace) lPla cPla kPla
  have bPla := FPla.binds (ps := ["teeth", "steps", "begun", "k"]) fun _ _ _ _ _ _ us hl => match us, hl with | [_, _, _, _], _ => rfl
  have gPla := PySem.W.mg_of X G aPla
  have FPit := fun_mk (st := sPit) lPit cPit kPit
  have bPit := FPit.binds (ps := ["teeth", "steps"]) fun _ _ _ _ _ _ us hl => match us, hl with | [_, _], _ => rfl
  have gPit := PySem.W.mg_of X G aPit
  have FTns := fun_mk (st := sTurns) lTns cTns kTns
  have bTns := FTns.binds (ps := ["box", "numbers"]) fun _ _ _ _ _ _ us hl => match us, hl with | [_, _], _ => rfl
  have gTns := PySem.W.mg_of X G aTns
  have FTrn := fun_mk (st := sTurn) lTrn cTrn kTrn
  have bTrn := FTrn.binds (ps := ["box", "numbers"]) fun _ _ _ _ _ _ us hl => match us, hl with | [_, _], _ => rfl
  have gTrn := PySem.W.mg_of X G aTrn
  have FLoo := fun_mk (st := sLook) lLoo cLoo kLoo
  have bLoo := FLoo.binds (ps := ["box", "numbers"]) fun _ _ _ _ _ _ us hl => match us, hl with | [_, _], _ => rfl
  have gLoo := PySem.W.mg_of X G aLoo
  have FMW := fun_mk (st := sMissW) lMW cMW kMW
  have bMW := FMW.binds (ps := ["box", "kinds", "numbers"]) fun _ _ _ _ _ _ us hl => match us, hl with | [_, _, _], _ => rfl
  have gMW := PySem.W.mg_of X G aMW
  have FMT := fun_mk (st := sMissT) lMT cMT kMT
  have bMT := FMT.binds (ps := ["box", "kinds", "numbers"]) fun _ _ _ _ _ _ us hl => match us, hl with | [_, _, _], _ => rfl
  have gMT := PySem.W.mg_of X G aMT
  have FAns := fun_mk (st := sAnswer) lAns cAns kAns
  have bAns := FAns.binds (ps := ["box", "call", "numbers"]) fun _ _ _ _ _ _ us hl => match us, hl with | [_, _, _], _ => rfl
  have gAns := PySem.W.mg_of X G aAns
  have FAll := fun_mk (st := sAnswers) lAll cAll kAll
  have bAll := FAll.binds (ps := ["calls"]) fun _ _ _ _ _ _ us hl => match us, hl with | [_], _ => rfl
  have FIni := fun_mk (st := sInit) lIni cIni kIni
  have bIni := FIni.binds (ps := ["self"]) fun _ _ _ _ _ _ us hl => match us, hl with | [_], _ => rfl
  refine ⟨PySem.W.fnOf "answers" "answers" (defArgs sAnswers) (defBody sAnswers) (defScope sAnswers) .none kVAll dcAll pmAll anAll cdAll ctAll, fun s us hu => match us, hu with | [_], _ => .of_eq rfl, fun base _ _ => ?_⟩
  have B : Tabs P w K mg base C aK aC [k0, k1, k2, k3, k4, k5, k6, k7, k8, k9, k10, k11, k12] [fBeg, fWhe, fFig, fPoi, fWhn, fCro, fMak, fCmn, fSam, fCov, fTns, fTrn, fLoo] := by
    refine ⟨PySem.W.mg_of X G aKi, PySem.W.mg_of X G aCa, rfl, rfl, nd, tup_K lKi (Nat.le_of_ble_eq_true rfl) (.cons rfl (.cons rfl (.cons rfl (.cons rfl (.cons rfl (.cons rfl (.cons rfl (.cons rfl (.cons rfl (.cons rfl (.cons rfl (.cons rfl (.cons rfl .nil))))))))))))), tup_K lCa (Nat.le_of_ble_eq_true rfl) (.cons rfl (.cons rfl (.cons rfl (.cons rfl (.cons rfl (.cons rfl (.cons rfl (.cons rfl (.cons rfl (.cons rfl (.cons rfl (.cons rfl (.cons rfl .nil))))))))))))), fun c kt e => ?_, fun c f e => ?_⟩
    · match c, e with
      | 0, e => cases Option.some.inj e; exact tup_K l0 (Nat.le_of_ble_eq_true rfl) (.cons ⟨_, rfl⟩ .nil)
      | 1, e => cases Option.some.inj e; exact tup_K l1 (Nat.le_of_ble_eq_true rfl) (.cons ⟨_, rfl⟩ .nil)
      | 2, e => cases Option.some.inj e; exact tup_K l2 (Nat.le_of_ble_eq_true rfl) (.cons ⟨_, rfl⟩ .nil)
      | 3, e => cases Option.some.inj e; exact tup_K l3 (Nat.le_of_ble_eq_true rfl) (.cons ⟨_, rfl⟩ (.cons ⟨_, rfl⟩ (.cons ⟨_, rfl⟩ .nil)))
      | 4, e => cases Option.some.inj e; exact tup_K l4 (Nat.le_of_ble_eq_true rfl) (.cons ⟨_, rfl⟩ (.cons ⟨_, rfl⟩ (.cons ⟨_, rfl⟩ .nil)))
      | 5, e => cases Option.some.inj e; exact tup_K l5 (Nat.le_of_ble_eq_true rfl) (.cons ⟨_, rfl⟩ .nil)
      | 6, e => cases Option.some.inj e; exact tup_K l6 (Nat.le_of_ble_eq_true rfl) (.cons ⟨_, rfl⟩ .nil)
      | 7, e => cases Option.some.inj e; exact tup_K l7 (Nat.le_of_ble_eq_true rfl) (.cons ⟨_, rfl⟩ (.cons ⟨_, rfl⟩ (.cons ⟨_, rfl⟩ (.cons ⟨_, rfl⟩ .nil))))
      | 8, e => cases Option.some.inj e; exact tup_K l8 (Nat.le_of_ble_eq_true rfl) (.cons ⟨_, rfl⟩ (.cons ⟨_, rfl⟩ (.cons ⟨_, rfl⟩ (.cons ⟨_, rfl⟩ .nil))))
      | 9, e => cases Option.some.inj e; exact tup_K l9 (Nat.le_of_ble_eq_true rfl) (.cons ⟨_, rfl⟩ .nil)
      | 10, e => cases Option.some.inj e; exact tup_K l10 (Nat.le_of_ble_eq_true rfl) (.cons ⟨_, rfl⟩ (.cons ⟨_, rfl⟩ .nil))
      | 11, e => cases Option.some.inj e; exact tup_K l11 (Nat.le_of_ble_eq_true rfl) (.cons ⟨_, rfl⟩ (.cons ⟨_, rfl⟩ (.cons ⟨_, rfl⟩ (.cons ⟨_, rfl⟩ .nil))))
      | 12, e => cases Option.some.inj e; exact tup_K l12 (Nat.le_of_ble_eq_true rfl) .nil
      | _ + 13, e => cases e
    · match c, e with
      | 0, e => cases Option.some.inj e; exact ⟨⟨_, _, (ok_begin FBeg T).mono (by decide), FBeg.kp, bBeg⟩⟩
      | 1, e => cases Option.some.inj e; exact ⟨⟨_, _, (ok_wheel FWhe T).mono (by decide), FWhe.kp, bWhe⟩⟩
      | 2, e => cases Option.some.inj e; exact ⟨⟨_, _, (ok_figure FFig T (ok_par FPar FGcd bGcd gGcd) FPar.kp bPar gPar).mono (by decide), FFig.kp, bFig⟩⟩
      | 3, e => cases Option.some.inj e; exact ⟨⟨_, _, (ok_point FPoi T).mono (by decide), FPoi.kp, bPoi⟩⟩
      | 4, e => cases Option.some.inj e; exact ⟨⟨_, _, (ok_when FWhn T).mono (by decide), FWhn.kp, bWhn⟩⟩
      | 5, e => cases Option.some.inj e; exact ⟨⟨_, _, (ok_cross FCro T (ok_par FPar FGcd bGcd gGcd) FPar.kp bPar gPar).mono (by decide), FCro.kp, bCro⟩⟩
      | 6, e => cases Option.some.inj e; exact ⟨⟨_, _, (ok_make FMak T (ok_par FPar FGcd bGcd gGcd) FPar.kp bPar gPar).mono (by decide), FMak.kp, bMak⟩⟩
      | 7, e => cases Option.some.inj e; exact ⟨⟨_, _, (ok_common FCmn T (ok_comes FCom FGcd bGcd gGcd) FCom.kp bCom gCom).mono (by decide), FCmn.kp, bCmn⟩⟩
      | 8, e => cases Option.some.inj e; exact ⟨⟨_, _, (ok_same FSam T (ok_comes FCom FGcd bGcd gGcd) FCom.kp bCom gCom).mono (by decide), FSam.kp, bSam⟩⟩
      | 9, e => cases Option.some.inj e; exact ⟨⟨_, _, (ok_cover FCov T FGcd bGcd gGcd).mono (by decide), FCov.kp, bCov⟩⟩
      | 10, e => cases Option.some.inj e; exact ⟨⟨_, _, (ok_turns FTns T (ok_pit FPit (ok_par FPar FGcd bGcd gGcd) FPar.kp bPar gPar) FPit.kp bPit gPit (ok_place FPla) FPla.kp bPla gPla), FTns.kp, bTns⟩⟩
      | 11, e => cases Option.some.inj e; exact ⟨⟨_, _, (ok_turn FTrn T (ok_place FPla) FPla.kp bPla gPla).mono (by decide), FTrn.kp, bTrn⟩⟩
      | 12, e => cases Option.some.inj e; exact ⟨⟨_, _, (ok_look FLoo T).mono (by decide), FLoo.kp, bLoo⟩⟩
      | _ + 13, e => cases e
  exact ok_answers FAll T B ⟨mk, aIni, iIni, kc⟩ (ok_init FIni T) bIni (ok_answer FAns T B (ok_missW FMW T) FMW.kp bMW gMW (ok_missT FMT T) FMT.kp bMT gMT) FAns.kp bAns gAns
end Wd
open PySem PySem.W PyProof.Rows
set_option maxRecDepth 100000 in
set_option maxHeartbeats 0 in
theorem PySem.Challenge.cw_wheeldrawn_s01_answers_holds : PySem.Challenge.rw_wheeldrawn_s01_answers.Holds := by
  w_on; k_headS; (case hw => exact ⟨[.list [.int 0, .int 3]], by decide +kernel, by decide +kernel⟩)
  k_fillS
  refine L2.walk_specK (r := PySem.Challenge.rw_wheeldrawn_s01_answers) (k := 6) (CX := L2.CX0) (ps := ["calls"]) (sp := Wd.spAns) (by decide +kernel) rfl rfl ⟨rfl, by decide, by decide⟩ (fun w h Y => PySem.W.kIn_of Y) ?F ?S (fun _ _ _ _ z => z)
  case F =>
    intro w mg fa h Y KX G hmg
    refine' Wd.all_mk KX G hmg ?aB ?aIni ?iIni ?lIni ?cIni ?kIni ?aGcd ?lGcd ?cGcd ?kGcd ?aPar ?lPar ?cPar ?kPar ?aBeg ?lBeg ?cBeg ?kBeg ?aWhe ?lWhe ?cWhe ?kWhe ?aFig ?lFig ?cFig ?kFig ?aPoi ?lPoi ?cPoi ?kPoi ?aWhn ?lWhn ?cWhn ?kWhn ?aCro ?lCro ?cCro ?kCro ?aMak ?lMak ?cMak ?kMak ?aCom ?lCom ?cCom ?kCom ?aCmn ?lCmn ?cCmn ?kCmn ?aSam ?lSam ?cSam ?kSam ?aCov ?lCov ?cCov ?kCov ?aPla ?lPla ?cPla ?kPla ?aPit ?lPit ?cPit ?kPit ?aTns ?lTns ?cTns ?kTns ?aTrn ?lTrn ?cTrn ?kTrn ?aLoo ?lLoo ?cLoo ?kLoo ?aMW ?lMW ?cMW ?kMW ?aMT ?lMT ?cMT ?kMT ?aAns ?lAns ?cAns ?kAns ?aAll ?lAll ?cAll ?kAll ?pg ?hd ?po ?sa ?mk ?kc ?nT ?nW ?gfew ?gmost ?gsix ?glate ?gm1 ?gm2 ?gm5 ?gm6 ?gm9 ?gz0 ?xlen ?xzip ?xrange ?xmin ?xset ?aKi ?lKi ?aCa ?lCa ?l0 ?l1 ?l2 ?l3 ?l4 ?l5 ?l6 ?l7 ?l8 ?l9 ?l10 ?l11 ?l12 ?nd
    (case aB => k_is)
    (case aIni => k_is)
    (case iIni => k_is)
    (case lIni => k_is)
    (case cIni => k_is)
    (case kIni => k_is)
    (case aGcd => k_is)
    (case lGcd => k_is)
    (case cGcd => k_is)
    (case kGcd => k_is)
    (case aPar => k_is)
    (case lPar => k_is)
    (case cPar => k_is)
    (case kPar => k_is)
    (case aBeg => k_is)
    (case lBeg => k_is)
    (case cBeg => k_is)
    (case kBeg => k_is)
    (case aWhe => k_is)
    (case lWhe => k_is)
    (case cWhe => k_is)
    (case kWhe => k_is)
    (case aFig => k_is)
    (case lFig => k_is)
    (case cFig => k_is)
    (case kFig => k_is)
    (case aPoi => k_is)
    (case lPoi => k_is)
    (case cPoi => k_is)
    (case kPoi => k_is)
    (case aWhn => k_is)
    (case lWhn => k_is)
    (case cWhn => k_is)
    (case kWhn => k_is)
    (case aCro => k_is)
    (case lCro => k_is)
    (case cCro => k_is)
    (case kCro => k_is)
    (case aMak => k_is)
    (case lMak => k_is)
    (case cMak => k_is)
    (case kMak => k_is)
    (case aCom => k_is)
    (case lCom => k_is)
    (case cCom => k_is)
    (case kCom => k_is)
    (case aCmn => k_is)
    (case lCmn => k_is)
    (case cCmn => k_is)
    (case kCmn => k_is)
    (case aSam => k_is)
    (case lSam => k_is)
    (case cSam => k_is)
    (case kSam => k_is)
    (case aCov => k_is)
    (case lCov => k_is)
    (case cCov => k_is)
    (case kCov => k_is)
    (case aPla => k_is)
    (case lPla => k_is)
    (case cPla => k_is)
    (case kPla => k_is)
    (case aPit => k_is)
    (case lPit => k_is)
    (case cPit => k_is)
    (case kPit => k_is)
    (case aTns => k_is)
    (case lTns => k_is)
    (case cTns => k_is)
    (case kTns => k_is)
    (case aTrn => k_is)
    (case lTrn => k_is)
    (case cTrn => k_is)
    (case kTrn => k_is)
    (case aLoo => k_is)
    (case lLoo => k_is)
    (case cLoo => k_is)
    (case kLoo => k_is)
    (case aMW => k_is)
    (case lMW => k_is)
    (case cMW => k_is)
    (case kMW => k_is)
    (case aMT => k_is)
    (case lMT => k_is)
    (case cMT => k_is)
    (case kMT => k_is)
    (case aAns => k_is)
    (case lAns => k_is)
    (case cAns => k_is)
    (case kAns => k_is)
    (case aAll => k_is)
    (case lAll => k_is)
    (case cAll => k_is)
    (case kAll => k_is)
    (case pg => k_is)
    (case hd => k_is)
    (case po => k_is)
    (case sa => k_is)
    (case mk => k_is)
    (case kc => k_is)
    (case nT => k_is)
    (case nW => k_is)
    (case gfew => k_is)
    (case gmost => k_is)
    (case gsix => k_is)
    (case glate => k_is)
    (case gm1 => k_is)
    (case gm2 => k_is)
    (case gm5 => k_is)
    (case gm6 => k_is)
    (case gm9 => k_is)
    (case gz0 => k_is)
    (case xlen => k_is)
    (case xzip => k_is)
    (case xrange => k_is)
    (case xmin => k_is)
    (case xset => k_is)
    (case aKi => k_is)
    (case lKi => k_is)
    (case aCa => k_is)
    (case lCa => k_is)
    (case l0 => k_is)
    (case l1 => k_is)
    (case l2 => k_is)
    (case l3 => k_is)
    (case l4 => k_is)
    (case l5 => k_is)
    (case l6 => k_is)
    (case l7 => k_is)
    (case l8 => k_is)
    (case l9 => k_is)
    (case l10 => k_is)
    (case l11 => k_is)
    (case l12 => k_is)
    (case nd => decide)
  case S =>
    intro K H xs a hO hwi hask hx
    cases hx with
    | cons h1 h2 =>
      cases h2
      cases h1 with
      | lst hs ha =>
        have e := L2.ints_dw a.1 _ ha
        subst e
        exact ⟨_, a.1, rfl, hs, hask, fun H' p hp => .lst (L2.SqL.of hp) (L2.dw_ints _)⟩
#print axioms PySem.Challenge.cw_wheeldrawn_s01_answers_holds
