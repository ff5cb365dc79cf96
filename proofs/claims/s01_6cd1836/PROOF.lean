import PyProof.Rows.All
import Wide.All
import OpenK.AllK
import Wide.FinOn
import Open.SpecLaws
import KE.OsHead
import KE.OsGo
import HandS.ForSpec
import HandS.ForMost
import HandS.Wide
import HandS.Walk
import HandS.DictTup
import HandS.Iter
import HandS.SortKw
import KE.DatumOrd
import PyFlatLaws
import PyKp379
import PySem.Challenge.RW_selveshelper_s01_answers
set_option Elab.async false
/-! Fractions: what stands for a fraction, over a common lower number. -/
namespace Sel
open Kp340 Kp346

/-- f is x by d, told in lowest terms -/
def Rep (f : Fr) (x d : Int) : Prop := 0 < d ∧ 0 < f.2 ∧ Nat.gcd f.1.natAbs f.2.natAbs = 1 ∧ f.1 * d = x * f.2

theorem fr_pos {a b : Int} (hb : 0 < b) : fr a b = (a / (Nat.gcd a.natAbs b.natAbs : Int), b / (Nat.gcd a.natAbs b.natAbs : Int)) := by
  have g0 : Nat.gcd a.natAbs b.natAbs ≠ 0 := by
    intro h
    have := (Nat.gcd_eq_zero_iff.mp h).2
    omega
  unfold fr
  simp only [if_neg g0]
  rw [if_neg (by omega)]

theorem rep_fr {a b : Int} (hb : 0 < b) : Rep (fr a b) a b := by
  rw [fr_pos hb]
  have gp : 0 < Nat.gcd a.natAbs b.natAbs := Nat.gcd_pos_of_pos_right _ (by omega)
  generalize hg : Nat.gcd a.natAbs b.natAbs = g at gp
  have da : (g : Int) ∣ a := by
    rw [← Int.natAbs_dvd_natAbs, Int.natAbs_natCast, ← hg]
    exact Nat.gcd_dvd_left _ _
  have db : (g : Int) ∣ b := by
    rw [← Int.natAbs_dvd_natAbs, Int.natAbs_natCast, ← hg]
    exact Nat.gcd_dvd_right _ _
  obtain ⟨x, rfl⟩ := da
  obtain ⟨y, rfl⟩ := db
  have g0 : (g : Int) ≠ 0 := by omega
  have gpos : (0 : Int) < g := by omega
  rw [Int.mul_ediv_cancel_left _ g0, Int.mul_ediv_cancel_left _ g0]
  have y0 : 0 < y := by
    rcases Int.lt_trichotomy y 0 with h | h | h
    · have := Int.mul_neg_of_pos_of_neg gpos h
      omega
    · subst h; simp at hb
    · exact h
  refine ⟨hb, y0, ?_, ?_⟩
  · rw [Int.natAbs_mul, Int.natAbs_mul, Int.natAbs_natCast, Nat.gcd_mul_left] at hg
    exact Nat.eq_of_mul_eq_mul_left gp (by rw [hg, Nat.mul_one])
  · show x * (↑g * y) = ↑g * x * y
    rw [Int.mul_comm (g : Int) x, Int.mul_assoc]

/-- two fractions in lowest terms of the same worth are the same -/
theorem rep_eq {f g : Fr} {x d : Int} (hf : Rep f x d) (hg : Rep g x d) : f = g := by
  obtain ⟨d0, f0, fc, fe⟩ := hf
  obtain ⟨_, g0, gc, ge⟩ := hg
  obtain ⟨p, q⟩ := f
  obtain ⟨r, s⟩ := g
  simp only at *
  have dn : d ≠ 0 := by omega
  -- p * s = r * q
  have e : p * s = r * q := by
    apply Int.eq_of_mul_eq_mul_right dn
    calc p * s * d = (p * d) * s := by rw [Int.mul_right_comm]
      _ = x * q * s := by rw [fe]
      _ = (x * s) * q := by rw [Int.mul_right_comm]
      _ = r * d * q := by rw [ge]
      _ = r * q * d := by rw [Int.mul_right_comm]
  have en : p.natAbs * s.natAbs = r.natAbs * q.natAbs := by
    rw [← Int.natAbs_mul, ← Int.natAbs_mul, e]
  have d1 : q.natAbs ∣ s.natAbs := by
    have : q.natAbs ∣ p.natAbs * s.natAbs := ⟨r.natAbs, by rw [en, Nat.mul_comm]⟩
    exact Nat.Coprime.dvd_of_dvd_mul_left (by rw [Nat.coprime_comm]; exact fc) this
  have d2 : s.natAbs ∣ q.natAbs := by
    have : s.natAbs ∣ r.natAbs * q.natAbs := ⟨p.natAbs, by rw [← en, Nat.mul_comm]⟩
    exact Nat.Coprime.dvd_of_dvd_mul_left (by rw [Nat.coprime_comm]; exact gc) this
  have e2 : q.natAbs = s.natAbs := Nat.dvd_antisymm d1 d2
  have e3 : q = s := by omega
  subst e3
  have e4 : p = r := Int.eq_of_mul_eq_mul_right (by omega : q ≠ 0) e
  rw [e4]

theorem rep_is {f : Fr} {x d : Int} (hf : Rep f x d) : f = fr x d := rep_eq hf (rep_fr hf.1)

/-- cross-multiplied: x by d is y by e -/
theorem rep_cross {f : Fr} {x d y e : Int} (hf : Rep f x d) (he : 0 < e) (h : x * e = y * d) : Rep f y e := by
  obtain ⟨d0, f0, fc, fe⟩ := hf
  refine ⟨he, f0, fc, ?_⟩
  apply Int.eq_of_mul_eq_mul_right (by omega : d ≠ 0)
  calc f.1 * e * d = (f.1 * d) * e := by rw [Int.mul_right_comm]
    _ = x * f.2 * e := by rw [fe]
    _ = (x * e) * f.2 := by rw [Int.mul_right_comm]
    _ = y * d * f.2 := by rw [h]
    _ = y * f.2 * d := by rw [Int.mul_right_comm]

theorem rep_scale {f : Fr} {x d c : Int} (hf : Rep f x d) (hc : 0 < c) : Rep f (x * c) (d * c) :=
  rep_cross hf (Int.mul_pos hf.1 hc) (by rw [← Int.mul_assoc, Int.mul_right_comm])

theorem rep_scaleL {f : Fr} {x d c : Int} (hf : Rep f x d) (hc : 0 < c) : Rep f (c * x) (c * d) := by
  rw [Int.mul_comm c x, Int.mul_comm c d]
  exact rep_scale hf hc

theorem rep_zero {d : Int} (hd : 0 < d) : Rep (0, 1) 0 d := ⟨hd, by decide, by decide, by simp⟩

theorem rep_ofInt (z : Int) {d : Int} (hd : 0 < d) : Rep (ofInt z) (z * d) d := by
  refine ⟨hd, by show (0 : Int) < 1; decide, ?_, ?_⟩
  · show Nat.gcd z.natAbs 1 = 1
    exact Nat.gcd_one_right _
  · show z * d = z * d * 1
    rw [Int.mul_one]

theorem rep_one {d : Int} (hd : 0 < d) : Rep (1, 1) d d := ⟨hd, by decide, by decide, by simp⟩

theorem rep_add {f g : Fr} {x y d : Int} (hf : Rep f x d) (hg : Rep g y d) : Rep (add f g) (x + y) d := by
  have h : Rep (add f g) (f.1 * g.2 + g.1 * f.2) (f.2 * g.2) := rep_fr (Int.mul_pos hf.2.1 hg.2.1)
  refine rep_cross h hf.1 ?_
  obtain ⟨d0, f0, fc, fe⟩ := hf
  obtain ⟨_, g0, gc, ge⟩ := hg
  calc (f.1 * g.2 + g.1 * f.2) * d = (f.1 * d) * g.2 + (g.1 * d) * f.2 := by
        rw [Int.add_mul, Int.mul_right_comm, Int.mul_right_comm g.1]
    _ = x * f.2 * g.2 + y * g.2 * f.2 := by rw [fe, ge]
    _ = (x + y) * (f.2 * g.2) := by
        rw [Int.add_mul, Int.mul_assoc, Int.mul_assoc, Int.mul_comm g.2 f.2]

theorem rep_mul {f g : Fr} {x y d e : Int} (hf : Rep f x d) (hg : Rep g y e) : Rep (mul f g) (x * y) (d * e) := by
  have h : Rep (mul f g) (f.1 * g.1) (f.2 * g.2) := rep_fr (Int.mul_pos hf.2.1 hg.2.1)
  refine rep_cross h (Int.mul_pos hf.1 hg.1) ?_
  obtain ⟨d0, f0, fc, fe⟩ := hf
  obtain ⟨_, g0, gc, ge⟩ := hg
  calc f.1 * g.1 * (d * e) = (f.1 * d) * (g.1 * e) := by
        rw [Int.mul_assoc, Int.mul_assoc, Int.mul_left_comm g.1 d e]
    _ = (x * f.2) * (y * g.2) := by rw [fe, ge]
    _ = x * y * (f.2 * g.2) := by
        rw [Int.mul_assoc, Int.mul_assoc, Int.mul_left_comm f.2 y g.2]

theorem rep_neg {f : Fr} {x d : Int} (hf : Rep f x d) : Rep (neg f) (-x) d := by
  obtain ⟨d0, f0, fc, fe⟩ := hf
  refine ⟨d0, f0, ?_, ?_⟩
  · show Nat.gcd (-f.1).natAbs f.2.natAbs = 1
    rw [Int.natAbs_neg]
    exact fc
  · show -f.1 * d = -x * f.2
    rw [Int.neg_mul, fe, Int.neg_mul]

theorem rep_sub {f g : Fr} {x y d : Int} (hf : Rep f x d) (hg : Rep g y d) : Rep (sub f g) (x - y) d := by
  rw [Int.sub_eq_add_neg]
  exact rep_add hf (rep_neg hg)

theorem rep_lt {f g : Fr} {x y d : Int} (hf : Rep f x d) (hg : Rep g y d) : ltF f g = decide (x < y) := by
  obtain ⟨d0, f0, fc, fe⟩ := hf
  obtain ⟨_, g0, gc, ge⟩ := hg
  unfold ltF
  have key : (f.1 * g.2 < g.1 * f.2) ↔ (x < y) := by
    have p : 0 < f.2 * g.2 := Int.mul_pos f0 g0
    have e1 : f.1 * g.2 * d = x * (f.2 * g.2) := by
      rw [Int.mul_right_comm, fe, Int.mul_assoc]
    have e2 : g.1 * f.2 * d = y * (f.2 * g.2) := by
      rw [Int.mul_right_comm, ge, Int.mul_assoc, Int.mul_comm g.2]
    constructor
    · intro h
      have := Int.mul_lt_mul_of_pos_right h d0
      rw [e1, e2] at this
      exact Int.lt_of_mul_lt_mul_right this (Int.le_of_lt p)
    · intro h
      have := Int.mul_lt_mul_of_pos_right h p
      rw [← e1, ← e2] at this
      exact Int.lt_of_mul_lt_mul_right this (Int.le_of_lt d0)
  simp only [key]

theorem rep_same {f g : Fr} {x y d : Int} (hf : Rep f x d) (hg : Rep g y d) : (f == g) = decide (x = y) := by
  by_cases h : x = y
  · subst h
    rw [rep_eq hf hg, decide_eq_true rfl]
    exact beq_self_eq_true g
  · rw [decide_eq_false h]
    apply beq_false_of_ne
    intro e
    subst e
    apply h
    have h1 := hf.2.2.2
    have h2 := hg.2.2.2
    exact Int.eq_of_mul_eq_mul_right (by have := hf.2.1; omega : f.2 ≠ 0) (h1.symm.trans h2)

theorem rep_isZero {f : Fr} {x d : Int} (hf : Rep f x d) : f.1 = 0 ↔ x = 0 := by
  obtain ⟨d0, f0, fc, fe⟩ := hf
  constructor
  · intro h
    rw [h, Int.zero_mul] at fe
    rcases Int.mul_eq_zero.mp fe.symm with h | h <;> omega
  · intro h
    rw [h, Int.zero_mul] at fe
    rcases Int.mul_eq_zero.mp fe with h | h <;> omega

/-! sums -/
theorem rep_foldl {α : Type} {d : Int} {f : α → Fr} {g : α → Int} : ∀ (l : List α), (∀ a ∈ l, Rep (f a) (g a) d) → ∀ (f0 : Fr) (x0 : Int), Rep f0 x0 d →
    Rep ((l.map f).foldl add f0) (x0 + (l.map g).sum) d
  | [], _, f0, x0, h0 => by simpa using h0
  | a :: l, h, f0, x0, h0 => by
    have := rep_foldl l (fun b hb => h b (List.Mem.tail _ hb)) _ _ (rep_add h0 (h a (List.Mem.head _)))
    rw [List.map_cons, List.foldl_cons, List.map_cons, List.sum_cons, ← Int.add_assoc]
    exact this

theorem rep_sumF {α : Type} {d : Int} (hd : 0 < d) {f : α → Fr} {g : α → Int} {l : List α} (h : ∀ a ∈ l, Rep (f a) (g a) d) :
    Rep (sumF (l.map f)) ((l.map g).sum) d := by
  have := rep_foldl l h _ _ (rep_zero hd)
  rw [Int.zero_add] at this
  exact this
end Sel

/-! The world, the rows of the specification over whole numbers of parts. -/
namespace Sel
open Kp340 Kp346
open Kp379 (World Act Stand actsAt actAt stands index behind mean bring bestIn nextRow rows rowAt zeros)

/-! ### lists -/
theorem flatMap_get {α β : Type} {g : α → List β} {m : Nat} (hl : ∀ a, (g a).length = m) : ∀ (l : List α) (i j : Nat) (a : α), l[i]? = some a → j < m → (l.flatMap g)[i * m + j]? = (g a)[j]?
  | [], i, j, a, h, _ => by simp at h
  | b :: l, 0, j, a, h, hj => by
    have e : b = a := by simpa using h
    subst e
    rw [List.flatMap_cons, Nat.zero_mul, Nat.zero_add, List.getElem?_append_left (by rw [hl]; exact hj)]
  | b :: l, i + 1, j, a, h, hj => by
    have h' : l[i]? = some a := by simpa using h
    rw [List.flatMap_cons, List.getElem?_append_right (by rw [hl, Nat.add_mul]; omega), hl]
    have e : (i + 1) * m + j - m = i * m + j := by rw [Nat.add_mul]; omega
    rw [e]
    exact flatMap_get hl l i j a h' hj

theorem flatMap_len {α β : Type} {g : α → List β} {m : Nat} (hl : ∀ a, (g a).length = m) : ∀ (l : List α), (l.flatMap g).length = l.length * m
  | [] => by simp
  | b :: l => by rw [List.flatMap_cons, List.length_append, hl, flatMap_len hl l, List.length_cons, Nat.add_mul]; omega

theorem range_get {n i : Nat} (h : i < n) : (List.range n)[i]? = some i := by
  rw [List.getElem?_range h]

theorem stands_get {w : World} {x : Stand} (hp : x.p < w.n) (hs : x.s < w.v) : (stands w)[index w x]? = some x := by
  obtain ⟨p, s, l⟩ := x
  have i1 : ∀ q : Nat, ((List.range w.v).flatMap fun s => [(⟨q, s, false⟩ : Stand), ⟨q, s, true⟩]).length = w.v * 2 := fun q => by
    rw [flatMap_len (m := 2) (fun _ => rfl), List.length_range]
  have hb : (if l = true then 1 else 0) < 2 := by cases l <;> decide
  have hj : s * 2 + (if l = true then 1 else 0) < w.v * 2 := by
    have : s < w.v := hs
    omega
  have e : index w ⟨p, s, l⟩ = p * (w.v * 2) + (s * 2 + (if l = true then 1 else 0)) := by
    show (p * w.v + s) * 2 + (if l = true then 1 else 0) = _
    rw [Nat.add_mul, Nat.mul_assoc, Nat.add_assoc]
  unfold stands
  rw [e, flatMap_get i1 _ p _ p (range_get hp) hj, flatMap_get (m := 2) (fun _ => rfl) _ s _ s (range_get hs) hb]
  cases l <;> rfl

theorem stands_mem {w : World} {x : Stand} : x ∈ stands w ↔ x.p < w.n ∧ x.s < w.v := by
  unfold stands
  simp only [List.mem_flatMap, List.mem_range, List.mem_cons, List.not_mem_nil, or_false]
  constructor
  · rintro ⟨p, hp, s, hs, rfl | rfl⟩ <;> exact ⟨hp, hs⟩
  · intro ⟨hp, hs⟩
    obtain ⟨p, s, l⟩ := x
    refine ⟨p, hp, s, hs, ?_⟩
    cases l
    · exact Or.inl rfl
    · exact Or.inr rfl

theorem map_stands {β : Type} {w : World} {x : Stand} {f : Stand → β} {d : β} (hp : x.p < w.n) (hs : x.s < w.v) : ((stands w).map f).getD (index w x) d = f x := by
  rw [List.getD_eq_getElem?_getD, List.getElem?_map, stands_get hp hs]
  rfl

theorem map_range {β : Type} {n i : Nat} {f : Nat → β} {d : β} (h : i < n) : ((List.range n).map f).getD i d = f i := by
  rw [List.getD_eq_getElem?_getD, List.getElem?_map, range_get h]
  rfl

/-! ### a world as it should be -/
structure ActOk (n v : Nat) (a : Act) : Prop where
  pl : a.pays.length = v
  pb : ∀ x ∈ a.pays, -9 ≤ x ∧ x ≤ 9
  tl : a.to.length = n
  tb : ∀ x ∈ a.to, x ≤ 9
  t0 : 0 < total a.to
  tu : a.turn ≤ v

structure Wf (w : World) : Prop where
  n2 : 2 ≤ w.n
  n4 : w.n ≤ 4
  v1 : 1 ≤ w.v
  v3 : w.v ≤ 3
  len : w.acts.length = w.n
  few : ∀ l ∈ w.acts, l.length ≤ 3
  ok : ∀ l ∈ w.acts, ∀ a ∈ l, ActOk w.n w.v a

theorem actsAt_mem {w : World} {p : Nat} (hw : Wf w) (hp : p < w.n) : actsAt w p ∈ w.acts := by
  unfold actsAt
  rw [List.getD_eq_getElem?_getD, List.getElem?_eq_getElem (by rw [hw.len]; exact hp)]
  exact List.getElem_mem _

theorem Wf.act {w : World} {p : Nat} {a : Act} (hw : Wf w) (hp : p < w.n) (ha : a ∈ actsAt w p) : ActOk w.n w.v a := hw.ok _ (actsAt_mem hw hp) _ ha

theorem total_cons (x : Nat) (l : List Nat) : total (x :: l) = x + total l := by
  have h : ∀ (l : List Nat) (a : Nat), l.foldl (fun (a b : Nat) => a + b) a = a + l.foldl (fun (a b : Nat) => a + b) 0 := by
    intro l
    induction l with
    | nil => intro a; rfl
    | cons y l ih => intro a; rw [List.foldl_cons, List.foldl_cons, ih (a + y), ih (0 + y)]; omega
  unfold total
  rw [List.foldl_cons, h]
  omega

theorem total_le : ∀ (l : List Nat), (∀ x ∈ l, x ≤ 9) → total l ≤ 9 * l.length
  | [], _ => by simp [total]
  | x :: l, h => by
    have h1 := h x (List.Mem.head _)
    have h2 := total_le l fun y hy => h y (List.Mem.tail _ hy)
    rw [total_cons, List.length_cons]
    omega

theorem total_sum : ∀ (l : List Nat), (total l : Int) = (l.map fun (x : Nat) => (x : Int)).sum
  | [] => rfl
  | x :: l => by
    rw [total_cons, List.map_cons, List.sum_cons, ← total_sum l]
    omega

/-! ### parts -/
def PARTS : Int := 144403552893600
theorem parts_pos : 0 < PARTS := by decide

theorem parts_div {t : Nat} (h0 : 0 < t) (h : t ≤ 36) : (t : Int) * (PARTS / (t : Int)) = PARTS := by
  have all : ∀ t : Fin 37, 0 < t.val → ((t.val : Nat) : Int) * (PARTS / ((t.val : Nat) : Int)) = PARTS := by decide +kernel
  exact all ⟨t, by omega⟩ h0

theorem ActOk.tot {n v : Nat} {a : Act} (h : ActOk n v a) (hn : n ≤ 4) : total a.to ≤ 36 := by
  have := total_le a.to h.tb
  rw [h.tl] at this
  omega

/-- what's worth so and so many parts, of each place, self, lock, by each self's lights -/
abbrev Later := Nat → Nat → Bool → Nat → Int
def selfB (a : Act) (s : Nat) (l : Bool) : Nat := if l || a.turn == 0 then s else a.turn - 1
def lockB (a : Act) (l : Bool) : Bool := l || a.lock
def shareI (a : Act) : Int := PARTS / (total a.to : Int)
def meanI (n : Nat) (a : Act) (f : Nat → Int) : Int := ((List.range n).map fun q => ((a.to.getD q 0 : Nat) : Int) * shareI a * f q).sum
def bringI (n : Nat) (S : Int) (X : Later) (s : Nat) (l : Bool) (a : Act) (u : Nat) : Int :=
  a.pays.getD u 0 * PARTS * S + meanI n a fun q => X q (selfB a s l) (lockB a l) u

theorem rep_share {n v : Nat} {a : Act} (h : ActOk n v a) (hn : n ≤ 4) (q : Nat) : Rep (Kp346.share a.to q) (((a.to.getD q 0 : Nat) : Int) * shareI a) PARTS := by
  have t0 := h.t0
  have r : Rep (Kp346.share a.to q) ((a.to.getD q 0 : Nat) : Int) (total a.to : Nat) := rep_fr (by omega)
  refine rep_cross r parts_pos ?_
  have e := parts_div h.t0 (h.tot hn)
  show ((a.to.getD q 0 : Nat) : Int) * PARTS = ((a.to.getD q 0 : Nat) : Int) * (PARTS / (total a.to : Int)) * (total a.to : Int)
  rw [Int.mul_assoc, Int.mul_comm (PARTS / _), e]

theorem rep_mean {w : World} {a : Act} (h : ActOk w.n w.v a) (hn : w.n ≤ 4) {S : Int} (hS : 0 < S) {f : Nat → Fr} {g : Nat → Int} (hf : ∀ q, q < w.n → Rep (f q) (g q) S) :
    Rep (mean w a f) (meanI w.n a g) (PARTS * S) := by
  unfold mean meanI
  refine rep_sumF (Int.mul_pos parts_pos hS) fun q hq => ?_
  have hq' : q < w.n := List.mem_range.mp hq
  by_cases c : a.to.getD q 0 = 0
  · rw [if_pos c, c]
    have : ((0 : Nat) : Int) * shareI a * g q = 0 := by simp
    rw [this]
    exact rep_zero (Int.mul_pos parts_pos hS)
  · rw [if_neg c]
    exact rep_mul (rep_share h hn q) (hf q hq')

/-! ### the greatest, the first of like ones -/
structure FirstMax (xs : List Int) (i : Nat) : Prop where
  lt : i < xs.length
  le : ∀ (j : Nat) (y : Int), xs[j]? = some y → y ≤ xs.getD i 0
  first : ∀ (j : Nat) (y : Int), xs[j]? = some y → j < i → y < xs.getD i 0

theorem getD_of {α : Type} {l : List α} {i : Nat} {a d : α} (h : l[i]? = some a) : l.getD i d = a := by
  rw [List.getD_eq_getElem?_getD, h]
  rfl

theorem FirstMax.get {xs : List Int} {i : Nat} (h : FirstMax xs i) : xs[i]? = some (xs.getD i 0) := by
  rw [List.getD_eq_getElem?_getD, List.getElem?_eq_getElem h.lt]
  rfl

theorem FirstMax.unique {xs : List Int} {i j : Nat} (hi : FirstMax xs i) (hj : FirstMax xs j) : i = j := by
  have a := hi.le _ _ hj.get
  have b := hj.le _ _ hi.get
  rcases Nat.lt_trichotomy i j with h | h | h
  · have := hj.first _ _ hi.get h
    omega
  · exact h
  · have := hi.first _ _ hj.get h
    omega

def stepB (b : Option (Nat × Fr)) (x : Fr × Nat) : Option (Nat × Fr) := match b with
  | none => some (x.2, x.1)
  | some c => if ltF c.2 x.1 then some (x.2, x.1) else b

theorem best_fold {α : Type} {f : α → Fr} {g : α → Int} : ∀ (l pre : List α) (i : Nat) (a : α), (∀ x ∈ pre ++ l, ∀ y ∈ pre ++ l, ltF (f x) (f y) = decide (g x < g y)) →
    pre[i]? = some a → FirstMax (pre.map g) i → ∃ j b, ((l.map f).zipIdx pre.length).foldl stepB (some (i, f a)) = some (j, f b) ∧ (pre ++ l)[j]? = some b ∧ FirstMax ((pre ++ l).map g) j
  | [], pre, i, a, _, ha, hm => ⟨i, a, rfl, by rw [List.append_nil]; exact ha, by rw [List.append_nil]; exact hm⟩
  | x :: l, pre, i, a, h, ha, hm => by
    have hlen : i < pre.length := (List.getElem?_eq_some_iff.mp ha).1
    have hga : (pre.map g).getD i 0 = g a := getD_of (by rw [List.getElem?_map, ha]; rfl)
    have ma : a ∈ pre ++ x :: l := List.mem_append_left _ (List.mem_of_getElem? ha)
    have mx : x ∈ pre ++ x :: l := List.mem_append_right _ (List.Mem.head _)
    have e : pre ++ x :: l = (pre ++ [x]) ++ l := by simp
    have lt := h a ma x mx
    have hl : (pre ++ [x]).length = pre.length + 1 := by simp
    rw [List.map_cons, List.zipIdx_cons, List.foldl_cons, ← hl]
    by_cases c : g a < g x
    · have s1 : stepB (some (i, f a)) (f x, pre.length) = some (pre.length, f x) := by
        show (if ltF (f a) (f x) = true then some (pre.length, f x) else some (i, f a)) = _
        rw [lt, decide_eq_true c, if_pos rfl]
      rw [s1]
      have r := best_fold l (pre ++ [x]) pre.length x (by rw [← e]; exact h) (by simp) (by
        have gx : ((pre ++ [x]).map g).getD pre.length 0 = g x := getD_of (by rw [List.getElem?_map]; simp)
        refine ⟨by simp, fun j y hy => ?_, fun j y hy hj => ?_⟩
        · rw [gx]
          rw [List.map_append] at hy
          by_cases hj : j < pre.length
          · rw [List.getElem?_append_left (by simpa using hj)] at hy
            have := hm.le j y hy
            omega
          · rw [List.getElem?_append_right (by simp; omega)] at hy
            have hz : j - (pre.map g).length = 0 := by
              have := (List.getElem?_eq_some_iff.mp hy).1
              simpa using this
            rw [hz] at hy
            have : g x = y := by simpa using hy
            omega
        · rw [gx]
          rw [List.map_append, List.getElem?_append_left (by simpa using hj)] at hy
          have := hm.le j y hy
          omega)
      rw [e]
      exact r
    · have s1 : stepB (some (i, f a)) (f x, pre.length) = some (i, f a) := by
        show (if ltF (f a) (f x) = true then some (pre.length, f x) else some (i, f a)) = _
        rw [lt, decide_eq_false c, if_neg (by decide)]
      rw [s1]
      have r := best_fold l (pre ++ [x]) i a (by rw [← e]; exact h) (by rw [List.getElem?_append_left hlen]; exact ha) (by
        have gx : ((pre ++ [x]).map g).getD i 0 = g a := getD_of (by rw [List.getElem?_map, List.getElem?_append_left hlen, ha]; rfl)
        refine ⟨by simp; omega, fun j y hy => ?_, fun j y hy hj => ?_⟩
        · rw [gx]
          rw [List.map_append] at hy
          by_cases hj : j < pre.length
          · rw [List.getElem?_append_left (by simpa using hj)] at hy
            have := hm.le j y hy
            omega
          · rw [List.getElem?_append_right (by simp; omega)] at hy
            have hz : j - (pre.map g).length = 0 := by
              have := (List.getElem?_eq_some_iff.mp hy).1
              simpa using this
            rw [hz] at hy
            have : g x = y := by simpa using hy
            omega
        · rw [gx]
          rw [List.map_append, List.getElem?_append_left (by simp; omega)] at hy
          have := hm.first j y hy hj
          omega)
      rw [e]
      exact r

theorem best_of {α : Type} {f : α → Fr} {g : α → Int} {l : List α} (hne : l ≠ []) (h : ∀ x ∈ l, ∀ y ∈ l, ltF (f x) (f y) = decide (g x < g y)) :
    ∃ j b, bestIn (l.map f) = some (j, f b) ∧ l[j]? = some b ∧ FirstMax (l.map g) j := by
  cases l with
  | nil => exact absurd rfl hne
  | cons x l =>
    have r := best_fold l [x] 0 x (by simpa using h) rfl ⟨by simp, fun j y hy => by
      have hj : j = 0 := by
        have := (List.getElem?_eq_some_iff.mp hy).1
        simpa using this
      subst hj
      have : g x = y := by simpa using hy
      show y ≤ g x
      omega, fun j y hy hj => by omega⟩
    exact r

theorem best_nil : bestIn [] = none := rfl
end Sel

/-! The rows with k steps left, over whole numbers of parts. -/
namespace Sel
open Kp340 Kp346
open Kp379 (World Act Stand actsAt actAt stands index behind mean bring bestIn nextRow rows rowAt zeros Row)

theorem getLastD_snoc {α : Type} (l : List α) (x d : α) : (l ++ [x]).getLastD d = x := by
  simp [List.getLastD_eq_getLast?]

theorem rows_zero (w : World) : rows w 0 = [zeros w] := rfl
theorem rows_succ (w : World) (k : Nat) : rows w (k + 1) = rows w k ++ [nextRow w (rowAt w k)] := by
  unfold rowAt rows
  rw [List.range_succ, List.foldl_append]
  rfl
theorem rowAt_zero (w : World) : rowAt w 0 = zeros w := rfl
theorem rowAt_succ (w : World) (k : Nat) : rowAt w (k + 1) = nextRow w (rowAt w k) := by
  show (rows w (k + 1)).getLastD _ = _
  rw [rows_succ, getLastD_snoc]
theorem rows_is (w : World) : ∀ k, rows w k = (List.range (k + 1)).map (rowAt w)
  | 0 => rfl
  | k + 1 => by
    rw [rows_succ, rows_is w k, List.range_succ (n := k + 1), List.map_append, ← rowAt_succ]
    rfl

/-- what each act at a stand brings, by its own lights -/
def amounts (w : World) (S : Int) (X : Later) (p s : Nat) (l : Bool) : List Int := (actsAt w p).map fun a => bringI w.n S X s l a s

/-- X tells the row r over S parts -/
structure RowRep (w : World) (r : Row) (S : Int) (X : Later) : Prop where
  pos : 0 < S
  rep : ∀ p s l u, p < w.n → s < w.v → u < w.v → Rep (((r.getD (index w ⟨p, s, l⟩) (none, [])).2).getD u (0, 1)) (X p s l u) S

theorem behind_eq (p s : Nat) (l : Bool) (a : Act) (q : Nat) : behind ⟨p, s, l⟩ a q = ⟨q, selfB a s l, lockB a l⟩ := rfl

theorem selfB_lt {n v s : Nat} {a : Act} {l : Bool} (h : ActOk n v a) (hs : s < v) : selfB a s l < v := by
  unfold selfB
  have := h.tu
  split
  · exact hs
  · rename_i c
    simp at c
    omega

theorem rep_bring {w : World} (hw : Wf w) {r : Row} {S : Int} {X : Later} (hr : RowRep w r S X) {p s : Nat} {l : Bool} {a : Act} {u : Nat} (ha : ActOk w.n w.v a) (hs : s < w.v) (hu : u < w.v) :
    Rep (bring w r ⟨p, s, l⟩ a u) (bringI w.n S X s l a u) (PARTS * S) := by
  unfold bring bringI
  have h1 : Rep (ofInt (a.pays.getD u 0)) (a.pays.getD u 0 * PARTS * S) (PARTS * S) := by
    rw [Int.mul_assoc]
    exact rep_ofInt _ (Int.mul_pos parts_pos hr.pos)
  refine rep_add h1 (rep_mean ha hw.n4 hr.pos fun q hq => ?_)
  rw [behind_eq]
  exact hr.rep q _ _ u hq (selfB_lt ha hs) hu

/-- what's done, and what's worth how much, with one step more -/
structure Next (w : World) (S : Int) (X : Later) (p s : Nat) (l : Bool) (o : Option Nat) (Y : Nat → Int) : Prop where
  none_ : actsAt w p = [] → o = none ∧ ∀ u, u < w.v → Y u = 0
  some_ : actsAt w p ≠ [] → ∃ i a, o = some i ∧ (actsAt w p)[i]? = some a ∧ FirstMax (amounts w S X p s l) i ∧ ∀ u, u < w.v → Y u = bringI w.n S X s l a u

theorem actAt_of {w : World} {p i : Nat} {a : Act} (h : (actsAt w p)[i]? = some a) : actAt w p i = a := getD_of h

theorem bring_lt {w : World} (hw : Wf w) {r : Row} {S : Int} {X : Later} (hr : RowRep w r S X) {p s : Nat} {l : Bool} (hp : p < w.n) (hs : s < w.v) :
    ∀ a ∈ actsAt w p, ∀ b ∈ actsAt w p, ltF (bring w r ⟨p, s, l⟩ a s) (bring w r ⟨p, s, l⟩ b s) = decide (bringI w.n S X s l a s < bringI w.n S X s l b s) :=
  fun a ha b hb => rep_lt (rep_bring hw hr (hw.act hp ha) hs hs) (rep_bring hw hr (hw.act hp hb) hs hs)

/-- the next row's cell -/
def cell (w : World) (r : Row) (x : Stand) : Option Nat × List Fr := match bestIn ((actsAt w x.p).map fun a => bring w r x a x.s) with
  | none => (none, (List.range w.v).map fun _ => (0, 1))
  | some b => (some b.1, (List.range w.v).map fun u => bring w r x (actAt w x.p b.1) u)

theorem nextRow_cell {w : World} {r : Row} {x : Stand} (hp : x.p < w.n) (hs : x.s < w.v) : (nextRow w r).getD (index w x) (none, []) = cell w r x := map_stands hp hs

theorem cell_none {w : World} {r : Row} {p s : Nat} {l : Bool} (h : actsAt w p = []) : cell w r ⟨p, s, l⟩ = (none, (List.range w.v).map fun _ => (0, 1)) := by
  unfold cell
  simp only [h, List.map_nil, best_nil]

theorem cell_some {w : World} (hw : Wf w) {r : Row} {S : Int} {X : Later} (hr : RowRep w r S X) {p s : Nat} {l : Bool} (hp : p < w.n) (hs : s < w.v) (h : actsAt w p ≠ []) :
    ∃ i a, (actsAt w p)[i]? = some a ∧ FirstMax (amounts w S X p s l) i ∧ cell w r ⟨p, s, l⟩ = (some i, (List.range w.v).map fun u => bring w r ⟨p, s, l⟩ a u) := by
  obtain ⟨j, b, e, hb, hm⟩ := best_of (f := fun a => bring w r ⟨p, s, l⟩ a s) (g := fun a => bringI w.n S X s l a s) h (bring_lt hw hr hp hs)
  refine ⟨j, b, hb, hm, ?_⟩
  unfold cell
  simp only [e, actAt_of hb]

/-- the first of the greatest, by search -/
def firstMax : List Int → Nat
  | [] => 0
  | x :: l => if l.all (fun y => decide (y ≤ x)) then 0 else firstMax l + 1

theorem firstMax_ok : ∀ (l : List Int), l ≠ [] → FirstMax l (firstMax l)
  | [], h => absurd rfl h
  | x :: l, _ => by
    unfold firstMax
    by_cases c : l.all (fun y => decide (y ≤ x)) = true
    · rw [if_pos c]
      have c' : ∀ y ∈ l, y ≤ x := by simpa using c
      refine ⟨by simp, fun j y hy => ?_, fun j y _ hj => by omega⟩
      show y ≤ x
      cases j with
      | zero => have : x = y := by simpa using hy
                omega
      | succ j => exact c' y (List.mem_of_getElem? (by simpa using hy))
    · rw [if_neg c]
      have hne : l ≠ [] := by
        intro e
        subst e
        exact c rfl
      have ih := firstMax_ok l hne
      have c' : ∃ y ∈ l, x < y := by
        apply Classical.byContradiction
        intro k
        apply c
        simp only [List.all_eq_true, decide_eq_true_eq]
        intro y hy
        apply Int.not_lt.mp
        intro hlt
        exact k ⟨y, hy, hlt⟩
      obtain ⟨y0, hy0, hlt⟩ := c'
      obtain ⟨j0, hj0⟩ := List.getElem?_of_mem hy0
      have m0 := ih.le j0 y0 hj0
      have g : (x :: l).getD (firstMax l + 1) 0 = l.getD (firstMax l) 0 := rfl
      refine ⟨by have := ih.lt; simp; omega, fun j y hy => ?_, fun j y hy hj => ?_⟩
      · rw [g]
        cases j with
        | zero => have : x = y := by simpa using hy
                  omega
        | succ j => exact ih.le j y (by simpa using hy)
      · rw [g]
        cases j with
        | zero => have : x = y := by simpa using hy
                  omega
        | succ j => exact ih.first j y (by simpa using hy) (by omega)

/-- worth in parts, with k steps left -/
def later (w : World) : Nat → Later
  | 0 => fun _ _ _ _ => 0
  | k + 1 => fun p s l u => if (actsAt w p).isEmpty = true then 0 else bringI w.n (PARTS ^ k) (later w k) s l (actAt w p (firstMax (amounts w (PARTS ^ k) (later w k) p s l))) u

theorem powPos : ∀ k : Nat, 0 < PARTS ^ k
  | 0 => by decide
  | k + 1 => by rw [Int.pow_succ]; exact Int.mul_pos (powPos k) parts_pos

theorem amounts_ne {w : World} {S : Int} {X : Later} {p s : Nat} {l : Bool} (h : actsAt w p ≠ []) : amounts w S X p s l ≠ [] := by
  unfold amounts
  intro e
  exact h (List.map_eq_nil_iff.mp e)

theorem later_nil {w : World} {k p s : Nat} {l : Bool} {u : Nat} (h : actsAt w p = []) : later w (k + 1) p s l u = 0 := if_pos (by rw [h]; rfl)
theorem later_cons {w : World} {k p s : Nat} {l : Bool} {u : Nat} (h : actsAt w p ≠ []) :
    later w (k + 1) p s l u = bringI w.n (PARTS ^ k) (later w k) s l (actAt w p (firstMax (amounts w (PARTS ^ k) (later w k) p s l))) u :=
  if_neg (by rw [List.isEmpty_iff]; exact h)

theorem zeros_cell {w : World} {x : Stand} (hp : x.p < w.n) (hs : x.s < w.v) : (zeros w).getD (index w x) (none, []) = (none, (List.range w.v).map fun _ => (0, 1)) :=
  map_stands (f := fun _ => (none, (List.range w.v).map fun _ => (0, 1))) hp hs

theorem row_rep {w : World} (hw : Wf w) : ∀ k, RowRep w (rowAt w k) (PARTS ^ k) (later w k)
  | 0 => ⟨powPos 0, fun p s l u hp hs hu => by
      rw [rowAt_zero, zeros_cell (x := ⟨p, s, l⟩) hp hs, map_range hu]
      exact rep_zero (powPos 0)⟩
  | k + 1 => by
    have ih := row_rep hw k
    refine ⟨powPos _, fun p s l u hp hs hu => ?_⟩
    rw [rowAt_succ, nextRow_cell (x := ⟨p, s, l⟩) hp hs]
    by_cases h : actsAt w p = []
    · rw [cell_none h, map_range hu, later_nil h]
      exact rep_zero (powPos _)
    · obtain ⟨i, a, hi, hm, e⟩ := cell_some hw ih (l := l) hp hs h
      rw [e, map_range hu, later_cons h, ← hm.unique (firstMax_ok _ (amounts_ne h)), actAt_of hi, Int.pow_succ, Int.mul_comm (PARTS ^ k)]
      exact rep_bring hw ih (hw.act hp (List.mem_of_getElem? hi)) hs hu

theorem worth_rep {w : World} (hw : Wf w) {u p s k : Nat} {l : Bool} (hp : p < w.n) (hs : s < w.v) (hu : u < w.v) :
    Kp379.worth w u ⟨p, s, l⟩ k = fr (later w k p s l u) (PARTS ^ k) := rep_is ((row_rep hw k).rep p s l u hp hs hu)

theorem does_none {w : World} {p s k : Nat} {l : Bool} (hp : p < w.n) (hs : s < w.v) (h : actsAt w p = []) : Kp379.does w ⟨p, s, l⟩ (k + 1) = none := by
  unfold Kp379.does
  rw [rowAt_succ, nextRow_cell (x := ⟨p, s, l⟩) hp hs, cell_none h]

theorem does_zero {w : World} {p s : Nat} {l : Bool} (hp : p < w.n) (hs : s < w.v) : Kp379.does w ⟨p, s, l⟩ 0 = none := by
  unfold Kp379.does
  rw [rowAt_zero, zeros_cell (x := ⟨p, s, l⟩) hp hs]

theorem does_some {w : World} (hw : Wf w) {p s k : Nat} {l : Bool} (hp : p < w.n) (hs : s < w.v) (h : actsAt w p ≠ []) :
    Kp379.does w ⟨p, s, l⟩ (k + 1) = some (firstMax (amounts w (PARTS ^ k) (later w k) p s l)) := by
  unfold Kp379.does
  obtain ⟨i, a, hi, hm, e⟩ := cell_some hw (row_rep hw k) (l := l) hp hs h
  rw [rowAt_succ, nextRow_cell (x := ⟨p, s, l⟩) hp hs, e, hm.unique (firstMax_ok _ (amounts_ne h))]

theorem brings_rep {w : World} (hw : Wf w) {u p s k i : Nat} {l : Bool} {a : Act} (hp : p < w.n) (hs : s < w.v) (hu : u < w.v) (hi : (actsAt w p)[i]? = some a) :
    Kp379.brings w u ⟨p, s, l⟩ i (k + 1) = fr (bringI w.n (PARTS ^ k) (later w k) s l a u) (PARTS ^ (k + 1)) := by
  have r := rep_bring hw (row_rep hw k) (p := p) (l := l) (hw.act hp (List.mem_of_getElem? hi)) hs hu
  rw [Int.pow_succ, Int.mul_comm]
  unfold Kp379.brings
  rw [actAt_of hi]
  exact rep_is r

/-- the numbers of all of the greatest -/
def allMax (xs : List Int) : List Nat := match xs with
  | [] => []
  | _ :: _ => (List.range xs.length).filter fun i => xs.getD i 0 == xs.getD (firstMax xs) 0

theorem bests_is {w : World} (hw : Wf w) {p s k : Nat} {l : Bool} (hp : p < w.n) (hs : s < w.v) :
    Kp379.bests w ⟨p, s, l⟩ (k + 1) = allMax (amounts w (PARTS ^ k) (later w k) p s l) := by
  unfold Kp379.bests
  simp only [Nat.add_sub_cancel]
  by_cases h : actsAt w p = []
  · simp only [h, List.map_nil, best_nil, allMax, amounts]
  · obtain ⟨j, b, e, hb, hm⟩ := best_of (f := fun a => bring w (rowAt w k) ⟨p, s, l⟩ a s) (g := fun a => bringI w.n (PARTS ^ k) (later w k) s l a s) h (bring_lt hw (row_rep hw k) hp hs)
    simp only [e]
    have hm : FirstMax (amounts w (PARTS ^ k) (later w k) p s l) j := hm
    have hne := amounts_ne (S := PARTS ^ k) (X := later w k) (s := s) (l := l) h
    have e1 : allMax (amounts w (PARTS ^ k) (later w k) p s l) = (List.range (amounts w (PARTS ^ k) (later w k) p s l).length).filter fun i => (amounts w (PARTS ^ k) (later w k) p s l).getD i 0 == (amounts w (PARTS ^ k) (later w k) p s l).getD (firstMax (amounts w (PARTS ^ k) (later w k) p s l)) 0 := by
      unfold allMax
      cases q : amounts w (PARTS ^ k) (later w k) p s l with
      | nil => exact absurd q hne
      | cons _ _ => rfl
    rw [e1, ← hm.unique (firstMax_ok _ hne)]
    have ll : ((actsAt w p).map fun a => bring w (rowAt w k) ⟨p, s, l⟩ a s).length = (amounts w (PARTS ^ k) (later w k) p s l).length := by
      unfold amounts
      simp
    rw [ll]
    apply List.filter_congr
    intro i hi
    have hi' : i < (actsAt w p).length := by
      have := List.mem_range.mp hi
      unfold amounts at this
      simpa using this
    obtain ⟨c, hc⟩ : ∃ c, (actsAt w p)[i]? = some c := ⟨_, List.getElem?_eq_getElem hi'⟩
    have g1 : ((actsAt w p).map fun a => bring w (rowAt w k) ⟨p, s, l⟩ a s).getD i (0, 1) = bring w (rowAt w k) ⟨p, s, l⟩ c s := getD_of (by rw [List.getElem?_map, hc]; rfl)
    have g2 : (amounts w (PARTS ^ k) (later w k) p s l).getD i 0 = bringI w.n (PARTS ^ k) (later w k) s l c s := getD_of (by unfold amounts; rw [List.getElem?_map, hc]; rfl)
    have g3 : (amounts w (PARTS ^ k) (later w k) p s l).getD j 0 = bringI w.n (PARTS ^ k) (later w k) s l b s := getD_of (by unfold amounts; rw [List.getElem?_map, hb]; rfl)
    rw [g1, g2, g3, rep_same (rep_bring hw (row_rep hw k) (hw.act hp (List.mem_of_getElem? hc)) hs hs) (rep_bring hw (row_rep hw k) (hw.act hp (List.mem_of_getElem? hb)) hs hs)]
    rfl
end Sel

/-! The ideal, what stands behind k steps, who turns: over whole numbers of parts. -/
namespace Sel
open Kp340 Kp346
open Kp379 (World Act Stand actsAt actAt stands index behind mean bring bestIn nextRow rows rowAt zeros Row ideals after selves turnsAt does)

/-! ### the ideal -/
def idealAm (w : World) (u k : Nat) (X : Nat → Int) (p : Nat) : List Int := (actsAt w p).map fun a => a.pays.getD u 0 * PARTS * PARTS ^ k + meanI w.n a X
def idealI (w : World) (u : Nat) : Nat → Nat → Int
  | 0 => fun _ => 0
  | k + 1 => fun p => if (actsAt w p).isEmpty = true then 0 else (idealAm w u k (idealI w u k) p).getD (firstMax (idealAm w u k (idealI w u k) p)) 0
theorem ideals_succ (w : World) (u k : Nat) : ideals w u (k + 1) = (List.range w.n).map fun p => match bestIn ((actsAt w p).map fun a => add (ofInt (a.pays.getD u 0)) (mean w a fun q => (ideals w u k).getD q (0, 1))) with
      | none => (0, 1)
      | some b => b.2 := rfl
theorem ideal_rep {w : World} (hw : Wf w) {u : Nat} : ∀ k p, p < w.n → Rep ((ideals w u k).getD p (0, 1)) (idealI w u k p) (PARTS ^ k)
  | 0, p, hp => by
    have e : (ideals w u 0).getD p (0, 1) = (0, 1) := map_range (f := fun _ => ((0, 1) : Fr)) hp
    rw [e]
    exact rep_zero (powPos 0)
  | k + 1, p, hp => by
    have ih := ideal_rep hw (u := u) k
    rw [ideals_succ, map_range hp]
    have r : ∀ a ∈ actsAt w p, Rep (add (ofInt (a.pays.getD u 0)) (mean w a fun q => (ideals w u k).getD q (0, 1))) (a.pays.getD u 0 * PARTS * PARTS ^ k + meanI w.n a (idealI w u k)) (PARTS * PARTS ^ k) := fun a ha => by
      refine rep_add ?_ (rep_mean (hw.act hp ha) hw.n4 (powPos k) fun q hq => ih q hq)
      rw [Int.mul_assoc]
      exact rep_ofInt _ (Int.mul_pos parts_pos (powPos k))
    have es : PARTS ^ (k + 1) = PARTS * PARTS ^ k := by rw [Int.pow_succ, Int.mul_comm]
    by_cases h : actsAt w p = []
    · have e2 : idealI w u (k + 1) p = 0 := if_pos (by rw [h]; rfl)
      rw [e2]
      simp only [h, List.map_nil, best_nil]
      exact rep_zero (powPos _)
    · obtain ⟨j, b, e, hb, hm⟩ := best_of (f := fun a => add (ofInt (a.pays.getD u 0)) (mean w a fun q => (ideals w u k).getD q (0, 1))) (g := fun a => a.pays.getD u 0 * PARTS * PARTS ^ k + meanI w.n a (idealI w u k)) h
        (fun x hx y hy => rep_lt (r x hx) (r y hy))
      have hm : FirstMax (idealAm w u k (idealI w u k) p) j := hm
      have hne : idealAm w u k (idealI w u k) p ≠ [] := fun q => h (List.map_eq_nil_iff.mp q)
      have e2 : idealI w u (k + 1) p = (idealAm w u k (idealI w u k) p).getD (firstMax (idealAm w u k (idealI w u k) p)) 0 := if_neg (by rw [List.isEmpty_iff]; exact h)
      rw [e2, ← hm.unique (firstMax_ok _ hne), es]
      simp only [e]
      have g2 : (idealAm w u k (idealI w u k) p).getD j 0 = b.pays.getD u 0 * PARTS * PARTS ^ k + meanI w.n b (idealI w u k) := getD_of (by unfold idealAm; rw [List.getElem?_map, hb]; rfl)
      rw [g2]
      exact r b (List.mem_of_getElem? hb)
theorem ideal_is {w : World} (hw : Wf w) {u p k : Nat} (hp : p < w.n) : Kp379.ideal w u p k = fr (idealI w u k p) (PARTS ^ k) := rep_is (ideal_rep hw k p hp)
theorem short_is {w : World} (hw : Wf w) {p s k : Nat} {l : Bool} (hp : p < w.n) (hs : s < w.v) : Kp346.sub (Kp379.ideal w s p k) (Kp379.worth w s ⟨p, s, l⟩ k) = fr (idealI w s k p - later w k p s l s) (PARTS ^ k) :=
  rep_is (rep_sub (ideal_rep hw k p hp) ((row_rep hw k).rep p s l s hp hs hs))

/-! ### what's done -/
def doneI (w : World) (k : Nat) (z : Stand) : Option Nat := if (actsAt w z.p).isEmpty = true then none else some (firstMax (amounts w (PARTS ^ k) (later w k) z.p z.s z.locked))
theorem done_is {w : World} (hw : Wf w) {k : Nat} {z : Stand} (hp : z.p < w.n) (hs : z.s < w.v) : ((rowAt w (k + 1)).getD (index w z) (none, [])).1 = doneI w k z := by
  obtain ⟨p, s, l⟩ := z
  unfold doneI
  by_cases h : actsAt w p = []
  · rw [if_pos (by show (actsAt w p).isEmpty = true; rw [h]; rfl)]
    exact does_none hp hs h
  · rw [if_neg (by show ¬ (actsAt w p).isEmpty = true; rw [List.isEmpty_iff]; exact h)]
    exact does_some hw hp hs h
theorem turnsAt_is {w : World} (hw : Wf w) {s k : Nat} (hs : s < w.v) : turnsAt w s (k + 1) = (List.range w.n).filter fun p => match doneI w k ⟨p, s, false⟩ with
    | none => false
    | some a => (actAt w p a).turn != 0 && (actAt w p a).turn - 1 != s := by
  unfold turnsAt
  apply List.filter_congr
  intro p hp
  have hp' : p < w.n := List.mem_range.mp hp
  simp only [done_is hw (z := ⟨p, s, false⟩) hp' hs]
  cases doneI w k ⟨p, s, false⟩ <;> rfl

/-! ### how likely it stands how -/
abbrev Dist := Nat → Nat → Bool → Int
/-- from z to y, with k + 1 steps left, by parts of PARTS -/
def flowI (w : World) (k : Nat) (z y : Stand) : Int := match doneI w k z with
  | none => if z = y then PARTS else 0
  | some a => if behind z (actAt w z.p a) y.p = y then (((actAt w z.p a).to.getD y.p 0 : Nat) : Int) * shareI (actAt w z.p a) else 0
def stepI (w : World) (k : Nat) (d : Stand → Int) (y : Stand) : Int := ((stands w).map fun z => d z * flowI w k z y).sum
def startI (x : Stand) : Stand → Int := fun y => if y = x then 1 else 0
/-- behind t of k steps -/
def afterI (w : World) (x : Stand) (k : Nat) : Nat → Stand → Int
  | 0 => startI x
  | t + 1 => stepI w (k - t - 1) (afterI w x k t)
def afterF (w : World) (x : Stand) (k : Nat) (t : Nat) : List Fr := (List.range t).foldl (fun (d : List Fr) (t : Nat) => let r := (rows w k).getD (k - t) []
    (stands w).map fun y => sumF ((stands w).map fun z => let c := d.getD (index w z) (0, 1)
      if c.1 = 0 then (0, 1) else match (r.getD (index w z) (none, [])).1 with
        | none => if z = y then c else (0, 1)
        | some a => let e := actAt w z.p a
          if behind z e y.p = y ∧ e.to.getD y.p 0 ≠ 0 then mul c (Kp346.share e.to y.p) else (0, 1))) ((stands w).map fun y => if y = x then (1, 1) else (0, 1))
theorem after_F (w : World) (x : Stand) (k : Nat) : after w x k = afterF w x k k := rfl
theorem afterF_succ (w : World) (x : Stand) (k t : Nat) : afterF w x k (t + 1) = (stands w).map fun y => sumF ((stands w).map fun z =>
      if ((afterF w x k t).getD (index w z) (0, 1)).1 = 0 then (0, 1) else match (((rows w k).getD (k - t) []).getD (index w z) (none, [])).1 with
        | none => if z = y then (afterF w x k t).getD (index w z) (0, 1) else (0, 1)
        | some a => if behind z (actAt w z.p a) y.p = y ∧ (actAt w z.p a).to.getD y.p 0 ≠ 0 then mul ((afterF w x k t).getD (index w z) (0, 1)) (Kp346.share (actAt w z.p a).to y.p) else (0, 1)) := by
  unfold afterF
  rw [List.range_succ, List.foldl_append]
  rfl
theorem rows_get (w : World) {k j : Nat} (h : j ≤ k) : (rows w k).getD j [] = rowAt w j := by
  rw [rows_is, map_range (by omega)]
theorem after_rep {w : World} (hw : Wf w) (x : Stand) (k : Nat) : ∀ t, t ≤ k → ∀ y, y.p < w.n → y.s < w.v → Rep ((afterF w x k t).getD (index w y) (0, 1)) (afterI w x k t y) (PARTS ^ t)
  | 0, _, y, hp, hs => by
    have e : (afterF w x k 0).getD (index w y) (0, 1) = if y = x then (1, 1) else (0, 1) := map_stands (f := fun y => if y = x then ((1, 1) : Fr) else (0, 1)) hp hs
    rw [e]
    show Rep _ (if y = x then 1 else 0) _
    by_cases c : y = x
    · rw [if_pos c, if_pos c]
      exact rep_one (powPos 0)
    · rw [if_neg c, if_neg c]
      exact rep_zero (powPos 0)
  | t + 1, ht, y, hp, hs => by
    have ih := after_rep hw x k t (by omega)
    obtain ⟨m, hm⟩ : ∃ m, k - t = m + 1 := ⟨k - t - 1, by omega⟩
    have em : k - t - 1 = m := by omega
    rw [afterF_succ, map_stands hp hs]
    show Rep _ (stepI w (k - t - 1) (afterI w x k t) y) _
    rw [em]
    unfold stepI
    refine rep_sumF (powPos _) fun z hz => ?_
    obtain ⟨zp, zs⟩ := stands_mem.mp hz
    have rz := ih z zp zs
    have pos := powPos (t + 1)
    by_cases c0 : ((afterF w x k t).getD (index w z) (0, 1)).1 = 0
    · rw [if_pos c0, (rep_isZero rz).mp c0, Int.zero_mul]
      exact rep_zero pos
    · rw [if_neg c0, rows_get w (by omega), hm, done_is hw zp zs]
      unfold flowI
      cases hd : doneI w m z with
      | none =>
        simp only
        by_cases c : z = y
        · rw [if_pos c, if_pos c, Int.pow_succ]
          exact rep_scale rz parts_pos
        · rw [if_neg c, if_neg c, Int.mul_zero]
          exact rep_zero pos
      | some a =>
        simp only
        have hact : ∃ x, (actsAt w z.p)[a]? = some x := by
          unfold doneI at hd
          by_cases c : (actsAt w z.p).isEmpty = true
          · rw [if_pos c] at hd; cases hd
          · rw [if_neg c] at hd
            have hne : actsAt w z.p ≠ [] := fun q => c (by rw [q]; rfl)
            have ea := Option.some.inj hd
            have fm := firstMax_ok _ (amounts_ne (S := PARTS ^ m) (X := later w m) (s := z.s) (l := z.locked) hne)
            have hl := fm.lt
            rw [ea] at hl
            unfold amounts at hl
            rw [List.length_map] at hl
            exact ⟨_, List.getElem?_eq_getElem hl⟩
        obtain ⟨e, he⟩ := hact
        rw [actAt_of he]
        have ok := hw.act zp (List.mem_of_getElem? he)
        by_cases cb : behind z e y.p = y
        · by_cases cw : e.to.getD y.p 0 = 0
          · rw [if_neg (fun q => q.2 cw), if_pos cb, cw]
            have : afterI w x k t z * (((0 : Nat) : Int) * shareI e) = 0 := by simp
            rw [this]
            exact rep_zero pos
          · rw [if_pos ⟨cb, cw⟩, if_pos cb, Int.pow_succ]
            exact rep_mul rz (rep_share ok hw.n4 y.p)
        · rw [if_neg (fun q => cb q.1), if_neg cb, Int.mul_zero]
          exact rep_zero pos
/-- no stand stands twice -/
theorem stands_nodup (w : World) : (stands w).Nodup := by
  unfold stands
  rw [List.nodup_iff_pairwise_ne, List.pairwise_flatMap]
  refine ⟨fun p _ => ?_, ?_⟩
  · rw [List.pairwise_flatMap]
    refine ⟨fun s _ => ?_, ?_⟩
    · simp
    · refine List.Pairwise.imp ?_ (List.nodup_iff_pairwise_ne.mp List.nodup_range)
      intro a b hab x hx y hy e
      subst e
      simp only [List.mem_cons, List.not_mem_nil, or_false] at hx hy
      apply hab
      rcases hx with rfl | rfl <;> rcases hy with h | h <;> (injection h)
  · refine List.Pairwise.imp ?_ (List.nodup_iff_pairwise_ne.mp List.nodup_range)
    intro a b hab x hx y hy e
    subst e
    obtain ⟨s, _, hx⟩ := List.mem_flatMap.mp hx
    obtain ⟨t, _, hy⟩ := List.mem_flatMap.mp hy
    simp only [List.mem_cons, List.not_mem_nil, or_false] at hx hy
    apply hab
    rcases hx with rfl | rfl <;> rcases hy with h | h <;> (injection h)
theorem stands_inj {w : World} {i j : Nat} {y : Stand} (h1 : (stands w)[i]? = some y) (h2 : (stands w)[j]? = some y) : i = j := by
  obtain ⟨a1, a2⟩ := List.getElem?_eq_some_iff.mp h1
  obtain ⟨b1, b2⟩ := List.getElem?_eq_some_iff.mp h2
  exact (List.getElem_inj (stands_nodup w)).mp (a2.trans b2.symm)
theorem after_is {w : World} (hw : Wf w) (x : Stand) (k : Nat) : after w x k = (stands w).map fun y => fr (afterI w x k k y) (PARTS ^ k) := by
  rw [after_F]
  have hl : (afterF w x k k).length = (stands w).length := by
    cases k with
    | zero => unfold afterF; simp
    | succ t => rw [afterF_succ, List.length_map]
  apply List.ext_getElem?
  intro i
  rw [List.getElem?_map]
  by_cases h : i < (stands w).length
  · have hy := List.getElem?_eq_getElem h
    obtain ⟨yp, ys⟩ := stands_mem.mp (List.mem_of_getElem? hy)
    have hi : index w (stands w)[i] = i := by
      have h1 := stands_get (w := w) yp ys
      exact stands_inj h1 hy
    have r := after_rep hw x k k (Nat.le_refl _) _ yp ys
    rw [hi] at r
    have e := rep_is r
    rw [hy, List.getElem?_eq_getElem (by rw [hl]; exact h)]
    rw [List.getD_eq_getElem?_getD, List.getElem?_eq_getElem (by rw [hl]; exact h)] at e
    exact congrArg some e
  · rw [List.getElem?_eq_none (by omega), List.getElem?_eq_none (by omega)]
    rfl
/-- how likely it's who -/
theorem selves_is {w : World} (hw : Wf w) (x : Stand) (k : Nat) : selves w x k = (List.range w.v).map fun s => fr (((stands w).map fun y => if y.s = s then afterI w x k k y else 0).sum) (PARTS ^ k) := by
  unfold selves
  apply List.map_congr_left
  intro s _
  refine rep_is (rep_sumF (powPos k) fun y hy => ?_)
  obtain ⟨yp, ys⟩ := stands_mem.mp hy
  by_cases c : y.s = s
  · rw [if_pos c, if_pos c]
    exact after_rep hw x k k (Nat.le_refl _) y yp ys
  · rw [if_neg c, if_neg c]
    exact rep_zero (powPos k)
end Sel

/-! Ways from a stand, the chances one step on, the places where a self turns: over any outlook. -/
namespace Sel
open Kp340 Kp346
open Kp379 (World Act Stand actsAt actAt stands index behind mean bring bestIn nextRow rows rowAt zeros Row ideals after selves turnsAt does)
/-- what's done, by any outlook -/
def doneX (w : World) (S : Int) (X : Later) (z : Stand) : Option Nat := if (actsAt w z.p).isEmpty = true then none else some (firstMax (amounts w S X z.p z.s z.locked))
theorem doneX_is (w : World) (k : Nat) (z : Stand) : doneX w (PARTS ^ k) (later w k) z = doneI w k z := rfl
def waysA (n : Nat) (a : Act) (z : Stand) : List (Stand × Int) := (List.range n).map fun q => (behind z a q, ((a.to.getD q 0 : Nat) : Int) * shareI a)
def waysI (w : World) (S : Int) (X : Later) (z : Stand) : List (Stand × Int) := if (actsAt w z.p).isEmpty = true then [(z, PARTS)] else waysA w.n (actAt w z.p (firstMax (amounts w S X z.p z.s z.locked))) z
def wsum (l : List (Stand × Int)) (y : Stand) : Int := (l.map fun c => if c.1 = y then c.2 else 0).sum
theorem sum_snoc (l : List Int) (x : Int) : (l ++ [x]).sum = l.sum + x := by
  rw [List.sum_append]
  simp
theorem sum_pick {f : Nat → Stand} (hf : ∀ q, (f q).p = q) (c : Nat → Int) (y : Stand) : ∀ n, ((List.range n).map fun q => if f q = y then c q else 0).sum = if y.p < n ∧ f y.p = y then c y.p else 0
  | 0 => by
    rw [if_neg (fun h => by have := h.1; omega)]
    rfl
  | n + 1 => by
    rw [List.range_succ, List.map_append, List.map_cons, List.map_nil, sum_snoc, sum_pick hf c y n]
    by_cases h : f n = y
    · have e : y.p = n := by rw [← h]; exact hf n
      rw [if_neg (fun q => by have := q.1; omega), if_pos h, if_pos ⟨by omega, by rw [e]; exact h⟩, e, Int.zero_add]
    · rw [if_neg h, Int.add_zero]
      by_cases h2 : y.p < n ∧ f y.p = y
      · rw [if_pos h2, if_pos ⟨by omega, h2.2⟩]
      · rw [if_neg h2, if_neg]
        intro q
        rcases Nat.lt_or_ge y.p n with l | l
        · exact h2 ⟨l, q.2⟩
        · have e : y.p = n := by omega
          rw [e] at q
          exact h q.2
theorem wsum_flow {w : World} {k : Nat} {z y : Stand} (hy : y.p < w.n) : wsum (waysI w (PARTS ^ k) (later w k) z) y = flowI w k z y := by
  unfold waysI flowI doneI
  by_cases h : (actsAt w z.p).isEmpty = true
  · rw [if_pos h, if_pos h]
    show (if z = y then PARTS else 0) + 0 = _
    rw [Int.add_zero]
  · rw [if_neg h, if_neg h]
    simp only
    generalize actAt w z.p (firstMax (amounts w (PARTS ^ k) (later w k) z.p z.s z.locked)) = a
    unfold wsum waysA
    rw [List.map_map]
    have e := sum_pick (f := fun q => behind z a q) (fun _ => rfl) (fun q => ((a.to.getD q 0 : Nat) : Int) * shareI a) y w.n
    refine Eq.trans e ?_
    by_cases c : behind z a y.p = y
    · rw [if_pos ⟨hy, c⟩, if_pos c]
    · rw [if_neg (fun q => c q.2), if_neg c]
/-- one step on, by any outlook -/
def stepX (w : World) (S : Int) (X : Later) (d : Stand → Int) (y : Stand) : Int := ((stands w).map fun z => d z * wsum (waysI w S X z) y).sum
theorem stepX_is {w : World} {k : Nat} {d : Stand → Int} {y : Stand} (hy : y.p < w.n) : stepX w (PARTS ^ k) (later w k) d y = stepI w k d y := by
  unfold stepX stepI
  simp only [wsum_flow hy]
/-- where a self turns, by any outlook -/
def turnX (w : World) (S : Int) (X : Later) (s : Nat) : List Nat := (List.range w.n).filter fun p => match doneX w S X ⟨p, s, false⟩ with
    | none => false
    | some a => selfB (actAt w p a) s false != s
theorem turnX_is {w : World} (hw : Wf w) {s k : Nat} (hs : s < w.v) : turnsAt w s (k + 1) = turnX w (PARTS ^ k) (later w k) s := by
  rw [turnsAt_is hw hs]
  unfold turnX
  apply List.filter_congr
  intro p _
  rw [doneX_is]
  cases doneI w k ⟨p, s, false⟩ with
  | none => rfl
  | some a =>
    simp only
    unfold selfB
    generalize (actAt w p a).turn = t
    by_cases c : t = 0
    · subst c
      simp
    · have e : (t == 0) = false := beq_false_of_ne c
      rw [e, Bool.false_or]
      have e2 : (t != 0) = true := by simp [c]
      rw [e2, Bool.true_and]
      simp
/-- the most that the acts ideally bring -/
def idealRow (n : Nat) (S : Int) (u : Nat) (Y : Nat → Int) (xs : List Act) : List Int := xs.map fun a => a.pays.getD u 0 * PARTS * S + meanI n a Y
def mostI (n : Nat) (S : Int) (u : Nat) (Y : Nat → Int) (xs : List Act) : Int := if xs.isEmpty = true then 0 else (idealRow n S u Y xs).getD (firstMax (idealRow n S u Y xs)) 0
theorem mostI_is (w : World) (u k p : Nat) : idealI w u (k + 1) p = mostI w.n (PARTS ^ k) u (idealI w u k) (actsAt w p) := rfl
end Sel

set_option maxRecDepth 100000
set_option maxHeartbeats 2000000
/-! The pairs of a dict whose keys are tuples, walked; one item of a list, changed by an operator. -/
namespace Sel
open PySem PySem.Spec PyProof.Rows L2
/-- what the heap holds of a dict of tuple keys while it is locked -/
structure LockedT (H : Hp) (h : Heap) (d : Addr) (o : Obj) (kvs : List (List Key × V)) (rows : Array DictEntry) (ep : Nat) : Prop where
  mods : (d == sysModules) = false
  here : h.get? d = some o
  exact_ : o.ExactDict
  cont : o.data = .dict rows ep
  size : rows.size = kvs.length
  row : ∀ (n : Nat) (key : List Key) (x : V), kvs[n]? = some (key, x) → ∃ (r : DictEntry) (a : Addr), rows[n]? = some r ∧ r.key = .ref a ∧ H a = some (.tup (key.map kV)) ∧ RelV x r.val
theorem LockedT.raw {H : Hp} {h : Heap} {d : Addr} {o : Obj} {kvs : List (List Key × V)} {rows : Array DictEntry} {ep : Nat} (l : LockedT H h d o kvs rows ep) : DT.Raw h d rows ep := ⟨o, l.here, l.exact_, l.cont⟩
theorem lockedT {X : Cx} {pins : List (Addr × Obj)} {σ : L2.St} {H : Hp} {s : Shared} {d : Addr} {o : Obj} {kvs : List (List Key × V)} (inv : Inv X pins σ H s) (locked : H d = some (.frz o (.dT kvs))) : ∃ rows ep, LockedT H s.heap d o kvs rows ep := by
  have all := inv.hok d (.frz o (.dT kvs)) locked
  obtain ⟨here, _, mods, ents, like, o2, rows, ep, here2, ex, cont, listed, _⟩ := all
  have same : o2 = o := Option.some.inj (here2.symm.trans here)
  subst same
  refine ⟨rows, ep, mods, here, ex, cont, (size_of_entries listed).trans (Paired.length like).symm, fun n key x at_n => ?_⟩
  obtain ⟨ent, ent_n, _, tup, val⟩ := paired_get like at_n
  have row_n := entry_at listed n
  rw [ent_n] at row_n
  exact ⟨_, ent.2.1, row_n, rfl, tup, val⟩
/-- each pair is a new tuple of the key's own tuple and the value -/
def IttT (d : Addr) (o : Obj) (kvs : List (List Key × V)) : It where
  go n H := H d = some (.frz o (.dT kvs)) ∧ n < kvs.length
  yld n H x H' := ∃ (T : Addr) (key : List Key) (v : V) (q : Addr), kvs[n]? = some (key, v) ∧ x = .ref T ∧ H T = none ∧ H q = some (.tup (key.map kV)) ∧ H' = upd H T (.tup [.ref q, v])
  stop n H := H d = some (.frz o (.dT kvs)) ∧ kvs.length ≤ n
/-- where the iterator stands -/
def ItAt (it d : Addr) (m ep : Nat) (n : Nat) (h : Heap) : Prop := ∃ key val, IsItemIter h it d n m ep key val
theorem turn_itemsT {P : Program} {w : World} {K : PySem.W.Frag} {d : Addr} {o : Obj} {rows : Array DictEntry} {ep : Nat} {kvs : List (List Key × V)} {names : List Expr} {kk : Nat} {tpos : Pos} (it : Addr) (cont : o.data = .dict rows ep) :
    Turn P w K (.Tuple names kk tpos) (IttT d o kvs) [it] it (ItAt it d kvs.length ep) where
  mem := List.mem_singleton.mpr rfl
  obj := by
    rintro n h ⟨key, val, there⟩ a ha
    rw [List.mem_singleton.mp ha]
    exact ⟨_, there, fun _ no => nomatch no⟩
  keep := by
    rintro n h h' ⟨key, val, there⟩ stays
    exact ⟨key, val, stays it (List.mem_singleton.mpr rfl) _ there⟩
  item := by
    rintro X rfl rfl rfl calm n pins s σ H E inv free ⟨key0, val0, there⟩ ⟨locked, hn⟩
    obtain ⟨rows2, ep2, lk⟩ := lockedT inv locked
    obtain ⟨rfl, rfl⟩ := dict_ep cont lk.cont
    have hn' : n < rows2.size := lk.size ▸ hn
    obtain ⟨r, q, hrow, rkey, tup, rval⟩ := lk.row n kvs[n].1 kvs[n].2 (List.getElem?_eq_getElem hn)
    have er : rows2[n] = r := Option.some.inj ((Array.getElem?_eq_getElem hn').symm.trans hrow)
    rw [← lk.size] at there
    have old : it < s.heap.objs.size := Heap.lt_size there
    refine DT.nextI there lk.raw hn' fun h1 out new1 _ rest1 => ⟨_, rfl, wpAny_letOwnedTupleGo_items (s := { s with heap := h1 }) out fun h2 there2 rest2 => ?_⟩
    have new2 : h2.get? s.heap.objs.size = some { cls := .type "tuple", data := .seq #[.ref q, r.val] } := by
      rw [rest2.2 _ (Nat.ne_of_gt old), new1, er, rkey]
    have okT : ObjOk X.prog X.w (upd H s.heap.objs.size (.tup [.ref q, kvs[n].2])) h2 s.heap.objs.size (.tup [.ref q, kvs[n].2]) :=
      ⟨by show 2 ≤ sizeLine; decide, [.ref q, r.val], .cons rfl (.cons rval .nil), _, new2, rfl, _, rfl⟩
    have keeps : ∀ a ob, a ∉ [it] → s.heap.get? a = some ob → h2.get? a = some ob := fun a ob na ea => by
      have ne : a ≠ it := fun e => na (List.mem_singleton.mpr e)
      exact (rest2.2 a ne).trans (rest1 a ob ne ea)
    have inv2 : Inv X pins σ (upd H s.heap.objs.size (.tup [.ref q, kvs[n].2])) { s with heap := h2 } := inv.turnedNew (t' := s.toks) keeps free (Nat.le_refl _) okT
    refine ⟨.ref s.heap.objs.size, _, inv2, rfl, ⟨_, kvs[n].1, kvs[n].2, q, List.getElem?_eq_getElem hn, rfl, inv.hok.fresh (Nat.le_refl _), tup, rfl⟩, ⟨rows2[n].key, rows2[n].val, lk.size ▸ there2⟩, fun a ha => ?_⟩
    rw [List.mem_singleton.mp ha, upd_ne (fun e => Nat.lt_irrefl _ (e ▸ old))]
    exact (free it (List.mem_singleton.mpr rfl)).1
  done := by
    rintro X rfl rfl rfl calm n pins s σ H E inv free ⟨key0, val0, there⟩ ⟨locked, hn⟩
    obtain ⟨rows2, ep2, lk⟩ := lockedT inv locked
    obtain ⟨rfl, rfl⟩ := dict_ep cont lk.cont
    rw [← lk.size] at there
    have fr := free it (List.mem_singleton.mpr rfl)
    refine DT.endI (inv.ok.hd calm) there lk.raw (lk.size ▸ hn) fun h1 rest => ⟨rfl, ?_⟩
    exact inv.turned (t' := s.toks) rest fr.1 fr.2.1 fr.2.2.2.1 fr.2.2.2.2.1 fr.2.2.2.2.2
  self := by
    rintro A n s Q E ⟨_, _, there⟩ q
    exact PySem.W.kcp_self there q
def iItemsT (td : TE) : TI := fun σ H R => td σ H fun x H1 => ∃ d o kvs, x = .ref d ∧ H1 d = some (.frz o (.dT kvs)) ∧ R (IttT d o kvs) H1
theorem pi_itemsT {X : Cx} {e : Expr} {td : TE} {apos cpos : Pos} {names : List Expr} {kk : Nat} {tpos : Pos} (he : PE X e td) (hb : attributeBase e "items" X.env (eval e X.env) = eval e X.env := by rfl) (hl : (apos.endLine == cpos.line) = true := by rfl) :
    PI X (.Tuple names kk tpos) (.Call (.Attribute e "items" apos) [] [] cpos) (iItemsT td) := by
  constructor
  intro pins s σ H R inv h
  refine wpAny_Call_method (id := "dict.items") hb rfl hl F.plainAttrs_dict F.slot_dict_items F.type_dict_items (thn (he.run pins s σ H _ inv h) ?_)
  rintro u s1 ⟨x, H1, inv1, rel, d, o, kvs, rfl, locked, q⟩
  cases rel
  obtain ⟨rows, ep, lk⟩ := lockedT inv1 locked
  have own : ∀ a, Value.ref d = Value.ref a → ∃ ob, s1.heap.get? a = some ob ∧ ob.dict = none := fun a ea => by
    cases ea
    exact ⟨o, lk.here, lk.exact_.2.1⟩
  refine ⟨lk.raw.typeIs, own, method_meetsIn F.slot_dict_items F.entry_dict_items rfl (PySem.evalArgs_none ⟨rfl, lk.raw.typeIs, F.args_dict_items_1 _, _, DT.meetsItems (es := rows) (ep := ep) lk.mods, lk.raw, ?_⟩)⟩
  refine DT.iterI (d := d) (es := rows) (ep := ep) ⟨_, Heap.get?_push_size _ rfl, rfl, rfl⟩ (lk.raw.push _) ?_
  refine pi_one (tk := s1.toks) (inv1.kept (t' := s1.toks) fun a ob ea => Heap.get?_push_of_some _ ea) _ (turn_itemsT _ lk.cont) ⟨.none, .none, ?_⟩ q
  show IsItemIter _ _ d 0 kvs.length ep .none .none
  rw [← lk.size]
  exact Heap.get?_push_size (s1.heap.push _) rfl
/-- xs[i] of a list, by values, 0 <= i -/
def rGetL (K : PySem.W.Frag) : V → V → Hp → VK → Prop := fun o i H Q => ∃ (p : Addr) (xs : List V) (j : Nat) (v : V), o = .ref p ∧ i = .int (j : Int) ∧ SqL K H p xs ∧ xs[j]? = some v ∧ Q v H
theorem get_list {X : Cx} : PGet X (rGetL X.K) := by
  rintro pins s σ H _ _ ov iv Q inv ro ri ⟨p, xs, j, v, rfl, rfl, sq, at_j, q⟩
  cases ro
  obtain ⟨_, rfl⟩ := ri
  obtain ⟨its, vals, plain, few⟩ := inv.list sq
  obtain ⟨u, u_j, ru⟩ := vals.get at_j
  have jl : j < xs.length := (List.getElem?_eq_some_iff.mp at_j).1
  have big := line63
  exact wpAny_getItem_list plain.isList (Int.natCast_nonneg j) (by omega) (x := u) (by simpa using u_j) ⟨v, H, inv, ru, q⟩
end Sel

set_option maxRecDepth 100000
set_option maxHeartbeats 2000000
/-! The text by places; the names by slot. Made by a program. -/
namespace Sel
open PySem PySem.Spec PyProof.Rows L2
def top (i : Nat) : Stmt := PySem.Challenge.pw_selveshelper_s01_answers.main.body.getD i (.Pass ⟨0, 0, 0, 0⟩)
abbrev s_Act_init : Stmt := inClass (top 1) 0
abbrev n_Act_init : List Str := ["self", "pays", "weights"]
theorem sc_Act_init : FnScope n_Act_init ["self", "pays", "weights"] (defScope s_Act_init) := ⟨rfl, rfl, rfl, by decide +kernel, rfl, by decide +kernel, by decide +kernel⟩
abbrev s_Board_init : Stmt := inClass (top 2) 0
abbrev n_Board_init : List Str := ["self"]
theorem sc_Board_init : FnScope n_Board_init ["self"] (defScope s_Board_init) := ⟨rfl, rfl, rfl, by decide +kernel, rfl, by decide +kernel, by decide +kernel⟩
abbrev s_is_begun : Stmt := top 3
abbrev n_is_begun : List Str := ["board"]
theorem sc_is_begun : FnScope n_is_begun ["board"] (defScope s_is_begun) := ⟨rfl, rfl, rfl, by decide +kernel, rfl, by decide +kernel, by decide +kernel⟩
abbrev s_has_place : Stmt := top 4
abbrev n_has_place : List Str := ["board", "place"]
theorem sc_has_place : FnScope n_has_place ["board", "place"] (defScope s_has_place) := ⟨rfl, rfl, rfl, by decide +kernel, rfl, by decide +kernel, by decide +kernel⟩
abbrev s_has_self : Stmt := top 5
abbrev n_has_self : List Str := ["board", "who"]
theorem sc_has_self : FnScope n_has_self ["board", "who"] (defScope s_has_self) := ⟨rfl, rfl, rfl, by decide +kernel, rfl, by decide +kernel, by decide +kernel⟩
abbrev s_has_act : Stmt := top 6
abbrev n_has_act : List Str := ["board", "place", "number"]
theorem sc_has_act : FnScope n_has_act ["board", "place", "number"] (defScope s_has_act) := ⟨rfl, rfl, rfl, by decide +kernel, rfl, by decide +kernel, by decide +kernel⟩
abbrev s_has_stand : Stmt := top 7
abbrev n_has_stand : List Str := ["board", "stand"]
theorem sc_has_stand : FnScope n_has_stand ["board", "stand"] (defScope s_has_stand) := ⟨rfl, rfl, rfl, by decide +kernel, rfl, by decide +kernel, by decide +kernel⟩
abbrev s_copy_of_act : Stmt := top 8
abbrev n_copy_of_act : List Str := ["act", "copied"]
theorem sc_copy_of_act : FnScope n_copy_of_act ["act"] (defScope s_copy_of_act) := ⟨rfl, rfl, rfl, by decide +kernel, rfl, by decide +kernel, by decide +kernel⟩
abbrev s_copies_of_acts : Stmt := top 9
abbrev n_copies_of_acts : List Str := ["acts", "act"]
theorem sc_copies_of_acts : FnScope n_copies_of_acts ["acts"] (defScope s_copies_of_acts) := ⟨rfl, rfl, rfl, by decide +kernel, rfl, by decide +kernel, by decide +kernel⟩
abbrev s_copy_of_board : Stmt := top 10
abbrev n_copy_of_board : List Str := ["board", "copied", "acts"]
theorem sc_copy_of_board : FnScope n_copy_of_board ["board"] (defScope s_copy_of_board) := ⟨rfl, rfl, rfl, by decide +kernel, rfl, by decide +kernel, by decide +kernel⟩
abbrev s_are_steps : Stmt := top 18
abbrev n_are_steps : List Str := ["steps", "least_steps"]
theorem sc_are_steps : FnScope n_are_steps ["steps", "least_steps"] (defScope s_are_steps) := ⟨rfl, rfl, rfl, by decide +kernel, rfl, by decide +kernel, by decide +kernel⟩
abbrev s_refusal_of_stand : Stmt := top 19
abbrev n_refusal_of_stand : List Str := ["board", "stand", "steps", "least_steps"]
theorem sc_refusal_of_stand : FnScope n_refusal_of_stand ["board", "stand", "steps", "least_steps"] (defScope s_refusal_of_stand) := ⟨rfl, rfl, rfl, by decide +kernel, rfl, by decide +kernel, by decide +kernel⟩
abbrev s_refusal_of_self : Stmt := top 20
abbrev n_refusal_of_self : List Str := ["board", "who", "steps", "least_steps"]
theorem sc_refusal_of_self : FnScope n_refusal_of_self ["board", "who", "steps", "least_steps"] (defScope s_refusal_of_self) := ⟨rfl, rfl, rfl, by decide +kernel, rfl, by decide +kernel, by decide +kernel⟩
abbrev s_common_divisor : Stmt := top 22
abbrev n_common_divisor : List Str := ["first", "second", "larger", "smaller", "rest"]
theorem sc_common_divisor : FnScope n_common_divisor ["first", "second"] (defScope s_common_divisor) := ⟨rfl, rfl, rfl, by decide +kernel, rfl, by decide +kernel, by decide +kernel⟩
abbrev s_lowest_terms : Stmt := top 23
abbrev n_lowest_terms : List Str := ["top", "bottom", "divisor"]
theorem sc_lowest_terms : FnScope n_lowest_terms ["top", "bottom"] (defScope s_lowest_terms) := ⟨rfl, rfl, rfl, by decide +kernel, rfl, by decide +kernel, by decide +kernel⟩
abbrev s_all_lowest_terms : Stmt := top 24
abbrev n_all_lowest_terms : List Str := ["tops", "bottom", "told", "top"]
theorem sc_all_lowest_terms : FnScope n_all_lowest_terms ["tops", "bottom"] (defScope s_all_lowest_terms) := ⟨rfl, rfl, rfl, by decide +kernel, rfl, by decide +kernel, by decide +kernel⟩
abbrev s_Outlook_init : Stmt := inClass (top 27) 0
abbrev n_Outlook_init : List Str := ["self", "scale", "worths"]
theorem sc_Outlook_init : FnScope n_Outlook_init ["self", "scale", "worths"] (defScope s_Outlook_init) := ⟨rfl, rfl, rfl, by decide +kernel, rfl, by decide +kernel, by decide +kernel⟩
abbrev s_all_stands : Stmt := top 28
abbrev n_all_stands : List Str := ["board", "stands", "place", "who"]
theorem sc_all_stands : FnScope n_all_stands ["board"] (defScope s_all_stands) := ⟨rfl, rfl, rfl, by decide +kernel, rfl, by decide +kernel, by decide +kernel⟩
abbrev s_self_behind : Stmt := top 29
abbrev n_self_behind : List Str := ["act", "who", "locked"]
theorem sc_self_behind : FnScope n_self_behind ["act", "who", "locked"] (defScope s_self_behind) := ⟨rfl, rfl, rfl, by decide +kernel, rfl, by decide +kernel, by decide +kernel⟩
abbrev s_lock_behind : Stmt := top 30
abbrev n_lock_behind : List Str := ["act", "locked"]
theorem sc_lock_behind : FnScope n_lock_behind ["act", "locked"] (defScope s_lock_behind) := ⟨rfl, rfl, rfl, by decide +kernel, rfl, by decide +kernel, by decide +kernel⟩
abbrev s_stands_behind : Stmt := top 31
abbrev n_stands_behind : List Str := ["act", "stand", "who", "locked", "share", "place", "weight"]
theorem sc_stands_behind : FnScope n_stands_behind ["act", "stand"] (defScope s_stands_behind) := ⟨rfl, rfl, rfl, by decide +kernel, rfl, by decide +kernel, by decide +kernel⟩
abbrev s_brought_by : Stmt := top 32
abbrev n_brought_by : List Str := ["act", "stand", "light", "later", "brought", "behind", "likely"]
theorem sc_brought_by : FnScope n_brought_by ["act", "stand", "light", "later"] (defScope s_brought_by) := ⟨rfl, rfl, rfl, by decide +kernel, rfl, by decide +kernel, by decide +kernel⟩
abbrev s_brought_for_itself : Stmt := top 33
abbrev n_brought_for_itself : List Str := ["board", "stand", "later", "act"]
theorem sc_brought_for_itself : FnScope n_brought_for_itself ["board", "stand", "later"] (defScope s_brought_for_itself) := ⟨rfl, rfl, rfl, by decide +kernel, rfl, by decide +kernel, by decide +kernel⟩
abbrev s_first_best : Stmt := top 34
abbrev n_first_best : List Str := ["amounts"]
theorem sc_first_best : FnScope n_first_best ["amounts"] (defScope s_first_best) := ⟨rfl, rfl, rfl, by decide +kernel, rfl, by decide +kernel, by decide +kernel⟩
abbrev s_all_bests : Stmt := top 35
abbrev n_all_bests : List Str := ["amounts", "most", "number", "amount"]
theorem sc_all_bests : FnScope n_all_bests ["amounts"] (defScope s_all_bests) := ⟨rfl, rfl, rfl, by decide +kernel, rfl, by decide +kernel, by decide +kernel⟩
abbrev s_act_done : Stmt := top 36
abbrev n_act_done : List Str := ["board", "stand", "later", "amounts"]
theorem sc_act_done : FnScope n_act_done ["board", "stand", "later"] (defScope s_act_done) := ⟨rfl, rfl, rfl, by decide +kernel, rfl, by decide +kernel, by decide +kernel⟩
abbrev s_worths_at : Stmt := top 37
abbrev n_worths_at : List Str := ["board", "stand", "later", "done", "light"]
theorem sc_worths_at : FnScope n_worths_at ["board", "stand", "later"] (defScope s_worths_at) := ⟨rfl, rfl, rfl, by decide +kernel, rfl, by decide +kernel, by decide +kernel⟩
abbrev s_no_steps_left : Stmt := top 38
abbrev n_no_steps_left : List Str := ["board", "worths", "stand"]
theorem sc_no_steps_left : FnScope n_no_steps_left ["board"] (defScope s_no_steps_left) := ⟨rfl, rfl, rfl, by decide +kernel, rfl, by decide +kernel, by decide +kernel⟩
abbrev s_one_step_more : Stmt := top 39
abbrev n_one_step_more : List Str := ["board", "later", "worths", "stand"]
theorem sc_one_step_more : FnScope n_one_step_more ["board", "later"] (defScope s_one_step_more) := ⟨rfl, rfl, rfl, by decide +kernel, rfl, by decide +kernel, by decide +kernel⟩
abbrev s_outlooks_up_to : Stmt := top 40
abbrev n_outlooks_up_to : List Str := ["board", "steps", "outlooks", "step"]
theorem sc_outlooks_up_to : FnScope n_outlooks_up_to ["board", "steps"] (defScope s_outlooks_up_to) := ⟨rfl, rfl, rfl, by decide +kernel, rfl, by decide +kernel, by decide +kernel⟩
abbrev s_outlook_with : Stmt := top 41
abbrev n_outlook_with : List Str := ["board", "steps"]
theorem sc_outlook_with : FnScope n_outlook_with ["board", "steps"] (defScope s_outlook_with) := ⟨rfl, rfl, rfl, by decide +kernel, rfl, by decide +kernel, by decide +kernel⟩
abbrev s_Ideals_init : Stmt := inClass (top 43) 0
abbrev n_Ideals_init : List Str := ["self", "scale", "amounts"]
theorem sc_Ideals_init : FnScope n_Ideals_init ["self", "scale", "amounts"] (defScope s_Ideals_init) := ⟨rfl, rfl, rfl, by decide +kernel, rfl, by decide +kernel, by decide +kernel⟩
abbrev s_ideally_brought : Stmt := top 44
abbrev n_ideally_brought : List Str := ["act", "light", "later", "share", "brought", "place", "weight"]
theorem sc_ideally_brought : FnScope n_ideally_brought ["act", "light", "later"] (defScope s_ideally_brought) := ⟨rfl, rfl, rfl, by decide +kernel, rfl, by decide +kernel, by decide +kernel⟩
abbrev s_most_brought : Stmt := top 45
abbrev n_most_brought : List Str := ["acts", "light", "later", "act"]
theorem sc_most_brought : FnScope n_most_brought ["acts", "light", "later"] (defScope s_most_brought) := ⟨rfl, rfl, rfl, by decide +kernel, rfl, by decide +kernel, by decide +kernel⟩
abbrev s_ideals_with : Stmt := top 46
abbrev n_ideals_with : List Str := ["board", "light", "steps", "ideals", "step", "amounts", "acts"]
theorem sc_ideals_with : FnScope n_ideals_with ["board", "light", "steps"] (defScope s_ideals_with) := ⟨rfl, rfl, rfl, by decide +kernel, rfl, by decide +kernel, by decide +kernel⟩
abbrev s_answer_does : Stmt := top 48
abbrev n_answer_does : List Str := ["board", "stand", "steps", "refusal"]
theorem sc_answer_does : FnScope n_answer_does ["board", "stand", "steps"] (defScope s_answer_does) := ⟨rfl, rfl, rfl, by decide +kernel, rfl, by decide +kernel, by decide +kernel⟩
abbrev s_answer_bests : Stmt := top 49
abbrev n_answer_bests : List Str := ["board", "stand", "steps", "refusal", "bests"]
theorem sc_answer_bests : FnScope n_answer_bests ["board", "stand", "steps"] (defScope s_answer_bests) := ⟨rfl, rfl, rfl, by decide +kernel, rfl, by decide +kernel, by decide +kernel⟩
abbrev s_answer_worth : Stmt := top 50
abbrev n_answer_worth : List Str := ["board", "light", "stand", "steps", "refusal", "outlook"]
theorem sc_answer_worth : FnScope n_answer_worth ["board", "light", "stand", "steps"] (defScope s_answer_worth) := ⟨rfl, rfl, rfl, by decide +kernel, rfl, by decide +kernel, by decide +kernel⟩
abbrev s_answer_brings : Stmt := top 51
abbrev n_answer_brings : List Str := ["board", "light", "stand", "number", "steps", "refusal", "later", "brought"]
theorem sc_answer_brings : FnScope n_answer_brings ["board", "light", "stand", "number", "steps"] (defScope s_answer_brings) := ⟨rfl, rfl, rfl, by decide +kernel, rfl, by decide +kernel, by decide +kernel⟩
abbrev s_answer_lights : Stmt := top 52
abbrev n_answer_lights : List Str := ["board", "stand", "steps", "refusal", "outlook"]
theorem sc_answer_lights : FnScope n_answer_lights ["board", "stand", "steps"] (defScope s_answer_lights) := ⟨rfl, rfl, rfl, by decide +kernel, rfl, by decide +kernel, by decide +kernel⟩
abbrev s_answer_ideal : Stmt := top 53
abbrev n_answer_ideal : List Str := ["board", "light", "place", "steps", "refusal", "ideals"]
theorem sc_answer_ideal : FnScope n_answer_ideal ["board", "light", "place", "steps"] (defScope s_answer_ideal) := ⟨rfl, rfl, rfl, by decide +kernel, rfl, by decide +kernel, by decide +kernel⟩
abbrev s_answer_short : Stmt := top 54
abbrev n_answer_short : List Str := ["board", "stand", "steps", "refusal", "outlook", "ideals"]
theorem sc_answer_short : FnScope n_answer_short ["board", "stand", "steps"] (defScope s_answer_short) := ⟨rfl, rfl, rfl, by decide +kernel, rfl, by decide +kernel, by decide +kernel⟩
abbrev s_answer_begin : Stmt := top 57
abbrev n_answer_begin : List Str := ["board", "places", "selves", "place"]
theorem sc_answer_begin : FnScope n_answer_begin ["board", "places", "selves"] (defScope s_answer_begin) := ⟨rfl, rfl, rfl, by decide +kernel, rfl, by decide +kernel, by decide +kernel⟩
abbrev s_are_pays : Stmt := top 58
abbrev n_are_pays : List Str := ["pays", "pay"]
theorem sc_are_pays : FnScope n_are_pays ["pays"] (defScope s_are_pays) := ⟨rfl, rfl, rfl, by decide +kernel, rfl, by decide +kernel, by decide +kernel⟩
abbrev s_are_weights : Stmt := top 59
abbrev n_are_weights : List Str := ["weights", "weight"]
theorem sc_are_weights : FnScope n_are_weights ["weights"] (defScope s_are_weights) := ⟨rfl, rfl, rfl, by decide +kernel, rfl, by decide +kernel, by decide +kernel⟩
abbrev s_answer_act : Stmt := top 60
abbrev n_answer_act : List Str := ["board", "place", "row", "pays", "weights", "number"]
theorem sc_answer_act : FnScope n_answer_act ["board", "place", "row"] (defScope s_answer_act) := ⟨rfl, rfl, rfl, by decide +kernel, rfl, by decide +kernel, by decide +kernel⟩
abbrev s_answer_unact : Stmt := top 61
abbrev n_answer_unact : List Str := ["board", "place", "number"]
theorem sc_answer_unact : FnScope n_answer_unact ["board", "place", "number"] (defScope s_answer_unact) := ⟨rfl, rfl, rfl, by decide +kernel, rfl, by decide +kernel, by decide +kernel⟩
abbrev s_answer_turn : Stmt := top 62
abbrev n_answer_turn : List Str := ["board", "place", "number", "into", "changed", "before"]
theorem sc_answer_turn : FnScope n_answer_turn ["board", "place", "number", "into"] (defScope s_answer_turn) := ⟨rfl, rfl, rfl, by decide +kernel, rfl, by decide +kernel, by decide +kernel⟩
abbrev s_answer_lock : Stmt := top 63
abbrev n_answer_lock : List Str := ["board", "place", "number", "locks", "changed", "before"]
theorem sc_answer_lock : FnScope n_answer_lock ["board", "place", "number", "locks"] (defScope s_answer_lock) := ⟨rfl, rfl, rfl, by decide +kernel, rfl, by decide +kernel, by decide +kernel⟩
abbrev s_answer_actis : Stmt := top 64
abbrev n_answer_actis : List Str := ["board", "place", "number", "told"]
theorem sc_answer_actis : FnScope n_answer_actis ["board", "place", "number"] (defScope s_answer_actis) := ⟨rfl, rfl, rfl, by decide +kernel, rfl, by decide +kernel, by decide +kernel⟩
abbrev s_answer_acts : Stmt := top 65
abbrev n_answer_acts : List Str := ["board", "place"]
theorem sc_answer_acts : FnScope n_answer_acts ["board", "place"] (defScope s_answer_acts) := ⟨rfl, rfl, rfl, by decide +kernel, rfl, by decide +kernel, by decide +kernel⟩
abbrev s_Chances_init : Stmt := inClass (top 67) 0
abbrev n_Chances_init : List Str := ["self", "scale", "parts"]
theorem sc_Chances_init : FnScope n_Chances_init ["self", "scale", "parts"] (defScope s_Chances_init) := ⟨rfl, rfl, rfl, by decide +kernel, rfl, by decide +kernel, by decide +kernel⟩
abbrev s_none_likely : Stmt := top 68
abbrev n_none_likely : List Str := ["board", "parts", "stand"]
theorem sc_none_likely : FnScope n_none_likely ["board"] (defScope s_none_likely) := ⟨rfl, rfl, rfl, by decide +kernel, rfl, by decide +kernel, by decide +kernel⟩
abbrev s_surely_at : Stmt := top 69
abbrev n_surely_at : List Str := ["board", "stand", "parts"]
theorem sc_surely_at : FnScope n_surely_at ["board", "stand"] (defScope s_surely_at) := ⟨rfl, rfl, rfl, by decide +kernel, rfl, by decide +kernel, by decide +kernel⟩
abbrev s_ways_from : Stmt := top 70
abbrev n_ways_from : List Str := ["board", "stand", "later", "done"]
theorem sc_ways_from : FnScope n_ways_from ["board", "stand", "later"] (defScope s_ways_from) := ⟨rfl, rfl, rfl, by decide +kernel, rfl, by decide +kernel, by decide +kernel⟩
abbrev s_one_step_on : Stmt := top 71
abbrev n_one_step_on : List Str := ["board", "chances", "later", "moved", "stand", "part", "behind", "likely"]
theorem sc_one_step_on : FnScope n_one_step_on ["board", "chances", "later"] (defScope s_one_step_on) := ⟨rfl, rfl, rfl, by decide +kernel, rfl, by decide +kernel, by decide +kernel⟩
abbrev s_chances_behind : Stmt := top 72
abbrev n_chances_behind : List Str := ["board", "stand", "steps", "outlooks", "chances", "later"]
theorem sc_chances_behind : FnScope n_chances_behind ["board", "stand", "steps"] (defScope s_chances_behind) := ⟨rfl, rfl, rfl, by decide +kernel, rfl, by decide +kernel, by decide +kernel⟩
abbrev s_turning_places : Stmt := top 73
abbrev n_turning_places : List Str := ["board", "who", "later", "found", "place", "done"]
theorem sc_turning_places : FnScope n_turning_places ["board", "who", "later"] (defScope s_turning_places) := ⟨rfl, rfl, rfl, by decide +kernel, rfl, by decide +kernel, by decide +kernel⟩
abbrev s_answer_after : Stmt := top 75
abbrev n_answer_after : List Str := ["board", "stand", "steps", "refusal", "chances", "other"]
theorem sc_answer_after : FnScope n_answer_after ["board", "stand", "steps"] (defScope s_answer_after) := ⟨rfl, rfl, rfl, by decide +kernel, rfl, by decide +kernel, by decide +kernel⟩
abbrev s_answer_selves : Stmt := top 76
abbrev n_answer_selves : List Str := ["board", "stand", "steps", "refusal", "chances", "likely", "other", "part"]
theorem sc_answer_selves : FnScope n_answer_selves ["board", "stand", "steps"] (defScope s_answer_selves) := ⟨rfl, rfl, rfl, by decide +kernel, rfl, by decide +kernel, by decide +kernel⟩
abbrev s_answer_turns : Stmt := top 77
abbrev n_answer_turns : List Str := ["board", "who", "steps", "refusal", "found"]
theorem sc_answer_turns : FnScope n_answer_turns ["board", "who", "steps"] (defScope s_answer_turns) := ⟨rfl, rfl, rfl, by decide +kernel, rfl, by decide +kernel, by decide +kernel⟩
abbrev s_answer_never : Stmt := top 78
abbrev n_answer_never : List Str := ["board", "who", "steps", "refusal", "later"]
theorem sc_answer_never : FnScope n_answer_never ["board", "who", "steps"] (defScope s_answer_never) := ⟨rfl, rfl, rfl, by decide +kernel, rfl, by decide +kernel, by decide +kernel⟩
abbrev s_Call_init : Stmt := inClass (top 101) 0
abbrev n_Call_init : List Str := ["self", "number", "given", "row", "end"]
theorem sc_Call_init : FnScope n_Call_init ["self", "number", "given", "row", "end"] (defScope s_Call_init) := ⟨rfl, rfl, rfl, by decide +kernel, rfl, by decide +kernel, by decide +kernel⟩
abbrev s_read_call : Stmt := top 102
abbrev n_read_call : List Str := ["calls", "start", "number", "end", "given", "row_end"]
theorem sc_read_call : FnScope n_read_call ["calls", "start"] (defScope s_read_call) := ⟨rfl, rfl, rfl, by decide +kernel, rfl, by decide +kernel, by decide +kernel⟩
abbrev s_split_calls : Stmt := top 103
abbrev n_split_calls : List Str := ["calls", "found", "start", "call"]
theorem sc_split_calls : FnScope n_split_calls ["calls"] (defScope s_split_calls) := ⟨rfl, rfl, rfl, by decide +kernel, rfl, by decide +kernel, by decide +kernel⟩
abbrev s_own_worth : Stmt := top 105
abbrev n_own_worth : List Str := ["board", "stand", "steps", "outlook"]
theorem sc_own_worth : FnScope n_own_worth ["board", "stand", "steps"] (defScope s_own_worth) := ⟨rfl, rfl, rfl, by decide +kernel, rfl, by decide +kernel, by decide +kernel⟩
abbrev s_answer_ifturn : Stmt := top 106
abbrev n_answer_ifturn : List Str := ["board", "place", "number", "into", "stand", "steps", "supposed", "changed"]
theorem sc_answer_ifturn : FnScope n_answer_ifturn ["board", "place", "number", "into", "stand", "steps"] (defScope s_answer_ifturn) := ⟨rfl, rfl, rfl, by decide +kernel, rfl, by decide +kernel, by decide +kernel⟩
abbrev s_is_one_pay : Stmt := top 107
abbrev n_is_one_pay : List Str := ["row"]
theorem sc_is_one_pay : FnScope n_is_one_pay ["row"] (defScope s_is_one_pay) := ⟨rfl, rfl, rfl, by decide +kernel, rfl, by decide +kernel, by decide +kernel⟩
abbrev s_answer_ifpay : Stmt := top 108
abbrev n_answer_ifpay : List Str := ["board", "place", "number", "light", "stand", "steps", "row", "supposed", "changed"]
theorem sc_answer_ifpay : FnScope n_answer_ifpay ["board", "place", "number", "light", "stand", "steps", "row"] (defScope s_answer_ifpay) := ⟨rfl, rfl, rfl, by decide +kernel, rfl, by decide +kernel, by decide +kernel⟩
abbrev s_answer_about_acts : Stmt := top 110
abbrev n_answer_about_acts : List Str := ["board", "call", "given"]
theorem sc_answer_about_acts : FnScope n_answer_about_acts ["board", "call"] (defScope s_answer_about_acts) := ⟨rfl, rfl, rfl, by decide +kernel, rfl, by decide +kernel, by decide +kernel⟩
abbrev s_answer_by_lights : Stmt := top 111
abbrev n_answer_by_lights : List Str := ["board", "call", "given"]
theorem sc_answer_by_lights : FnScope n_answer_by_lights ["board", "call"] (defScope s_answer_by_lights) := ⟨rfl, rfl, rfl, by decide +kernel, rfl, by decide +kernel, by decide +kernel⟩
abbrev s_answer_about_stands : Stmt := top 112
abbrev n_answer_about_stands : List Str := ["board", "call", "stand", "steps"]
theorem sc_answer_about_stands : FnScope n_answer_about_stands ["board", "call"] (defScope s_answer_about_stands) := ⟨rfl, rfl, rfl, by decide +kernel, rfl, by decide +kernel, by decide +kernel⟩
abbrev s_answer_about_turning : Stmt := top 113
abbrev n_answer_about_turning : List Str := ["board", "call", "given", "stand"]
theorem sc_answer_about_turning : FnScope n_answer_about_turning ["board", "call"] (defScope s_answer_about_turning) := ⟨rfl, rfl, rfl, by decide +kernel, rfl, by decide +kernel, by decide +kernel⟩
abbrev s_answer_call : Stmt := top 114
abbrev n_answer_call : List Str := ["board", "call"]
theorem sc_answer_call : FnScope n_answer_call ["board", "call"] (defScope s_answer_call) := ⟨rfl, rfl, rfl, by decide +kernel, rfl, by decide +kernel, by decide +kernel⟩
abbrev s_answers : Stmt := top 115
abbrev n_answers : List Str := ["calls", "board", "told", "call", "answer"]
theorem sc_answers : FnScope n_answers ["calls"] (defScope s_answers) := ⟨rfl, rfl, rfl, by decide +kernel, rfl, by decide +kernel, by decide +kernel⟩
end Sel

set_option maxRecDepth 100000
set_option maxHeartbeats 2000000
/-! max(xs, default=d) of a list of whole numbers, by values: over the library's max_list_datum_default. -/
namespace Sel
open PySem PySem.Spec PyProof.Rows L2
theorem maxOf_int : ∀ (xs : List Int) (x : Int), PySem.W.maxOf x xs ∈ x :: xs ∧ ∀ a ∈ x :: xs, a ≤ PySem.W.maxOf x xs
  | [], x => ⟨List.Mem.head _, fun a ha => by rw [List.mem_singleton.mp ha]; exact Int.le_refl _⟩
  | y :: r, x => by
    have e : PySem.W.maxOf x (y :: r) = PySem.W.maxOf (if decide (x < y) = true then y else x) r := rfl
    obtain ⟨h1, h2⟩ := maxOf_int r (if decide (x < y) = true then y else x)
    rw [e]
    generalize PySem.W.maxOf (if decide (x < y) = true then y else x) r = m at *
    have top : x ≤ (if decide (x < y) = true then y else x) ∧ y ≤ (if decide (x < y) = true then y else x) := by
      by_cases c : x < y
      · rw [if_pos (decide_eq_true c)]; omega
      · rw [if_neg (by rw [decide_eq_false c]; decide)]; omega
    have big := h2 _ (List.Mem.head _)
    refine ⟨?_, fun a ha => ?_⟩
    · rcases List.mem_cons.mp h1 with h | h
      · rw [h]
        split
        · exact List.Mem.tail _ (List.Mem.head _)
        · exact List.Mem.head _
      · exact List.Mem.tail _ (List.Mem.tail _ h)
    · rcases List.mem_cons.mp ha with h | h
      · rw [h]; omega
      · rcases List.mem_cons.mp h with h | h
        · rw [h]; omega
        · exact h2 a (List.Mem.tail _ h)
theorem holdInts {h : Heap} : ∀ {vs : List Value} {ns : List Int}, IntsAre vs ns → PySem.W.HoldAll h vs ns
  | _, _, .nil => .nil
  | _, _, .cons n t r => .cons ⟨_, .int n t⟩ (holdInts r)
def rMaxD (K : PySem.W.Frag) : List V → List V → Hp → VK → Prop := fun vs zs H Q => ∃ (a : Addr) (ns : List Int) (z : V), vs = [V.ref a] ∧ zs = [z] ∧ SqL K H a (ns.map V.int) ∧ (ns = [] → Q z H) ∧ ∀ m, ns ≠ [] → m ∈ ns → (∀ y, y ∈ ns → y ≤ m) → Q (.int m) H
theorem cr_maxD {X : Cx} (hu : X.A.units + 1 < cLine) (hc : X.calm = true) : CallRK X (.builtin "max") ["default"] (rMaxD X.K) := by
  intro pins s σ H xs zs us ws Q I r r2 h
  obtain ⟨a, ns, z, rfl, rfl, hs, q0, q⟩ := h
  obtain ⟨its, rv, hl, hz⟩ := I.list hs
  rw [Vals.ref1 r]
  cases r2 with
  | cons r1 rr =>
    cases rr
    refine PySem.W.max_list_datum_default (xs := ns) (I.ok.hd hc) hl.isList (holdInts rv.ints) hu (fun hn h' tk hk => ⟨_, H, I.kept hk, r1, q0 hn⟩) fun y ys i v h' tk e hi hv hk => ?_
    obtain ⟨_, hv⟩ := hv
    cases hv with
    | int n t =>
      subst e
      obtain ⟨m1, m2⟩ := maxOf_int ys y
      exact ⟨.int _, H, I.kept hk, ⟨_, rfl⟩, q _ (by simp) m1 m2⟩
end Sel

set_option maxRecDepth 100000
set_option maxHeartbeats 2000000
/-! How the board lies in the heap. -/
namespace Sel
open PySem PySem.Spec PyProof.Rows L2
open Kp379 (actsAt actAt)

/-! ### an if whose test is known -/
theorem ifT {c : Bool} {A B : Prop} (hc : c = true) (h : A) : if c = true then A else B := by
  rw [if_pos hc]
  exact h
theorem ifF {c : Bool} {A B : Prop} (hc : c = false) (h : B) : if c = true then A else B := by
  rw [hc, if_neg Bool.false_ne_true]
  exact h
/-! ### a def of the text, as a caller sees it -/
structure Own (P : Program) (w : PySem.World) (K : PySem.W.Frag) (mg : Str → Option Value) (base : Heap) (x : Str) (k : Nat) (ps : List Str) (sp : Sp) : Prop where
  ex : ∃ f fd, mg x = some (.ref f) ∧ FnOk P w K mg base CX0 k f fd ps sp ∧ PySem.W.keepIn K (.ref f) = true ∧ Binds K fd ps []
theorem pe_own {X : Cx} {x : Str} {k : Nat} {ps : List Str} {sp : Sp} {t : TA} {e : Expr} {es : List Expr} {p pos : Pos} (O : Own X.prog X.w X.K X.mg X.base x k ps sp) (hr : Room k X.A) (ha : PA X (e :: es) t) (hg : Gl X x := by rfl)
    (nodbg : (x == ("__debug__" : Str)) = false := by decide) (he : starEach (e :: es) X.env = (false, eval e X.env) :: starEach es X.env := by rfl)
    (hpl : (backTo pos (starEach es X.env)).any (·.1) = false := by rfl) :
    PE X (.Call (.Name x p) (e :: es) [] pos) (tCall sp [] E0 t) := by
  obtain ⟨f, fd, hm, F, kp, b⟩ := O.ex
  exact pe_call F hr hg hm kp b .nil pass0 ha nodbg he hpl
/-- a class of the text, with its __init__ -/
structure OwnC (P : Program) (w : PySem.World) (K : PySem.W.Frag) (mg : Str → Option Value) (base : Heap) (x : Str) (C : Addr) (k : Nat) (ps : List Str) (sp : Sp) : Prop where
  ex : ∃ f fd, Mk K C f ∧ mg x = some (.ref C) ∧ FnOk P w K mg base CX0 k f fd ps sp ∧ Binds K fd ps []
theorem pe_ownC {X : Cx} {x : Str} {C : Addr} {k : Nat} {ps : List Str} {sp : Sp} {t : TA} {e : Expr} {es : List Expr} {p pos : Pos} (O : OwnC X.prog X.w X.K X.mg X.base x C k ps sp) (hr : Room (k + 1) X.A) (ha : PA X (e :: es) t) (hg : Gl X x := by rfl)
    (nodbg : (x == ("__debug__" : Str)) = false := by decide) (he : starEach (e :: es) X.env = (false, eval e X.env) :: starEach es X.env := by rfl)
    (hpl : (backTo pos (starEach es X.env)).any (·.1) = false := by rfl) :
    PE X (.Call (.Name x p) (e :: es) [] pos) (tMake C sp [] E0 t) := by
  obtain ⟨f, fd, M, hm, F, b⟩ := O.ex
  exact pe_make M F hr hg hm b .nil pass0 ha nodbg he hpl
theorem pe_ownC0 {X : Cx} {x : Str} {C : Addr} {k : Nat} {ps : List Str} {sp : Sp} {p pos : Pos} (O : OwnC X.prog X.w X.K X.mg X.base x C k ps sp) (hr : Room (k + 1) X.A) (hg : Gl X x := by rfl)
    (hdb : (x == ("__debug__" : Str)) = false := by decide) : PE X (.Call (.Name x p) [] [] pos) (tMake C sp [] E0 tNil) := by
  obtain ⟨f, fd, M, hm, F, b⟩ := O.ex
  exact pe_make0 M F hr hg hm b .nil pass0 hdb
/-- a whole number of the module's top -/
def IntC (mg : Str → Option Value) (x : Str) (z : Int) : Prop := ∃ t, mg x = some (.int z t)
theorem pe_intC {X : Cx} {x : Str} {z : Int} {pos : Pos} (h : IntC X.mg x z) (hg : Gl X x := by rfl) (hd : (x == ("__debug__" : Str)) = false := by decide) : PE X (.Name x pos) (tC (.int z)) := by
  obtain ⟨t, h⟩ := h
  exact pe_glob hg h ⟨_, rfl⟩ hd

/-! ### attributes by name -/
theorem lk_here {r : List (Str × V)} {v : V} {k : Str} : ((k, v) :: r).lookup k = some v := by
  simp only [List.lookup, beq_self_eq_true k]
theorem lk_past {r : List (Str × V)} {v : V} {k g : Str} (other : (k == g) = false) : ((g, v) :: r).lookup k = r.lookup k := by
  simp only [List.lookup, other]
theorem put_here {r : List (Str × V)} {v x : V} {f : Str} : putF f v ((f, x) :: r) = (f, v) :: r := if_pos rfl
theorem put_past {r : List (Str × V)} {v x : V} {f g : Str} (other : ¬ g = f) : putF f v ((g, x) :: r) = (g, x) :: putF f v r := if_neg other
def b2z (b : Bool) : Int := if b then 1 else 0
/-- Board -/
def bF (n v : Int) (L : Addr) : List (Str × V) := [("places", .int n), ("selves", .int v), ("acts", .ref L)]
theorem bF_places (n v : Int) (L : Addr) : (bF n v L).lookup ("places" : Str) = some (.int n) := lk_here
theorem bF_selves (n v : Int) (L : Addr) : (bF n v L).lookup ("selves" : Str) = some (.int v) := (lk_past (by decide +kernel)).trans lk_here
theorem bF_acts (n v : Int) (L : Addr) : (bF n v L).lookup ("acts" : Str) = some (.ref L) := (lk_past (by decide +kernel)).trans ((lk_past (by decide +kernel)).trans lk_here)
theorem bF_putP (n v m : Int) (L : Addr) : putF "places" (.int m) (bF n v L) = bF m v L := put_here
theorem bF_putS (n v m : Int) (L : Addr) : putF "selves" (.int m) (bF n v L) = bF n m L := (put_past (by decide +kernel)).trans (congrArg _ put_here)
theorem bF_putA (n v : Int) (L M : Addr) : putF "acts" (.ref M) (bF n v L) = bF n v M := (put_past (by decide +kernel)).trans (congrArg _ ((put_past (by decide +kernel)).trans (congrArg _ put_here)))
theorem bF_new (n v : Int) (L : Addr) : putF "acts" (.ref L) (putF "selves" (.int v) (putF "places" (.int n) [])) = bF n v L := by
  have e1 : putF "places" (V.int n) [] = ([("places", V.int n)] : List (Str × V)) := rfl
  have e2 : putF "selves" (V.int v) ([("places", V.int n)] : List (Str × V)) = ([("places", V.int n), ("selves", V.int v)] : List (Str × V)) := (put_past (by decide +kernel)).trans rfl
  rw [e1, e2]
  exact (put_past (by decide +kernel)).trans (congrArg _ ((put_past (by decide +kernel)).trans rfl))
/-- Act -/
def aF (pa wa : Addr) (t l : Int) : List (Str × V) := [("pays", .ref pa), ("weights", .ref wa), ("into", .int t), ("locks", .int l)]
theorem aF_pays (pa wa : Addr) (t l : Int) : (aF pa wa t l).lookup ("pays" : Str) = some (.ref pa) := lk_here
theorem aF_weights (pa wa : Addr) (t l : Int) : (aF pa wa t l).lookup ("weights" : Str) = some (.ref wa) := (lk_past (by decide +kernel)).trans lk_here
theorem aF_into (pa wa : Addr) (t l : Int) : (aF pa wa t l).lookup ("into" : Str) = some (.int t) := (lk_past (by decide +kernel)).trans ((lk_past (by decide +kernel)).trans lk_here)
theorem aF_locks (pa wa : Addr) (t l : Int) : (aF pa wa t l).lookup ("locks" : Str) = some (.int l) := (lk_past (by decide +kernel)).trans ((lk_past (by decide +kernel)).trans ((lk_past (by decide +kernel)).trans lk_here))
theorem aF_putI (pa wa : Addr) (t l m : Int) : putF "into" (.int m) (aF pa wa t l) = aF pa wa m l := (put_past (by decide +kernel)).trans (congrArg _ ((put_past (by decide +kernel)).trans (congrArg _ put_here)))
theorem aF_putL (pa wa : Addr) (t l m : Int) : putF "locks" (.int m) (aF pa wa t l) = aF pa wa t m := (put_past (by decide +kernel)).trans (congrArg _ ((put_past (by decide +kernel)).trans (congrArg _ ((put_past (by decide +kernel)).trans (congrArg _ put_here)))))
theorem aF_new (pa wa : Addr) (t l : Int) : putF "locks" (.int l) (putF "into" (.int t) (putF "weights" (.ref wa) (putF "pays" (.ref pa) []))) = aF pa wa t l := by
  have e1 : putF "pays" (V.ref pa) [] = ([("pays", V.ref pa)] : List (Str × V)) := rfl
  have e2 : putF "weights" (V.ref wa) ([("pays", V.ref pa)] : List (Str × V)) = ([("pays", V.ref pa), ("weights", V.ref wa)] : List (Str × V)) := (put_past (by decide +kernel)).trans rfl
  have e3 : putF "into" (V.int t) ([("pays", V.ref pa), ("weights", V.ref wa)] : List (Str × V)) = ([("pays", V.ref pa), ("weights", V.ref wa), ("into", V.int t)] : List (Str × V)) := (put_past (by decide +kernel)).trans (congrArg _ ((put_past (by decide +kernel)).trans rfl))
  rw [e1, e2, e3]
  exact (put_past (by decide +kernel)).trans (congrArg _ ((put_past (by decide +kernel)).trans (congrArg _ ((put_past (by decide +kernel)).trans rfl))))

/-! ### what the top has written of the classes -/
structure Txt (K : PySem.W.Frag) (CB CA CO CC : Addr) : Prop where
  clB : Cls K CB
  nPlaces : NoAttr K CB "places"
  nSelves : NoAttr K CB "selves"
  nActs : NoAttr K CB "acts"
  clA : Cls K CA
  nPays : NoAttr K CA "pays"
  nWeights : NoAttr K CA "weights"
  nInto : NoAttr K CA "into"
  nLocks : NoAttr K CA "locks"
  clO : Cls K CO
  nScale : NoAttr K CO "scale"
  nWorths : NoAttr K CO "worths"
  clC : Cls K CC
  nNumber : NoAttr K CC "number"
  nGiven : NoAttr K CC "given"
  nRow : NoAttr K CC "row"
  nEnd : NoAttr K CC "end"

/-! ### the board -/
def nums (l : List Nat) : List V := l.map fun (n : Nat) => V.int (n : Int)
/-- an act: at t.1, its pays at t.2.1, its weights at t.2.2 -/
abbrev Trip := Addr × Addr × Addr
def ActAt (CA : Addr) (H : Hp) (t : Trip) (x : Kp379.Act) : Prop :=
  (∃ dx, H t.1 = some (.ins CA dx (aF t.2.1 t.2.2 (x.turn : Int) (b2z x.lock)))) ∧ H t.2.1 = some (.lst (x.pays.map V.int)) ∧ H t.2.2 = some (.lst (nums x.to))
/-- one list of acts: the list's address, the acts' -/
structure ListAt (CA : Addr) (H : Hp) (l : Addr) (ts : List Trip) (xs : List Kp379.Act) : Prop where
  lst : H l = some (.lst (ts.map fun t => V.ref t.1))
  len : ts.length = xs.length
  act : ∀ (i : Nat) (t : Trip) (x : Kp379.Act), ts[i]? = some t → xs[i]? = some x → ActAt CA H t x
def at2 (as : List (List Trip)) (p i : Nat) : Option Trip := (as.getD p [])[i]?
/-- the board at b, its list of lists at L, these lists at ls, their acts at as -/
structure BoardAt (CB CA : Addr) (H : Hp) (b : Addr) (w : Kp379.World) (L : Addr) (ls : List Addr) (as : List (List Trip)) : Prop where
  bd : ∃ dx, H b = some (.ins CB dx (bF (w.n : Int) (w.v : Int) L))
  ll : H L = some (.lst (ls.map V.ref))
  nl : ls.length = w.n
  na : as.length = w.n
  pl : ∀ (p : Nat) (l : Addr), ls[p]? = some l → ListAt CA H l (as.getD p []) (actsAt w p)
  nd : ls.Nodup
  nL : L ∉ ls
  inj : ∀ p i q j t u, at2 as p i = some t → at2 as q j = some u → t.1 = u.1 → p = q ∧ i = j
  wf : Wf w
theorem ActAt.same {CA : Addr} {H H' : Hp} {t : Trip} {x : Kp379.Act} (s : Same H H') (h : ActAt CA H t x) : ActAt CA H' t x := by
  obtain ⟨⟨dx, h1⟩, h2, h3⟩ := h
  exact ⟨⟨dx, s _ _ h1⟩, s _ _ h2, s _ _ h3⟩
theorem ListAt.same {CA : Addr} {H H' : Hp} {l : Addr} {ts : List Trip} {xs : List Kp379.Act} (s : Same H H') (h : ListAt CA H l ts xs) : ListAt CA H' l ts xs :=
  ⟨s _ _ h.lst, h.len, fun i t x a b => (h.act i t x a b).same s⟩
theorem BoardAt.same {CB CA : Addr} {H H' : Hp} {b : Addr} {w : Kp379.World} {L : Addr} {ls : List Addr} {as : List (List Trip)} (s : Same H H') (h : BoardAt CB CA H b w L ls as) : BoardAt CB CA H' b w L ls as := by
  obtain ⟨dx, h1⟩ := h.bd
  exact ⟨⟨dx, s _ _ h1⟩, s _ _ h.ll, h.nl, h.na, fun p l q => (h.pl p l q).same s, h.nd, h.nL, h.inj, h.wf⟩
theorem BoardAt.place {CB CA : Addr} {H : Hp} {b : Addr} {w : Kp379.World} {L : Addr} {ls : List Addr} {as : List (List Trip)} (h : BoardAt CB CA H b w L ls as) {p : Nat} (hp : p < w.n) : ∃ l, ls[p]? = some l ∧ ListAt CA H l (as.getD p []) (actsAt w p) := by
  have hl : p < ls.length := by rw [h.nl]; exact hp
  exact ⟨ls[p], List.getElem?_eq_getElem hl, h.pl p _ (List.getElem?_eq_getElem hl)⟩
theorem ListAt.get {CA : Addr} {H : Hp} {l : Addr} {ts : List Trip} {xs : List Kp379.Act} (h : ListAt CA H l ts xs) {i : Nat} (hi : i < xs.length) : ∃ t x, ts[i]? = some t ∧ xs[i]? = some x ∧ ActAt CA H t x := by
  have hl : i < ts.length := by rw [h.len]; exact hi
  exact ⟨ts[i], xs[i], List.getElem?_eq_getElem hl, List.getElem?_eq_getElem hi, h.act i _ _ (List.getElem?_eq_getElem hl) (List.getElem?_eq_getElem hi)⟩
end Sel

set_option maxRecDepth 100000
set_option maxHeartbeats 2000000
namespace Sel
open PySem PySem.Spec PyProof.Rows L2
open Kp379 (actsAt actAt)
section
variable {P : Program} {w : PySem.World} {K : PySem.W.Frag} {mg : Str → Option Value} {base : Heap} {CB CA CO CC : Addr}

/-! ### board -/
/-- the board's own numbers -/
def Bd (CB : Addr) (H : Hp) (b : Addr) (n v : Int) (L : Addr) : Prop := ∃ dx, H b = some (.ins CB dx (bF n v L))
def spBegun (CB : Addr) : Sp := fun vs H Q _ => ∃ b n v L, vs = [.ref b] ∧ Bd CB H b n v L ∧ Q (.bl (decide (0 < n))) H
theorem ok_is_begun {f : Addr} {fd : FuncData} (F : Fun K "is_begun" "is_begun" s_is_begun f fd) (T : Txt K CB CA CO CC) : FnOk P w K mg base CX0 1 f fd ["board"] (spBegun CB) := by
  refine F.ok sc_is_begun (fun vs H Q E h => ?_) (fun cdv A outer s H vs Q E hr h => ?_)
  · obtain ⟨b, n, v, L, rfl, _⟩ := h
    rfl
  · obtain ⟨b, n, v, L, rfl, ⟨dx, hb⟩, k⟩ := h
    refine ⟨_, pss_one (ps_ret (pe_cmp (pc_gt (pe_fld (pv 0) rfl) pe_int) rfl)), ?_⟩
    exact ⟨_, rfl, b, CB, dx, _, _, rfl, hb, T.clB, T.nPlaces, bF_places _ _ _, _, _, rfl, rfl, k⟩
def spHasPlace (CB : Addr) : Sp := fun vs H Q _ => ∃ b n v L p, vs = [.ref b, .int p] ∧ Bd CB H b n v L ∧ Q (.bl (decide (p < n))) H
theorem ok_has_place {f : Addr} {fd : FuncData} (F : Fun K "has_place" "has_place" s_has_place f fd) (T : Txt K CB CA CO CC) : FnOk P w K mg base CX0 1 f fd ["board", "place"] (spHasPlace CB) := by
  refine F.ok sc_has_place (fun vs H Q E h => ?_) (fun cdv A outer s H vs Q E hr h => ?_)
  · obtain ⟨b, n, v, L, p, rfl, _⟩ := h
    rfl
  · obtain ⟨b, n, v, L, p, rfl, ⟨dx, hb⟩, k⟩ := h
    refine ⟨_, pss_one (ps_ret (pe_cmp (pc_lt (pv 1) (pe_fld (pv 0) rfl)) rfl)), ?_⟩
    exact ⟨_, rfl, _, rfl, b, CB, dx, _, _, rfl, hb, T.clB, T.nPlaces, bF_places _ _ _, _, _, rfl, rfl, k⟩
def spHasSelf (CB : Addr) : Sp := fun vs H Q _ => ∃ b n v L p, vs = [.ref b, .int p] ∧ Bd CB H b n v L ∧ Q (.bl (decide (p < v))) H
theorem ok_has_self {f : Addr} {fd : FuncData} (F : Fun K "has_self" "has_self" s_has_self f fd) (T : Txt K CB CA CO CC) : FnOk P w K mg base CX0 1 f fd ["board", "who"] (spHasSelf CB) := by
  refine F.ok sc_has_self (fun vs H Q E h => ?_) (fun cdv A outer s H vs Q E hr h => ?_)
  · obtain ⟨b, n, v, L, p, rfl, _⟩ := h
    rfl
  · obtain ⟨b, n, v, L, p, rfl, ⟨dx, hb⟩, k⟩ := h
    refine ⟨_, pss_one (ps_ret (pe_cmp (pc_lt (pv 1) (pe_fld (pv 0) rfl)) rfl)), ?_⟩
    exact ⟨_, rfl, _, rfl, b, CB, dx, _, _, rfl, hb, T.clB, T.nSelves, bF_selves _ _ _, _, _, rfl, rfl, k⟩
theorem BoardAt.b {H : Hp} {b : Addr} {wd : Kp379.World} {L : Addr} {ls : List Addr} {as : List (List Trip)} (h : BoardAt CB CA H b wd L ls as) : Bd CB H b wd.n wd.v L := h.bd
/-- whether there's such an act -/
def spHasAct (CB CA : Addr) : Sp := fun vs H Q _ => ∃ b wd L ls as, ∃ p i : Nat, vs = [.ref b, .int p, .int i] ∧ BoardAt CB CA H b wd L ls as ∧ Q (.bl (Kp379.isAct wd p i)) H
theorem ok_has_act {f : Addr} {fd : FuncData} (F : Fun K "has_act" "has_act" s_has_act f fd) (T : Txt K CB CA CO CC) (hlen : mg "len" = none) (O1 : Own P w K mg base "has_place" 1 ["board", "place"] (spHasPlace CB)) :
    FnOk P w K mg base CX0 2 f fd ["board", "place", "number"] (spHasAct CB CA) := by
  refine F.ok sc_has_act (fun vs H Q E h => ?_) (fun cdv A outer s H vs Q E hr h => ?_)
  · obtain ⟨b, wd, L, ls, as, p, i, rfl, _⟩ := h
    rfl
  · obtain ⟨b, wd, L, ls, as, p, i, rfl, B, k⟩ := h
    refine ⟨_, pss_one (ps_ret (pe_and (pe_own O1 hr (pa_cons (pv 0) (pa_cons (pv 1) pa_nil))) (pe_one (pe_cmp (pc_lt (pv 2)
      (pe_callB call_len_seq (by rfl) hlen PySem.boot_len (pa_cons (pe_ix ix_list (pe_fld (pv 0) rfl) (pv 1) (fun _ _ => rfl)) pa_nil))) rfl)))), ?_⟩
    refine ⟨_, rfl, _, rfl, b, _, _, _, (p : Int), rfl, B.b, ?_⟩
    obtain ⟨dx, hb⟩ := B.bd
    unfold Kp379.isAct Kp379.isPlace at k
    by_cases hp : p < wd.n
    · refine ⟨_, rfl, ?_⟩
      rw [decide_eq_true (show (p : Int) < (wd.n : Int) by omega)]
      obtain ⟨l, hl, hL⟩ := B.place hp
      refine iteT ⟨_, rfl, _, rfl, b, CB, dx, _, _, rfl, hb, T.clB, T.nActs, bF_acts _ _ _, _, rfl, L, _, _, _, rfl, rfl, SqL.of B.ll, at_of (j := p) (v := V.ref l) rfl (by rw [List.getElem?_map, hl]; rfl), l, _, rfl, .inl (SqL.of hL.lst), _, _, rfl, rfl, ?_⟩
      rw [List.length_map, hL.len]
      rw [decide_eq_true hp, Bool.true_and] at k
      have e : decide ((i : Int) < ((actsAt wd p).length : Int)) = decide (i < (actsAt wd p).length) := by
        by_cases c : i < (actsAt wd p).length
        · rw [decide_eq_true c, decide_eq_true (by omega)]
        · rw [decide_eq_false c, decide_eq_false (by omega)]
      show Q (.bl (decide ((i : Int) < ((actsAt wd p).length : Int)))) H
      rw [e]
      exact k
    · refine ⟨_, rfl, ?_⟩
      rw [decide_eq_false (show ¬ (p : Int) < (wd.n : Int) by omega)]
      rw [decide_eq_false hp, Bool.false_and] at k
      exact iteF k
/-! ### new things -/
def spActInit (CA : Addr) : Sp := fun vs H Q _ => ∃ (p dx pa wa : Addr), vs = [.ref p, .ref pa, .ref wa] ∧ H p = some (.ins CA dx []) ∧
  ∀ H' : Hp, H' p = some (.ins CA dx (aF pa wa 0 0)) → (∀ b o, H b = some o → b ≠ p → H' b = some o) → Q .non H'
theorem ok_Act_init {f : Addr} {fd : FuncData} (F : Fun K "__init__" "Act.__init__" s_Act_init f fd) (T : Txt K CB CA CO CC) : FnOk P w K mg base CX0 1 f fd ["self", "pays", "weights"] (spActInit CA) := by
  refine F.ok sc_Act_init (fun vs H Q E h => ?_) (fun cdv A outer s H vs Q E hr h => ?_)
  · obtain ⟨p, dx, pa, wa, rfl, _⟩ := h
    rfl
  · obtain ⟨p, dx, pa, wa, rfl, hp, k⟩ := h
    refine ⟨_, pss_cons (ps_fld (pv 0) (pv 1) rfl) (pss_cons (ps_fld (pv 0) (pv 2) rfl) (pss_cons (ps_fld (pv 0) pe_int rfl) (pss_one (ps_fld (pv 0) pe_int rfl)))), ?_⟩
    refine ⟨_, rfl, _, rfl, p, CA, dx, [], rfl, hp, T.clA, T.nPays, (by show 0 < 1000; decide), ?_⟩
    refine ⟨_, rfl, _, rfl, p, CA, dx, _, rfl, upd_same, T.clA, T.nWeights, (by show 1 < 1000; decide), ?_⟩
    refine ⟨_, rfl, p, CA, dx, _, rfl, upd_same, T.clA, T.nInto, (by show 2 < 1000; decide), ?_⟩
    refine ⟨_, rfl, p, CA, dx, _, rfl, upd_same, T.clA, T.nLocks, (by show 3 < 1000; decide), ?_⟩
    exact k _ (Eq.trans upd_same (congrArg (fun q => some (HO.ins CA dx q)) (aF_new pa wa 0 0))) fun b o e hb => by
      rw [upd_ne hb, upd_ne hb, upd_ne hb, upd_ne hb]
      exact e
def spBoardInit (CB : Addr) : Sp := fun vs H Q _ => ∃ (p dx : Addr), vs = [.ref p] ∧ H p = some (.ins CB dx []) ∧
  ∀ (H' : Hp) (L : Addr), H L = none → H' L = some (.lst []) → H' p = some (.ins CB dx (bF 0 0 L)) → (∀ b o, H b = some o → b ≠ p → H' b = some o) → Q .non H'
theorem ok_Board_init {f : Addr} {fd : FuncData} (F : Fun K "__init__" "Board.__init__" s_Board_init f fd) (T : Txt K CB CA CO CC) : FnOk P w K mg base CX0 1 f fd ["self"] (spBoardInit CB) := by
  refine F.ok sc_Board_init (fun vs H Q E h => ?_) (fun cdv A outer s H vs Q E hr h => ?_)
  · obtain ⟨p, dx, rfl, _⟩ := h
    rfl
  · obtain ⟨p, dx, rfl, hp, k⟩ := h
    refine ⟨_, pss_cons (ps_fld (pv 0) pe_int rfl) (pss_cons (ps_fld (pv 0) pe_int rfl) (pss_one (ps_fld (pv 0) (pe_lst pa_nil) rfl))), ?_⟩
    refine ⟨_, rfl, p, CB, dx, [], rfl, hp, T.clB, T.nPlaces, (by show 0 < 1000; decide), ?_⟩
    refine ⟨_, rfl, p, CB, dx, _, rfl, upd_same, T.clB, T.nSelves, (by show 1 < 1000; decide), ?_⟩
    refine ⟨Nat.zero_le _, fun L hL => ?_⟩
    have nLp : p ≠ L := ne_of_none (o := .ins CB dx _) upd_same hL
    have hL0 : H L = none := by
      rw [upd_ne (fun e => nLp e.symm), upd_ne (fun e => nLp e.symm)] at hL
      exact hL
    refine ⟨_, rfl, p, CB, dx, _, rfl, by rw [upd_ne nLp]; exact upd_same, T.clB, T.nActs, (by show 2 < 1000; decide), ?_⟩
    refine k _ L hL0 (by rw [upd_ne (fun e => nLp e.symm)]; exact upd_same) (Eq.trans upd_same (congrArg (fun q => some (HO.ins CB dx q)) (bF_new 0 0 L))) fun b o e hb => ?_
    rw [upd_ne hb, upd_ne (ne_of_none e hL0), upd_ne hb, upd_ne hb]
    exact e
end
end Sel

set_option maxRecDepth 100000
set_option maxHeartbeats 2000000
namespace Sel
open PySem PySem.Spec PyProof.Rows L2
theorem same_new {H : Hp} {p : Addr} {o : HO} (h : H p = none) : Same H (upd H p o) := fun b u e => by
  rw [upd_ne (ne_of_none e h)]
  exact e
theorem take_more {α : Type} {l : List α} {i : Nat} {x : α} (at_i : l[i]? = some x) : l.take (i + 1) = l.take i ++ [x] := by
  simp [List.take_succ, at_i]
theorem map_get {α : Type} {ns : List Int} {f : Int → α} {i : Nat} {y : α} (h : (ns.map f)[i]? = some y) : ∃ z, ns[i]? = some z ∧ y = f z := by
  rw [List.getElem?_map] at h
  cases e : ns[i]? with
  | none => rw [e] at h; cases h
  | some z => rw [e] at h; exact ⟨z, rfl, (Option.some.inj h).symm⟩
theorem ix_snoc {α β : Type} {R : α → β → Prop} {as : List α} {bs : List β} {a : α} {b : β} (hl : as.length = bs.length) (h : ∀ (i : Nat) (x : α) (y : β), as[i]? = some x → bs[i]? = some y → R x y) (hr : R a b) :
    ∀ (i : Nat) (x : α) (y : β), (as ++ [a])[i]? = some x → (bs ++ [b])[i]? = some y → R x y := by
  intro i x y h1 h2
  by_cases c : i < as.length
  · rw [List.getElem?_append_left c] at h1
    rw [List.getElem?_append_left (by rw [← hl]; exact c)] at h2
    exact h i x y h1 h2
  · rw [List.getElem?_append_right (by omega)] at h1
    rw [List.getElem?_append_right (by rw [← hl]; omega), ← hl] at h2
    have e : i - as.length = 0 := by
      have := (List.getElem?_eq_some_iff.mp h1).1
      simpa using this
    rw [e] at h1 h2
    have a' : a = x := by simpa using h1
    have b' : b = y := by simpa using h2
    subst a' b'
    exact hr
/-- an item of a mapped list -/
theorem map_ref {α : Type} {ts : List α} {f : α → V} {i : Nat} {y : V} (h : (ts.map f)[i]? = some y) : ∃ t, ts[i]? = some t ∧ y = f t := by
  rw [List.getElem?_map] at h
  cases e : ts[i]? with
  | none => rw [e] at h; cases h
  | some z => rw [e] at h; exact ⟨z, rfl, (Option.some.inj h).symm⟩
section
variable {P : Program} {w : PySem.World} {K : PySem.W.Frag} {mg : Str → Option Value} {base : Heap} {CB CA CO CC : Addr}
/-! ### fraction -/
def slotN (σ : L2.St) (i : Nat) : Nat := match σ[i]? with
  | some (some (.int y)) => y.toNat
  | _ => 0
def spGcd : Sp := fun vs H Q _ => ∃ a b : Int, vs = [.int a, .int b] ∧ 0 ≤ a ∧ 0 ≤ b ∧ Q (.int (Nat.gcd a.natAbs b.natAbs : Nat)) H
theorem ok_common_divisor {f : Addr} {fd : FuncData} (F : Fun K "common_divisor" "common_divisor" s_common_divisor f fd) : FnOk P w K mg base CX0 1 f fd ["first", "second"] spGcd := by
  refine F.ok sc_common_divisor (fun vs H Q E h => ?_) (fun cdv A outer s H vs Q E hr h => ?_)
  · obtain ⟨a, b, rfl, _⟩ := h
    rfl
  · obtain ⟨a, b, rfl, ha, hb, k⟩ := h
    have nd := sc_common_divisor.nd
    refine ⟨_, pss_cons (ps_set (i := 2) nd rfl (Or.inl rfl) (pv 0)) (pss_cons (ps_set (i := 3) nd rfl (Or.inl rfl) (pv 1))
      (pss_cons (ps_while PassesOwn.never (pt_cmpR op_gt (pv 3) pe_int (nomark _)) (pss_cons (ps_set (i := 4) nd rfl (Or.inl rfl) (pe_op op_modN (pv 2) (pv 3)))
        (pss_cons (ps_set (i := 2) nd rfl (Or.inl rfl) (pv 3)) (pss_one (ps_set (i := 3) nd rfl (Or.inl rfl) (pv 4)))))) (pss_one (ps_ret (pv 2))))), ?_⟩
    refine ⟨_, rfl, _, rfl, ?_⟩
    refine while_by (fun σ H' => H' = H ∧ ∃ (x y : Int) (v : Option V), σ = [some (.int a), some (.int b), some (.int x), some (.int y), v] ∧ 0 ≤ x ∧ 0 ≤ y ∧ Nat.gcd x.natAbs y.natAbs = Nat.gcd a.natAbs b.natAbs) (fun σ _ => slotN σ 3) ⟨rfl, a, b, none, rfl, ha, hb, rfl⟩ ?_ ?_
    · rintro σ H' ⟨rfl, x, y, v, rfl, hx, hy, hg⟩
      refine ⟨_, rfl, _, _, rfl, rfl, _, rfl, ?_⟩
      by_cases c : y > 0
      · rw [decide_eq_true c]
        refine iteT ⟨_, rfl, _, rfl, _, _, rfl, rfl, (by omega), _, rfl, _, rfl, ⟨rfl, y, x.fmod y, _, rfl, hy, ?_, ?_⟩, ?_⟩
        · rw [Int.fmod_eq_emod_of_nonneg _ hy]
          exact Int.emod_nonneg _ (by omega)
        · rw [← hg, Int.fmod_eq_emod_of_nonneg _ hy, Int.natAbs_emod_of_nonneg hx, Nat.gcd_comm x.natAbs]
          exact (Nat.gcd_rec y.natAbs x.natAbs ▸ Nat.gcd_comm _ _)
        · show (x.fmod y).toNat < y.toNat
          rw [Int.fmod_eq_emod_of_nonneg _ hy]
          have := Int.emod_lt_of_pos x c
          have := Int.emod_nonneg x (show y ≠ 0 by omega)
          omega
      · rw [decide_eq_false c]
        refine iteF ⟨_, rfl, ?_⟩
        have y0 : y = 0 := by omega
        subst y0
        have e : Nat.gcd x.natAbs (0 : Int).natAbs = x.natAbs := Nat.gcd_zero_right _
        rw [e] at hg
        have ex : x = (Nat.gcd a.natAbs b.natAbs : Nat) := by omega
        show Q (.int x) H'
        rw [ex]
        exact k
    · intro σ H Q Q' hq h
      obtain ⟨v, e1, i, j, e2, e3, b, e4, h⟩ := h
      exact ⟨v, e1, i, j, e2, e3, b, e4, hq _ _ h⟩
def frV (f : Kp340.Fr) : List V := [.int f.1, .int f.2]
def spLow : Sp := fun vs H Q _ => ∃ x d : Int, vs = [.int x, .int d] ∧ 0 < d ∧ d.natAbs < 2 ^ 9000 ∧ ∀ p, H p = none → Q (.ref p) (upd H p (.lst (frV (Kp340.fr x d))))
theorem ok_lowest_terms {f : Addr} {fd : FuncData} (F : Fun K "lowest_terms" "lowest_terms" s_lowest_terms f fd) (habs : mg "abs" = none) (O1 : Own P w K mg base "common_divisor" 1 ["first", "second"] spGcd) : FnOk P w K mg base CX0 2 f fd ["top", "bottom"] spLow := by
  refine F.ok sc_lowest_terms (fun vs H Q E h => ?_) (fun cdv A outer s H vs Q E hr h => ?_)
  · obtain ⟨a, b, rfl, _⟩ := h
    rfl
  · obtain ⟨x, d, rfl, hd, hb, k⟩ := h
    have nd := sc_lowest_terms.nd
    refine ⟨_, pss_cons (ps_set (i := 2) nd rfl (Or.inl rfl) (pe_own O1 hr (pa_cons (pe_callB call_abs (by rfl) habs (by decide +kernel) (pa_cons (pv 0) pa_nil)) (pa_cons (pv 1) pa_nil))))
      (pss_one (ps_ret (pe_lst (pa_cons (pe_op op_fdivW (pv 0) (pv 2)) (pa_cons (pe_op op_fdivW (pv 1) (pv 2)) pa_nil))))), ?_⟩
    have e1 : (if x < 0 then -x else x).natAbs = x.natAbs := by split <;> omega
    have gp : 0 < Nat.gcd x.natAbs d.natAbs := Nat.gcd_pos_of_pos_right _ (by omega)
    have gl : Nat.gcd x.natAbs d.natAbs ≤ d.natAbs := Nat.le_of_dvd (by omega) (Nat.gcd_dvd_right _ _)
    refine ⟨_, rfl, x, rfl, _, rfl, _, d, rfl, (by split <;> omega), (by omega), ?_⟩
    rw [e1]
    have wd : ∀ i : Int, CDivW i (Nat.gcd x.natAbs d.natAbs : Nat) := fun i => wide_div (b := 9000) (by omega) (by rw [Int.natAbs_natCast]; exact Nat.lt_of_le_of_lt gl hb) (by decide) (by decide)
    refine ⟨_, rfl, _, rfl, _, _, rfl, rfl, wd _, _, rfl, _, rfl, _, _, rfl, rfl, wd _, (by show 2 ≤ sizeLine; decide), fun p hp => ?_⟩
    have := k p hp
    rw [fr_pos hd] at this
    exact this
def spLows (K : PySem.W.Frag) : Sp := fun vs H Q _ => ∃ (a : Addr) (xs : List Int) (d : Int), vs = [.ref a, .int d] ∧ SqL K H a (xs.map V.int) ∧ xs.length ≤ 100 ∧ 0 < d ∧ d.natAbs < 2 ^ 9000 ∧
  ∀ (H' : Hp) (r : Addr), Same H H' → H r = none → H' r = some (.lst (V.int (xs.length : Int) :: xs.flatMap fun x => frV (Kp340.fr x d))) → Q (.ref r) H'
theorem ok_all_lowest_terms {f : Addr} {fd : FuncData} (F : Fun K "all_lowest_terms" "all_lowest_terms" s_all_lowest_terms f fd) (hlen : mg "len" = none) (O1 : Own P w K mg base "lowest_terms" 2 ["top", "bottom"] spLow) : FnOk P w K mg base CX0 3 f fd ["tops", "bottom"] (spLows K) := by
  refine F.ok sc_all_lowest_terms (fun vs H Q E h => ?_) (fun cdv A outer s H vs Q E hr h => ?_)
  · obtain ⟨a, xs, d, rfl, _⟩ := h
    rfl
  · obtain ⟨a, xs, d, rfl, hS, hl, hd, hb, k⟩ := h
    have nd := sc_all_lowest_terms.nd
    refine ⟨_, pss_cons (ps_set (i := 2) nd rfl (Or.inl rfl) (pe_lst (pa_cons (pe_callB call_len_seq (by rfl) hlen PySem.boot_len (pa_cons (pv 0) pa_nil)) pa_nil)))
      (pss_cons (ps_for PassesOwn.never rfl (pi_list (pv 0)) (pg_name (i := 3) nd rfl (Or.inl rfl))
        (pss_one (ps_expr (pe_bm PySem.F.plainAttrs_list PySem.F.slot_list_extend PySem.F.type_list_extend mt_extend (pv 2) (pa_cons (pe_own O1 hr (pa_cons (pv 3) (pa_cons (pv 1) pa_nil))) pa_nil)))))
      (pss_one (ps_ret (pv 2)))), ?_⟩
    refine ⟨_, rfl, a, _, rfl, .inl hS, (by show 1 ≤ sizeLine; decide), fun r hr0 => ?_⟩
    rw [List.length_map]
    have s0 : Same H (upd H r (.lst [V.int (xs.length : Int)])) := same_new hr0
    refine ⟨_, rfl, a, rfl, ⟨_, s0.seq hS⟩, for_list (K := K) (a := a) (xs := xs.map V.int) (fun i σ H' => Same H H' ∧ (∃ v3 : Option V, σ = [some (.ref a), some (.int d), some (.ref r), v3]) ∧ H' r = some (.lst (V.int (xs.length : Int) :: (xs.take i).flatMap fun x => frV (Kp340.fr x d))))
      ⟨s0, ⟨none, rfl⟩, upd_same⟩ (fun i σ H' _ h => h.1.seq hS) ?_ ?_⟩
    · rintro i y σ H' hi ⟨s1, ⟨v3, rfl⟩, hr1⟩
      obtain ⟨x, hx, rfl⟩ := map_get hi
      refine ⟨_, rfl, .inl ⟨rfl, _, SqL.of hr1⟩, _, rfl, _, rfl, x, d, rfl, hd, hb, fun q hq => ?_⟩
      have nrq : r ≠ q := ne_of_none hr1 hq
      have ll : ((xs.take i).flatMap fun x => frV (Kp340.fr x d)).length ≤ 200 := by
        rw [flatMap_len (m := 2) (fun _ => rfl), List.length_take]
        omega
      refine ⟨r, q, _, _, rfl, rfl, by rw [upd_ne nrq]; exact hr1, upd_same, ?_, ?_, ⟨_, rfl⟩, ?_⟩
      · refine Nat.le_trans (show _ ≤ 203 from ?_) (by decide)
        rw [List.length_cons]
        show _ + 1 + 2 ≤ 203
        omega
      · intro c u e
        rw [upd_ne (ne_of_none e hr0)]
        exact (same_new hq) _ _ (s1 _ _ e)
      · rw [upd_same, take_more hx, List.flatMap_append, List.flatMap_cons, List.flatMap_nil, List.append_nil]
        rfl
    · rintro σ H' ⟨s1, ⟨v3, rfl⟩, hr1⟩
      rw [List.length_map, List.take_length] at hr1
      exact ⟨_, rfl, k H' r s1 hr0 hr1⟩
end
end Sel

set_option maxRecDepth 100000
set_option maxHeartbeats 2000000
namespace Sel
open PySem PySem.Spec PyProof.Rows L2
open Kp379 (actsAt actAt Stand stands)
theorem nums_eq (l : List Nat) : nums l = (l.map fun (n : Nat) => (n : Int)).map V.int := by
  unfold nums
  rw [List.map_map]
  rfl
/-! ### outlooks -/
def oF (S : Int) (D : Addr) : List (Str × V) := [("scale", .int S), ("worths", .ref D)]
theorem oF_scale (S : Int) (D : Addr) : (oF S D).lookup ("scale" : Str) = some (.int S) := lk_here
theorem oF_worths (S : Int) (D : Addr) : (oF S D).lookup ("worths" : Str) = some (.ref D) := (lk_past (by decide +kernel)).trans lk_here
theorem oF_new (S : Int) (D : Addr) : putF "worths" (.ref D) (putF "scale" (.int S) []) = oF S D := (put_past (by decide +kernel)).trans rfl
def keyOf (p s : Nat) (l : Bool) : List Key := [Sum.inl (p : Int), Sum.inl (s : Int), Sum.inl (b2z l)]
def stV (p s : Nat) (l : Bool) : List V := [.int (p : Int), .int (s : Int), .int (b2z l)]
theorem keyOf_kV (p s : Nat) (l : Bool) : (keyOf p s l).map kV = stV p s l := rfl
theorem b2z_inj {a b : Bool} (h : b2z a = b2z b) : a = b := by
  cases a <;> cases b <;> first | rfl | (simp [b2z] at h)
theorem keyOf_inj {p s q u : Nat} {l m : Bool} (h : keyOf p s l = keyOf q u m) : p = q ∧ s = u ∧ l = m := by
  unfold keyOf at h
  injection h with h1 h2
  injection h2 with h2 h3
  injection h3 with h3 _
  have a := Sum.inl.inj h1
  have b := Sum.inl.inj h2
  have c := Sum.inl.inj h3
  exact ⟨by omega, by omega, b2z_inj c⟩
/-- what stands in the dict at D, of the stands that G tells -/
structure DictAt (H : Hp) (D : Addr) (v : Nat) (X : Later) (G : Nat → Nat → Bool → Prop) (m : Nat) : Prop where
  ex : ∃ kvs, H D = some (.dT kvs) ∧ kvs.length ≤ m ∧ ∀ p s l, G p s l → ∃ q, valV kvs (keyOf p s l) = some (.ref q) ∧ H q = some (.lst ((List.range v).map fun u => V.int (X p s l u)))
def OutAt (CO : Addr) (H : Hp) (o : Addr) (n v : Nat) (S : Int) (X : Later) : Prop :=
  ∃ dx D m, H o = some (.ins CO dx (oF S D)) ∧ DictAt H D v X (fun p s _ => p < n ∧ s < v) m
theorem DictAt.same {H H' : Hp} {D : Addr} {v m : Nat} {X : Later} {G : Nat → Nat → Bool → Prop} (s : Same H H') (h : DictAt H D v X G m) : DictAt H' D v X G m := by
  obtain ⟨kvs, a, b, c⟩ := h.ex
  refine ⟨kvs, s _ _ a, b, fun p x l g => ?_⟩
  obtain ⟨q, c1, c2⟩ := c p x l g
  exact ⟨q, c1, s _ _ c2⟩
theorem OutAt.same {CO : Addr} {H H' : Hp} {o : Addr} {n v : Nat} {S : Int} {X : Later} (s : Same H H') (h : OutAt CO H o n v S X) : OutAt CO H' o n v S X := by
  obtain ⟨dx, D, m, a, b⟩ := h
  exact ⟨dx, D, m, s _ _ a, b.same s⟩
section
variable {P : Program} {w : PySem.World} {K : PySem.W.Frag} {mg : Str → Option Value} {base : Heap} {CB CA CO CC : Addr}
def spOutInit (CO : Addr) : Sp := fun vs H Q _ => ∃ (p dx D : Addr) (S : Int), vs = [.ref p, .int S, .ref D] ∧ H p = some (.ins CO dx []) ∧
  ∀ H' : Hp, H' p = some (.ins CO dx (oF S D)) → (∀ b o, H b = some o → b ≠ p → H' b = some o) → Q .non H'
theorem ok_Outlook_init {f : Addr} {fd : FuncData} (F : Fun K "__init__" "Outlook.__init__" s_Outlook_init f fd) (T : Txt K CB CA CO CC) : FnOk P w K mg base CX0 1 f fd ["self", "scale", "worths"] (spOutInit CO) := by
  refine F.ok sc_Outlook_init (fun vs H Q E h => ?_) (fun cdv A outer s H vs Q E hr h => ?_)
  · obtain ⟨p, dx, D, S, rfl, _⟩ := h
    rfl
  · obtain ⟨p, dx, D, S, rfl, hp, k⟩ := h
    refine ⟨_, pss_cons (ps_fld (pv 0) (pv 1) rfl) (pss_one (ps_fld (pv 0) (pv 2) rfl)), ?_⟩
    refine ⟨_, rfl, _, rfl, p, CO, dx, [], rfl, hp, T.clO, T.nScale, (by show 0 < 1000; decide), ?_⟩
    refine ⟨_, rfl, _, rfl, p, CO, dx, _, rfl, upd_same, T.clO, T.nWorths, (by show 1 < 1000; decide), ?_⟩
    exact k _ (Eq.trans upd_same (congrArg (fun q => some (HO.ins CO dx q)) (oF_new S D))) fun b o e hb => by
      rw [upd_ne hb, upd_ne hb]
      exact e
/-! ### all stands -/
def TupsAt (H : Hp) (ts : List Addr) (xs : List Stand) : Prop := ts.length = xs.length ∧ ∀ (i : Nat) (t : Addr) (x : Stand), ts[i]? = some t → xs[i]? = some x → H t = some (.tup (stV x.p x.s x.locked))
theorem TupsAt.same {H H' : Hp} {ts : List Addr} {xs : List Stand} (s : Same H H') (h : TupsAt H ts xs) : TupsAt H' ts xs := ⟨h.1, fun i t x a b => s _ _ (h.2 i t x a b)⟩
theorem TupsAt.keep {H H' : Hp} {ts : List Addr} {xs : List Stand} (s : ∀ b ys, H b = some (.tup ys) → H' b = some (.tup ys)) (h : TupsAt H ts xs) : TupsAt H' ts xs := ⟨h.1, fun i t x a b => s _ _ (h.2 i t x a b)⟩
theorem TupsAt.snoc {H : Hp} {ts : List Addr} {xs : List Stand} {t : Addr} {x : Stand} (h : TupsAt H ts xs) (ht : H t = some (.tup (stV x.p x.s x.locked))) : TupsAt H (ts ++ [t]) (xs ++ [x]) := by
  refine ⟨by rw [List.length_append, List.length_append, h.1]; rfl, fun i u y a b => ?_⟩
  by_cases c : i < ts.length
  · rw [List.getElem?_append_left c] at a
    rw [List.getElem?_append_left (by rw [← h.1]; exact c)] at b
    exact h.2 i u y a b
  · rw [List.getElem?_append_right (by omega)] at a
    rw [List.getElem?_append_right (by rw [← h.1]; omega), ← h.1] at b
    have e : i - ts.length = 0 := by
      have := (List.getElem?_eq_some_iff.mp a).1
      simpa using this
    rw [e] at a b
    have a' : t = u := by simpa using a
    have b' : x = y := by simpa using b
    subst a' b'
    exact ht
def spStands (CB : Addr) : Sp := fun vs H Q _ => ∃ (b : Addr) (wd : Kp379.World) (L : Addr), vs = [.ref b] ∧ Bd CB H b wd.n wd.v L ∧ wd.n ≤ 4 ∧ wd.v ≤ 3 ∧
  ∀ (H' : Hp) (r : Addr) (ts : List Addr), Same H H' → H r = none → H' r = some (.lst (ts.map V.ref)) → TupsAt H' ts (stands wd) → Q (.ref r) H'
theorem range_flat {α : Type} (g : Nat → List α) (i : Nat) : (List.range (i + 1)).flatMap g = (List.range i).flatMap g ++ g i := by
  rw [List.range_succ, List.flatMap_append]
  simp
theorem ok_all_stands {f : Addr} {fd : FuncData} (F : Fun K "all_stands" "all_stands" s_all_stands f fd) (T : Txt K CB CA CO CC) (hrange : mg "range" = none) : FnOk P w K mg base CX0 1 f fd ["board"] (spStands CB) := by
  refine F.ok sc_all_stands (fun vs H Q E h => ?_) (fun cdv A outer s H vs Q E hr h => ?_)
  · obtain ⟨b, wd, L, rfl, _⟩ := h
    rfl
  · obtain ⟨b, wd, L, rfl, ⟨dx, hb⟩, n4, v3, k⟩ := h
    have nd := sc_all_stands.nd
    refine ⟨_, pss_cons (ps_set (i := 1) nd rfl (Or.inl rfl) (pe_lst pa_nil))
      (pss_cons (ps_for PassesOwn.never rfl (pi_range1 rfl hrange (pa_cons (pe_fld (pv 0) rfl) pa_nil)) (pg_name (i := 2) nd rfl (Or.inl rfl))
        (pss_one (ps_for PassesOwn.never rfl (pi_range1 rfl hrange (pa_cons (pe_fld (pv 0) rfl) pa_nil)) (pg_name (i := 3) nd rfl (Or.inl rfl))
          (pss_cons (ps_expr (pe_bm PySem.F.plainAttrs_list PySem.F.slot_list_append PySem.F.type_list_append mt_append (pv 1) (pa_cons (pe_tup (pa_cons (pv 2) (pa_cons (pv 3) (pa_cons pe_int pa_nil)))) pa_nil)))
          (pss_one (ps_expr (pe_bm PySem.F.plainAttrs_list PySem.F.slot_list_append PySem.F.type_list_append mt_append (pv 1) (pa_cons (pe_tup (pa_cons (pv 2) (pa_cons (pv 3) (pa_cons pe_int pa_nil)))) pa_nil))))))))
      (pss_one (ps_ret (pv 1)))), ?_⟩
    refine ⟨Nat.zero_le _, fun r hr0 => ?_⟩
    let g : Nat → List Stand := fun p => (List.range wd.v).flatMap fun s => [(⟨p, s, false⟩ : Stand), ⟨p, s, true⟩]
    let Inv : List Stand → Hp → Prop := fun xs H' => Same H H' ∧ ∃ ts, H' r = some (.lst (ts.map V.ref)) ∧ TupsAt H' ts xs
    have glen : ∀ p, (g p).length = wd.v * 2 := fun p => by
      show ((List.range wd.v).flatMap _).length = _
      rw [flatMap_len (m := 2) (fun _ => rfl), List.length_range]
    have start : Inv [] (upd H r (.lst [])) := ⟨same_new hr0, [], upd_same, rfl, fun i t x a _ => by simp at a⟩
    -- one append
    have app : ∀ (xs : List Stand) (H1 : Hp) (x : Stand) (t : Addr), Inv xs H1 → H1 t = none → xs.length < 100 → ∃ ts : List Addr, upd H1 t (.tup (stV x.p x.s x.locked)) r = some (.lst (ts.map V.ref)) ∧ (ts.map V.ref).length < sizeLine ∧
        Inv (xs ++ [x]) (upd (upd H1 t (.tup (stV x.p x.s x.locked))) r (.lst (ts.map V.ref ++ [.ref t]))) := by
      rintro xs H1 x t ⟨s1, ts, hts, tt⟩ ht hx
      have ntr : r ≠ t := ne_of_none hts ht
      refine ⟨ts, by rw [upd_ne ntr]; exact hts, by rw [List.length_map, tt.1]; exact Nat.lt_of_lt_of_le hx (by decide), ?_, ts ++ [t], ?_, ?_⟩
      · intro c o e
        rw [upd_ne (ne_of_none e hr0)]
        exact (same_new ht) _ _ (s1 _ _ e)
      · rw [upd_same, List.map_append]
        rfl
      · refine TupsAt.keep (H := upd H1 t (.tup (stV x.p x.s x.locked))) (fun c ys e => ?_) ((tt.same (same_new ht)).snoc upd_same)
        have : c ≠ r := fun q => by
          rw [q, upd_ne ntr, hts] at e
          cases e
        rw [upd_ne this]
        exact e
    have s0 : Same H (upd H r (.lst [])) := same_new hr0
    refine ⟨_, rfl, b, CB, dx, _, _, rfl, s0 _ _ hb, T.clB, T.nPlaces, bF_places _ _ _, (wd.n : Int), rfl, by omega, by omega, ?_⟩
    refine for_range (n := ((wd.n : Int) - 0).toNat) (fun i σ H' => ∃ v2 v3 : Option V, σ = [some (.ref b), some (.ref r), v2, v3] ∧ Inv ((List.range i).flatMap g) H') ⟨none, none, rfl, start⟩ ?_ ?_
    · rintro i σ H' hi ⟨v2, v3', rfl, I⟩
      have hi' : i < wd.n := by omega
      refine ⟨_, rfl, b, CB, dx, _, _, rfl, I.1 _ _ hb, T.clB, T.nSelves, bF_selves _ _ _, (wd.v : Int), rfl, by omega, by omega, ?_⟩
      refine for_range (n := ((wd.v : Int) - 0).toNat) (fun j σ H' => ∃ v3 : Option V, σ = [some (.ref b), some (.ref r), some (.int (0 + (i : Int))), v3] ∧ Inv ((List.range i).flatMap g ++ (List.range j).flatMap fun s => [(⟨i, s, false⟩ : Stand), ⟨i, s, true⟩]) H')
        ⟨_, rfl, by simpa using I⟩ ?_ ?_
      · rintro j σ H2 hj ⟨w3, rfl, I2⟩
        have hj' : j < wd.v := by omega
        have len1 : ((List.range i).flatMap g ++ (List.range j).flatMap fun s => [(⟨i, s, false⟩ : Stand), ⟨i, s, true⟩]).length < 98 := by
          rw [List.length_append, flatMap_len (m := wd.v * 2) glen, flatMap_len (m := 2) (fun _ => rfl), List.length_range, List.length_range]
          have h1 : i * (wd.v * 2) ≤ 3 * 6 := Nat.mul_le_mul (by omega) (by omega)
          omega
        obtain ⟨s2, ts2, hts2, tt2⟩ := I2
        refine ⟨_, rfl, .inl ⟨rfl, _, SqL.of hts2⟩, _, rfl, _, rfl, (by show 3 ≤ sizeLine; decide), fun t ht => ?_⟩
        have ei : (0 + (i : Int)) = (i : Int) := by omega
        have ej : (0 + (j : Int)) = (j : Int) := by omega
        rw [ei, ej] at *
        obtain ⟨ts3, a1, a2, I3⟩ := app _ H2 ⟨i, j, false⟩ t ⟨s2, ts2, hts2, tt2⟩ ht (by omega)
        refine ⟨r, _, _, rfl, rfl, a1, a2, ?_⟩
        obtain ⟨s3, ts4, hts4, tt4⟩ := I3
        refine ⟨_, rfl, .inl ⟨rfl, _, SqL.of hts4⟩, _, rfl, _, rfl, (by show 3 ≤ sizeLine; decide), fun t2 ht2 => ?_⟩
        obtain ⟨ts5, b1, b2, I5⟩ := app _ _ ⟨i, j, true⟩ t2 ⟨s3, ts4, hts4, tt4⟩ ht2 (by rw [List.length_append]; show _ + 1 < 100; omega)
        refine ⟨r, _, _, rfl, rfl, b1, b2, ?_⟩
        refine ⟨_, rfl, ?_⟩
        rw [range_flat, ← List.append_assoc]
        rw [List.append_assoc] at I5
        rw [List.append_assoc] at I5
        rw [List.append_assoc]
        exact I5
      · rintro σ H2 ⟨w3, rfl, I2⟩
        refine ⟨_, _, rfl, ?_⟩
        have e : ((wd.v : Int) - 0).toNat = wd.v := by omega
        rw [e] at I2
        rw [range_flat]
        exact I2
    · rintro σ H' ⟨v2, v3', rfl, s1, ts, hts, tt⟩
      refine ⟨_, rfl, ?_⟩
      have e : ((wd.n : Int) - 0).toNat = wd.n := by omega
      rw [e] at tt
      exact k H' r ts s1 hr0 hts tt
end
end Sel

set_option maxRecDepth 100000
set_option maxHeartbeats 2000000
namespace Sel
open PySem PySem.Spec PyProof.Rows L2
open Kp379 (actsAt actAt Stand stands)
theorem yesT {σ : L2.St} {H : Hp} {A B : Hp → Prop} (h : A H) : tYes σ H fun b H3 => if b = true then A H3 else B H3 := iteT (A := A H) (B := B H) h
theorem q_eq {Q : V → Hp → Prop} {a b : V} {H : Hp} (e : b = a) (h : Q a H) : Q b H := by
  rw [e]
  exact h
/-- at r a list of pairs, a stand and how likely each -/
def PrsAt (H : Hp) (prs : List (Addr × Addr)) (ws : List (Stand × Int)) : Prop := prs.length = ws.length ∧ ∀ (i : Nat) (q : Addr × Addr) (z : Stand × Int), prs[i]? = some q → ws[i]? = some z → H q.1 = some (.tup [.ref q.2, .int z.2]) ∧ H q.2 = some (.tup (stV z.1.p z.1.s z.1.locked))
def WaysAt (H : Hp) (r : Addr) (ws : List (Stand × Int)) : Prop := ∃ prs : List (Addr × Addr), H r = some (.lst (prs.map fun q => V.ref q.1)) ∧ PrsAt H prs ws
theorem PrsAt.keep {H H' : Hp} {prs : List (Addr × Addr)} {ws : List (Stand × Int)} (s : ∀ b ys, H b = some (.tup ys) → H' b = some (.tup ys)) (h : PrsAt H prs ws) : PrsAt H' prs ws :=
  ⟨h.1, fun i q z a b => ⟨s _ _ (h.2 i q z a b).1, s _ _ (h.2 i q z a b).2⟩⟩
theorem PrsAt.same {H H' : Hp} {prs : List (Addr × Addr)} {ws : List (Stand × Int)} (s : Same H H') (h : PrsAt H prs ws) : PrsAt H' prs ws := h.keep fun b ys e => s _ _ e
theorem PrsAt.snoc {H : Hp} {prs : List (Addr × Addr)} {ws : List (Stand × Int)} {q : Addr × Addr} {z : Stand × Int} (h : PrsAt H prs ws) (h1 : H q.1 = some (.tup [.ref q.2, .int z.2])) (h2 : H q.2 = some (.tup (stV z.1.p z.1.s z.1.locked))) : PrsAt H (prs ++ [q]) (ws ++ [z]) :=
  ⟨by rw [List.length_append, List.length_append, h.1]; rfl, ix_snoc (R := fun (q : Addr × Addr) (z : Stand × Int) => H q.1 = some (.tup [.ref q.2, .int z.2]) ∧ H q.2 = some (.tup (stV z.1.p z.1.s z.1.locked))) h.1 h.2 ⟨h1, h2⟩⟩
section
variable {P : Program} {w : PySem.World} {K : PySem.W.Frag} {mg : Str → Option Value} {base : Heap} {CB CA CO CC : Addr}
def spSelfB (CA : Addr) : Sp := fun vs H Q _ => ∃ (t : Trip) (x : Kp379.Act) (s : Nat) (l : Bool), vs = [.ref t.1, .int (s : Int), .int (b2z l)] ∧ ActAt CA H t x ∧ Q (.int (selfB x s l : Nat)) H
theorem b2z_one (l : Bool) : decide ((b2z l : Int) = 1) = l := by cases l <;> rfl
theorem ok_self_behind {f : Addr} {fd : FuncData} (F : Fun K "self_behind" "self_behind" s_self_behind f fd) (T : Txt K CB CA CO CC) : FnOk P w K mg base CX0 1 f fd ["act", "who", "locked"] (spSelfB CA) := by
  refine F.ok sc_self_behind (fun vs H Q E h => ?_) (fun cdv A outer s H vs Q E hr h => ?_)
  · obtain ⟨t, x, s, l, rfl, _⟩ := h
    rfl
  · obtain ⟨t, x, s, l, rfl, ⟨⟨dx, h1⟩, _⟩, k⟩ := h
    refine ⟨_, pss_cons (ps_if (PW.pt (pw_or (pt_cmpR op_eq (pe_fld (pv 0) rfl) pe_int (nomark _)) (pw_or1 (pt_cmpR op_eq (pv 2) pe_int (nomark _))))) (pss_one (ps_ret (pv 1))) pss_nil)
      (pss_one (ps_ret (pe_op op_sub (pe_fld (pv 0) rfl) pe_int))), ?_⟩
    refine ⟨_, rfl, t.1, CA, dx, _, _, rfl, h1, T.clA, T.nInto, aF_into _ _ _ _, rfl, _, rfl, ?_⟩
    have e0 : decide ((V.int (x.turn : Int)) = V.int 0) = (x.turn == 0) := by
      by_cases c : x.turn = 0
      · rw [c]; rfl
      · rw [decide_eq_false (by intro e; injection e with e; omega), beq_false_of_ne c]
    have e1 : decide ((V.int (b2z l)) = V.int 1) = l := by cases l <;> rfl
    rw [e0]
    unfold selfB at k
    cases c : (x.turn == 0) with
    | true =>
      rw [c, Bool.or_true] at k
      exact iteT (iteT ⟨_, rfl, by simpa using k⟩)
    | false =>
      rw [c, Bool.or_false] at k
      refine iteF ⟨_, rfl, rfl, _, rfl, ?_⟩
      rw [e1]
      cases l with
      | true => exact iteT ⟨_, rfl, by simpa using k⟩
      | false =>
        refine iteF ⟨_, rfl, t.1, CA, dx, _, _, rfl, h1, T.clA, T.nInto, aF_into _ _ _ _, _, _, rfl, rfl, ?_⟩
        have c' : x.turn ≠ 0 := by simpa using c
        have e : ((x.turn - 1 : Nat) : Int) = (x.turn : Int) - 1 := by omega
        have k' : Q (.int ((x.turn - 1 : Nat) : Int)) H := by simpa using k
        rw [e] at k'
        exact k'
def spLockB (CA : Addr) : Sp := fun vs H Q _ => ∃ (t : Trip) (x : Kp379.Act) (l : Bool), vs = [.ref t.1, .int (b2z l)] ∧ ActAt CA H t x ∧ Q (.int (b2z (lockB x l))) H
theorem ok_lock_behind {f : Addr} {fd : FuncData} (F : Fun K "lock_behind" "lock_behind" s_lock_behind f fd) (T : Txt K CB CA CO CC) (hmax : mg "max" = none) : FnOk P w K mg base CX0 1 f fd ["act", "locked"] (spLockB CA) := by
  refine F.ok sc_lock_behind (fun vs H Q E h => ?_) (fun cdv A outer s H vs Q E hr h => ?_)
  · obtain ⟨t, x, l, rfl, _⟩ := h
    rfl
  · obtain ⟨t, x, l, rfl, ⟨⟨dx, h1⟩, _⟩, k⟩ := h
    refine ⟨_, pss_one (ps_ret (pe_callB (call_max2 rfl) (by rfl) hmax (by decide +kernel) (pa_cons (pe_fld (pv 0) rfl) (pa_cons (pv 1) pa_nil)))), ?_⟩
    refine ⟨_, rfl, t.1, CA, dx, _, _, rfl, h1, T.clA, T.nLocks, aF_locks _ _ _ _, _, rfl, _, _, rfl, ?_⟩
    have e : (if b2z l > b2z x.lock then b2z l else b2z x.lock) = b2z (lockB x l) := by
      unfold lockB
      cases l <;> cases x.lock <;> rfl
    rw [e]
    exact k
/-- what an act brings: in parts -/
def spBrought (CA CO : Addr) : Sp := fun vs H Q _ => ∃ (t : Trip) (x : Kp379.Act) (st o : Addr) (n v p s u : Nat) (l : Bool) (S : Int) (X : Later), vs = [.ref t.1, .ref st, .int (u : Int), .ref o] ∧ ActAt CA H t x ∧ H st = some (.tup (stV p s l)) ∧
  OutAt CO H o n v S X ∧ ActOk n v x ∧ n ≤ 4 ∧ s < v ∧ u < v ∧ ∀ H', Same H H' → Q (.int (bringI n S X s l x u)) H'
theorem parts_lt : PARTS < 2 ^ 60 := by decide
theorem parts_eq : PARTS = 144403552893600 := rfl
theorem small_mul {i : Int} (h1 : -9 ≤ i) (h2 : i ≤ 9) : -(2 ^ 64) < i * PARTS ∧ i * PARTS < 2 ^ 64 := by
  rw [parts_eq]
  omega
theorem share_bound {n v : Nat} {x : Kp379.Act} (ok : ActOk n v x) {i : Nat} (hi : i < n) : 0 ≤ ((x.to.getD i 0 : Nat) : Int) * shareI x ∧ ((x.to.getD i 0 : Nat) : Int) * shareI x < 2 ^ 64 ∧ x.to.getD i 0 ≤ 9 := by
  have hil : i < x.to.length := by rw [ok.tl]; exact hi
  have hxl : x.to.getD i 0 ≤ 9 := by
    rw [List.getD_eq_getElem?_getD, List.getElem?_eq_getElem hil]
    exact ok.tb _ (List.getElem_mem _)
  have hsh : 0 ≤ shareI x ∧ shareI x ≤ PARTS := by
    unfold shareI
    exact ⟨Int.ediv_nonneg (by decide) (by omega), Int.ediv_le_self _ (by decide)⟩
  refine ⟨Int.mul_nonneg (by omega) hsh.1, ?_, hxl⟩
  have h9 : ((x.to.getD i 0 : Nat) : Int) * shareI x ≤ 9 * PARTS := Int.mul_le_mul (by omega) hsh.2 hsh.1 (by decide)
  have : (9 : Int) * PARTS < 2 ^ 64 := by decide
  omega
theorem nums_get {l : List Nat} {i : Nat} (h : i < l.length) : (nums l)[i]? = some (V.int ((l.getD i 0 : Nat) : Int)) := by
  unfold nums
  rw [List.getElem?_map, List.getD_eq_getElem?_getD, List.getElem?_eq_getElem h]
  rfl
theorem waysA_get {n : Nat} {x : Kp379.Act} {z : Stand} {i : Nat} (h : i < n) : (waysA n x z)[i]? = some (Kp379.behind z x i, ((x.to.getD i 0 : Nat) : Int) * shareI x) := by
  unfold waysA
  rw [List.getElem?_map, range_get h]
  rfl
theorem waysA_len (n : Nat) (x : Kp379.Act) (z : Stand) : (waysA n x z).length = n := by
  unfold waysA
  rw [List.length_map, List.length_range]
def spBehind (CA : Addr) : Sp := fun vs H Q _ => ∃ (t : Trip) (x : Kp379.Act) (st : Addr) (n v p s : Nat) (l : Bool), vs = [.ref t.1, .ref st] ∧ ActAt CA H t x ∧ H st = some (.tup (stV p s l)) ∧ ActOk n v x ∧ n ≤ 4 ∧
  ∀ (H' : Hp) (r : Addr), Same H H' → H r = none → WaysAt H' r (waysA n x ⟨p, s, l⟩) → Q (.ref r) H'
theorem ok_stands_behind {f : Addr} {fd : FuncData} (F : Fun K "stands_behind" "stands_behind" s_stands_behind f fd) (T : Txt K CB CA CO CC) (hsum : mg "sum" = none) (henum : mg "enumerate" = none) (hP : IntC mg "PARTS" PARTS)
    (O1 : Own P w K mg base "self_behind" 1 ["act", "who", "locked"] (spSelfB CA)) (O2 : Own P w K mg base "lock_behind" 1 ["act", "locked"] (spLockB CA)) : FnOk P w K mg base CX0 2 f fd ["act", "stand"] (spBehind CA) := by
  refine F.ok sc_stands_behind (fun vs H Q E h => ?_) (fun cdv A outer s H vs Q E hr h => ?_)
  · obtain ⟨t, x, st, n, v, p, s, l, rfl, _⟩ := h
    rfl
  · obtain ⟨t, x, st, n, v, p, s, l, rfl, HA, hst, ok, hn, k⟩ := h
    have nd := sc_stands_behind.nd
    refine ⟨_, pss_cons (ps_set (i := 2) nd rfl (Or.inr rfl) (pe_own O1 hr (pa_cons (pv 0) (pa_cons (pe_ix ix_tup (pv 1) pe_int (fun _ _ => rfl)) (pa_cons (pe_ix ix_tup (pv 1) pe_int (fun _ _ => rfl)) pa_nil)))))
      (pss_cons (ps_set (i := 3) nd rfl (Or.inr rfl) (pe_own O2 hr (pa_cons (pv 0) (pa_cons (pe_ix ix_tup (pv 1) pe_int (fun _ _ => rfl)) pa_nil))))
      (pss_cons (ps_set (i := 4) nd rfl (Or.inr rfl) (pe_op op_fdivN (pe_intC hP) (pe_callB (cr_sum rfl) (by rfl) hsum (by decide +kernel) (pa_cons (pe_fld (pv 0) rfl) pa_nil))))
      (pss_one (ps_ret (pe_lc (own := [("place", 5), ("weight", 6)]) (g := gTup K 2 (gCons (gName 5) (gCons (gName 6) gNil))) (tt := tYes) rfl nd (pi_enum (by rfl) henum (pa_cons (pe_fld (pv 0) rfl) pa_nil))
        (blkOk_by (N := n_stands_behind) (sc := defScope s_stands_behind) (by decide +kernel)) (fun _ _ _ _ _ => pg_tup rfl (pgs_cons (pg_name (i := 5) nd rfl (Or.inl rfl)) (pgs_cons (pg_name (i := 6) nd rfl (Or.inl rfl)) pgs_nil)))
        (fun _ _ _ _ _ => pts_nil) (fun _ _ _ _ _ => pe_tup (pa_cons (pe_tup (pa_cons (pv 5) (pa_cons (pv 2) (pa_cons (pv 3) pa_nil)))) (pa_cons (pe_op op_mul (pv 6) (pv 4)) pa_nil)))))))), ?_⟩
    obtain ⟨⟨dx, h1⟩, hpa, hwa⟩ := HA
    have hTup : ∀ (j : Nat) (y : V), (stV p s l)[j]? = some y → atI (stV p s l) (j : Int) = some y := fun j y e => at_of (j := j) rfl e
    refine ⟨_, rfl, _, rfl, st, _, _, _, rfl, rfl, SqT.of hst, hTup 1 _ rfl, _, rfl, st, _, _, _, rfl, rfl, SqT.of hst, hTup 2 _ rfl, t, x, s, l, rfl, ⟨⟨dx, h1⟩, hpa, hwa⟩, ?_⟩
    refine ⟨_, rfl, _, rfl, st, _, _, _, rfl, rfl, SqT.of hst, hTup 2 _ rfl, t, x, l, rfl, ⟨⟨dx, h1⟩, hpa, hwa⟩, ?_⟩
    have hsumE : (x.to.map fun (n : Nat) => (n : Int)).sum = (Kp346.total x.to : Int) := (total_sum x.to).symm
    have t0 := ok.t0
    have t36 := ok.tot hn
    refine ⟨_, rfl, t.1, CA, dx, _, _, rfl, h1, T.clA, T.nWeights, aF_weights _ _ _ _, t.2.2, _, rfl, SqL.of (by rw [hwa, nums_eq]), _, _, rfl, rfl, ?_, ?_⟩
    · rw [hsumE]
      exact ⟨by omega, by omega⟩
    have eS : PARTS.fdiv (x.to.map fun (n : Nat) => (n : Int)).sum = shareI x := by
      rw [hsumE, Int.fdiv_eq_ediv_of_nonneg _ (by omega)]
      rfl
    refine ⟨_, rfl, t.1, CA, dx, _, _, rfl, h1, T.clA, T.nWeights, aF_weights _ _ _ _, t.2.2, _, rfl, SqL.of hwa, fun D hD => ?_⟩
    have nl : (nums x.to).length = n := by
      unfold nums
      rw [List.length_map, ok.tl]
    refine lc_it (walk_enum (K := K) (a := t.2.2) (xs := nums x.to)) (fun i H' => Same H H' ∧ ∃ prs : List (Addr × Addr), H' D = some (.lst (prs.map fun q => V.ref q.1)) ∧ PrsAt H' prs ((waysA n x ⟨p, s, l⟩).take i))
      ⟨same_new hD, [], upd_same, rfl, fun i q z a _ => by simp at a⟩ (fun i H' _ h => SqL.of (h.1 _ _ hwa)) ?_ ?_
    · rintro i y H1 H2 hi ⟨s1, prs, hD1, pr⟩ ⟨tp, a1, b1, rfl, ntp, rfl, ea, eb⟩
      have ea' : V.int (i : Int) = a1 := Option.some.inj ea
      subst ea'
      have hi' : i < n := by rw [← nl]; exact hi
      have hil : i < x.to.length := by rw [ok.tl]; exact hi'
      have eb' : b1 = V.int ((x.to.getD i 0 : Nat) : Int) := Option.some.inj (eb.symm.trans (nums_get hil))
      subst eb'
      have s2 : Same H1 (upd H1 tp (.tup [V.int (i : Int), V.int ((x.to.getD i 0 : Nat) : Int)])) := same_new ntp
      obtain ⟨b0, b1, b9⟩ := share_bound ok hi'
      refine ⟨tp, _, rfl, SqT.of upd_same, rfl, _, _, rfl, _, _, rfl, rfl, rfl, yesT ?_⟩
      refine ⟨_, rfl, _, rfl, _, rfl, (by show 3 ≤ sizeLine; decide), fun tk htk => ?_⟩
      have s3 : Same H1 (upd (upd H1 tp (.tup [V.int (i : Int), V.int ((x.to.getD i 0 : Nat) : Int)])) tk (.tup (stV i (selfB x s l) (lockB x l)))) := s2.trans (same_new htk)
      refine ⟨_, rfl, _, rfl, _, _, rfl, rfl, .inl ⟨by omega, by omega⟩, (by show 2 ≤ sizeLine; decide), fun tq htq => ?_⟩
      have s4 := s3.trans (same_new (o := .tup [V.ref tk, V.int (((x.to.getD i 0 : Nat) : Int) * PARTS.fdiv (x.to.map fun (n : Nat) => (n : Int)).sum)]) htq)
      refine ⟨_, s4 _ _ hD1, ?_, ?_, prs ++ [(tq, tk)], ?_, ?_⟩
      · rw [List.length_map, pr.1, List.length_take]
        exact Nat.lt_of_le_of_lt (Nat.min_le_left _ _) (Nat.lt_of_lt_of_le (show i < 4 by omega) (by decide))
      · intro c u e
        rw [upd_ne (ne_of_none e hD)]
        exact s4 _ _ (s1 _ _ e)
      · rw [upd_same, List.map_append]
        rfl
      · rw [take_more (waysA_get hi')]
        have nk : tk ≠ tq := ne_of_none upd_same htq
        refine PrsAt.keep (H := upd _ tq (.tup [V.ref tk, V.int (((x.to.getD i 0 : Nat) : Int) * PARTS.fdiv (x.to.map fun (n : Nat) => (n : Int)).sum)])) (fun c ys e => ?_) ((pr.same s4).snoc (q := (tq, tk)) (by rw [upd_same, eS]) (by rw [upd_ne nk]; exact upd_same))
        have : c ≠ D := fun q => by
          rw [q, s4 _ _ hD1] at e
          cases e
        rw [upd_ne this]
        exact e
    · rintro H1 ⟨s1, prs, hD1, pr⟩
      rw [nl, List.take_of_length_le (by rw [waysA_len]; exact Nat.le_refl _)] at pr
      exact k H1 D s1 hD ⟨prs, hD1, pr⟩
theorem ok_brought_by {f : Addr} {fd : FuncData} (F : Fun K "brought_by" "brought_by" s_brought_by f fd) (T : Txt K CB CA CO CC) (hP : IntC mg "PARTS" PARTS)
    (O1 : Own P w K mg base "stands_behind" 2 ["act", "stand"] (spBehind CA)) : FnOk P w K mg base CX0 3 f fd ["act", "stand", "light", "later"] (spBrought CA CO) := by
  refine F.ok sc_brought_by (fun vs H Q E h => ?_) (fun cdv A outer s H vs Q E hr h => ?_)
  · obtain ⟨t, x, st, o, n, v, p, s, u, l, S, X, rfl, _⟩ := h
    rfl
  · obtain ⟨t, x, st, o, n, v, p, s, u, l, S, X, rfl, HA, hst, HO, ok, hn, hs, hu, k⟩ := h
    have nd := sc_brought_by.nd
    have hU := hu_of hr
    refine ⟨_, pss_cons (ps_set (i := 4) nd rfl (Or.inl rfl) (pe_op op_mul (pe_op op_mul (pe_ix ix_list (pe_fld (pv 0) rfl) (pv 2) (fun _ _ => rfl)) (pe_intC hP)) (pe_fld (pv 3) rfl)))
      (pss_cons (ps_for PassesOwn.never rfl (pi_list (pe_own O1 hr (pa_cons (pv 0) (pa_cons (pv 1) pa_nil)))) (pg_tup rfl (pgs_cons (pg_name (i := 5) nd rfl (Or.inl rfl)) (pgs_cons (pg_name (i := 6) nd rfl (Or.inl rfl)) pgs_nil)))
        (pss_one (ps_aug (i := 4) nd rfl (Or.inl rfl) (pe_op op_mul (pv 6)
          (pe_ix ix_list (pe_dget hU (pe_fld (pv 3) rfl) (pv 5) (fun _ _ => rfl)) (pv 2) (fun _ _ => rfl))) ip_add)))
      (pss_one (ps_ret (pv 4)))), ?_⟩
    obtain ⟨⟨dx, h1⟩, hpa, hwa⟩ := id HA
    have hpl : u < x.pays.length := by rw [ok.pl]; exact hu
    have epay : (x.pays.map V.int)[u]? = some (V.int (x.pays.getD u 0)) := by
      rw [List.getElem?_map, List.getD_eq_getElem?_getD, List.getElem?_eq_getElem hpl]
      rfl
    have pb : -9 ≤ x.pays.getD u 0 ∧ x.pays.getD u 0 ≤ 9 := by
      rw [List.getD_eq_getElem?_getD, List.getElem?_eq_getElem hpl]
      exact ok.pb _ (List.getElem_mem _)
    obtain ⟨dxo, D, m, ho, HD⟩ := HO
    refine ⟨_, rfl, t.1, CA, dx, _, _, rfl, h1, T.clA, T.nPays, aF_pays _ _ _ _, _, rfl, t.2.1, _, _, _, rfl, rfl, SqL.of hpa, at_of (j := u) rfl epay, _, _, rfl, rfl, .inl ⟨by omega, by omega⟩,
      _, rfl, o, CO, dxo, _, _, rfl, ho, T.clO, T.nScale, oF_scale _ _, _, _, rfl, rfl, .inl (small_mul pb.1 pb.2), ?_⟩
    refine ⟨_, rfl, _, rfl, t, x, st, n, v, p, s, l, rfl, HA, hst, ok, hn, fun H1 r s1 hr0 ⟨prs, hr1, pr⟩ => ?_⟩
    have pl : prs.length = n := pr.1.trans (waysA_len _ _ _)
    refine ⟨r, rfl, ⟨_, SqL.of hr1⟩, for_list (K := K) (a := r) (xs := prs.map fun q => V.ref q.1) (fun i σ H' => Same H1 H' ∧ ∃ v5 v6 : Option V, σ = [some (.ref t.1), some (.ref st), some (.int (u : Int)), some (.ref o),
        some (.int (x.pays.getD u 0 * PARTS * S + ((List.range i).map fun q => ((x.to.getD q 0 : Nat) : Int) * shareI x * X q (selfB x s l) (lockB x l) u).sum)), v5, v6])
      ⟨Same.refl _, none, none, by rw [List.range_zero, List.map_nil, List.sum_nil, Int.add_zero]; rfl⟩ (fun i σ H' _ h => SqL.of (h.1 _ _ hr1)) ?_ ?_⟩
    · rintro i y σ H2 hi ⟨s2, v5, v6, rfl⟩
      obtain ⟨q, hq, rfl⟩ := map_ref hi
      have hi' : i < n := by rw [← pl]; exact (List.getElem?_eq_some_iff.mp hq).1
      obtain ⟨hq1, hq2⟩ := (pr.same s2).2 i q _ hq (waysA_get hi')
      obtain ⟨b0, b1, b9⟩ := share_bound ok hi'
      have s12 := s1.trans s2
      refine ⟨q.1, _, rfl, SqT.of hq1, rfl, _, _, rfl, _, _, rfl, rfl, ?_⟩
      obtain ⟨kvs, hD, _, hall⟩ := (HD.same s12).ex
      obtain ⟨q3, hq3, hq4⟩ := hall i (selfB x s l) (lockB x l) ⟨hi', selfB_lt ok hs⟩
      refine ⟨_, rfl, _, rfl, _, rfl, o, CO, dxo, _, _, rfl, s12 _ _ ho, T.clO, T.nWorths, oF_worths _ _, _, rfl, D, _, rfl, hq3 ▸ DGet.t hD hq2, _, rfl, q3, _, _, _, rfl, rfl, SqL.of hq4, at_of (j := u) rfl (by rw [List.getElem?_map, range_get hu]; rfl), _, _, rfl, rfl, .inl ⟨by omega, b1⟩, _, _, rfl, rfl, s2, some (.ref q.2), some (.int (((x.to.getD i 0 : Nat) : Int) * shareI x)), ?_⟩
      rw [List.range_succ, List.map_append, List.map_cons, List.map_nil, sum_snoc, ← Int.add_assoc]
      rfl
    · rintro σ H2 ⟨s2, v5, v6, rfl⟩
      rw [List.length_map, pl]
      exact ⟨_, rfl, k H2 (s1.trans s2)⟩
end
end Sel

set_option maxRecDepth 100000
set_option maxHeartbeats 2000000
namespace Sel
open PySem PySem.Spec PyProof.Rows L2
open Kp379 (actsAt actAt Stand stands)
section
variable {P : Program} {w : PySem.World} {K : PySem.W.Frag} {mg : Str → Option Value} {base : Heap} {CB CA CO CC : Addr}
def spForItself (CB CA CO : Addr) : Sp := fun vs H Q _ => ∃ (b st o : Addr) (wd : Kp379.World) (L : Addr) (ls : List Addr) (as : List (List Trip)) (p s : Nat) (l : Bool) (S : Int) (X : Later), vs = [.ref b, .ref st, .ref o] ∧ BoardAt CB CA H b wd L ls as ∧
  H st = some (.tup (stV p s l)) ∧ p < wd.n ∧ s < wd.v ∧ OutAt CO H o wd.n wd.v S X ∧ ∀ (H' : Hp) (r : Addr), Same H H' → H r = none → H' r = some (.lst ((amounts wd S X p s l).map V.int)) → Q (.ref r) H'
theorem ok_brought_for_itself {f : Addr} {fd : FuncData} (F : Fun K "brought_for_itself" "brought_for_itself" s_brought_for_itself f fd) (T : Txt K CB CA CO CC)
    (O1 : Own P w K mg base "brought_by" 3 ["act", "stand", "light", "later"] (spBrought CA CO)) : FnOk P w K mg base CX0 4 f fd ["board", "stand", "later"] (spForItself CB CA CO) := by
  refine F.ok sc_brought_for_itself (fun vs H Q E h => ?_) (fun cdv A outer s H vs Q E hr h => ?_)
  · obtain ⟨b, st, o, wd, L, ls, as, p, s, l, S, X, rfl, _⟩ := h
    rfl
  · obtain ⟨b, st, o, wd, L, ls, as, p, s, l, S, X, rfl, B, hst, hp, hs, HO, k⟩ := h
    have nd := sc_brought_for_itself.nd
    refine ⟨_, pss_one (ps_ret (pe_lc (own := [("act", 3)]) (g := gName 3) (tt := tYes) rfl nd (pi_list (pe_ix ix_list (pe_fld (pv 0) rfl) (pe_ix ix_tup (pv 1) pe_int (fun _ _ => rfl)) (fun _ _ => rfl)))
      (blkOk_by (N := n_brought_for_itself) (sc := defScope s_brought_for_itself) (by decide +kernel)) (fun _ _ _ _ _ => pg_name (i := 3) nd rfl (Or.inl rfl)) (fun _ _ _ _ _ => pts_nil)
      (fun _ _ _ _ _ => pe_own O1 hr (pa_cons (pv 3) (pa_cons (pv 1) (pa_cons (pe_ix (r := rIxT K) ix_tup (pv 1) pe_int (fun _ _ => rfl)) (pa_cons (pv 2) pa_nil))))))), ?_⟩
    obtain ⟨dx, hb⟩ := B.bd
    obtain ⟨lp, hlp, LA⟩ := B.place hp
    refine ⟨_, rfl, b, CB, dx, _, _, rfl, hb, T.clB, T.nActs, bF_acts _ _ _, _, rfl, st, _, _, _, rfl, rfl, SqT.of hst, at_of (j := 0) (v := V.int (p : Int)) rfl rfl, L, _, _, _, rfl, rfl, SqL.of B.ll, at_of (j := p) (v := V.ref lp) rfl (by rw [List.getElem?_map, hlp]; rfl), lp, rfl, ⟨_, SqL.of LA.lst⟩, fun D hD => ?_⟩
    refine lc_list (K := K) (a := lp) (xs := (as.getD p []).map fun t => V.ref t.1) (fun i H' => Same H H' ∧ H' D = some (.lst (((amounts wd S X p s l).take i).map V.int))) ⟨same_new hD, upd_same⟩ (fun i H' _ h => SqL.of (h.1 _ _ LA.lst)) ?_ ?_
    · rintro i y H' hi ⟨s1, hD1⟩
      obtain ⟨t, ht, rfl⟩ : ∃ t, (as.getD p [])[i]? = some t ∧ y = V.ref t.1 := by
        rw [List.getElem?_map] at hi
        cases e : (as.getD p [])[i]? with
        | none => rw [e] at hi; cases hi
        | some t => rw [e] at hi; exact ⟨t, rfl, (Option.some.inj hi).symm⟩
      have hil : i < (actsAt wd p).length := by
        rw [← LA.len]
        exact (List.getElem?_eq_some_iff.mp ht).1
      have hx := List.getElem?_eq_getElem hil
      have HA := (LA.act i t _ ht hx).same s1
      refine ⟨rfl, ?_⟩
      refine yesT ?_
      refine ⟨_, rfl, _, rfl, _, rfl, st, _, _, _, rfl, rfl, SqT.of (s1 _ _ hst), at_of (j := 1) (v := V.int (s : Int)) rfl rfl, _, rfl, t, _, st, o, wd.n, wd.v, p, s, s, l, S, X, rfl, HA, s1 _ _ hst, HO.same s1, B.wf.act hp (List.getElem_mem hil), B.wf.n4, hs, hs, fun H2 s2 => ?_⟩
      have ll : (amounts wd S X p s l).length ≤ 3 := by
        unfold amounts
        rw [List.length_map]
        exact B.wf.few _ (actsAt_mem B.wf hp)
      refine ⟨_, s2 _ _ hD1, (by rw [List.length_map, List.length_take]; exact Nat.lt_of_le_of_lt (Nat.le_trans (Nat.min_le_right _ _) ll) (by decide)), ?_, ?_⟩
      · intro c u e
        rw [upd_ne (ne_of_none e hD)]
        exact s2 _ _ (s1 _ _ e)
      · have hx2 : (amounts wd S X p s l)[i]? = some (bringI wd.n S X s l (actsAt wd p)[i] s) := by
          unfold amounts
          rw [List.getElem?_map, hx]
          rfl
        rw [upd_same, take_more hx2, List.map_append]
        rfl
    · rintro H' ⟨s1, hD1⟩
      refine k H' D s1 hD ?_
      rw [hD1, List.length_map, LA.len]
      have : (amounts wd S X p s l).take (actsAt wd p).length = amounts wd S X p s l := by
        apply List.take_of_length_le
        unfold amounts
        rw [List.length_map]
        exact Nat.le_refl _
      rw [this]
/-- the first of the greatest -/
def spFirst (K : PySem.W.Frag) : Sp := fun vs H Q _ => ∃ (a : Addr) (ns : List Int), vs = [.ref a] ∧ SqL K H a (ns.map V.int) ∧ ns ≠ [] ∧ Q (.int (firstMax ns : Nat)) H
theorem ok_first_best {f : Addr} {fd : FuncData} (F : Fun K "first_best" "first_best" s_first_best f fd) (hmax : mg "max" = none) : FnOk P w K mg base CX0 1 f fd ["amounts"] (spFirst K) := by
  refine F.ok sc_first_best (fun vs H Q E h => ?_) (fun cdv A outer s H vs Q E hr h => ?_)
  · obtain ⟨a, ns, rfl, _⟩ := h
    rfl
  · obtain ⟨a, ns, rfl, hS, hne, k⟩ := h
    refine ⟨_, pss_one (ps_ret (pe_bm PySem.F.plainAttrs_list PySem.F.slot_list_index PySem.F.type_list_index mt_index (pv 0) (pa_cons (pe_callB (cr_max rfl) (by rfl) hmax (by decide +kernel) (pa_cons (pv 0) pa_nil)) pa_nil))), ?_⟩
    have pos : 0 < ns.length := List.length_pos_iff.mpr hne
    refine ⟨_, rfl, .inl ⟨rfl, _, hS⟩, _, rfl, a, ns, rfl, hS, pos, fun m hm hle => ?_⟩
    have fm := firstMax_ok ns hne
    have em : m = ns.getD (firstMax ns) 0 := by
      obtain ⟨j, hj⟩ := List.getElem?_of_mem hm
      have h1 := fm.le j m hj
      have h2 := hle _ (List.mem_of_getElem? fm.get)
      omega
    refine ⟨a, _, _, firstMax ns, V.int (ns.getD (firstMax ns) 0), rfl, rfl, hS, rfl, ?_, ?_, ?_, ?_, k⟩
    · rw [List.all_map]
      exact List.all_eq_true.mpr fun x _ => rfl
    · rw [List.getElem?_map, fm.get]
      rfl
    · show (ns.getD (firstMax ns) 0 == m) = true
      rw [em]
      exact beq_self_eq_true _
    · intro j z hj hz
      rw [List.getElem?_map] at hz
      cases e : ns[j]? with
      | none => rw [e] at hz; cases hz
      | some y =>
        rw [e] at hz
        have ez : V.int y = z := Option.some.inj hz
        subst ez
        have := fm.first j y e hj
        show (y == m) = false
        exact beq_false_of_ne (by omega)
end
end Sel

set_option maxRecDepth 100000
set_option maxHeartbeats 2000000
namespace Sel
open PySem PySem.Spec PyProof.Rows L2
open Kp379 (actsAt actAt Stand stands)
/-- worth with one step more -/
def oneMore (wd : Kp379.World) (S : Int) (X : Later) : Later := fun p s l u => if (actsAt wd p).isEmpty = true then 0 else bringI wd.n S X s l (actAt wd p (firstMax (amounts wd S X p s l))) u
theorem later_succ (wd : Kp379.World) (k : Nat) : later wd (k + 1) = oneMore wd (PARTS ^ k) (later wd k) := rfl
def vals (v : Nat) (X : Later) (p s : Nat) (l : Bool) : List V := (List.range v).map fun u => V.int (X p s l u)
section
variable {P : Program} {w : PySem.World} {K : PySem.W.Frag} {mg : Str → Option Value} {base : Heap} {CB CA CO CC : Addr}
def spWorths (CB CA CO : Addr) : Sp := fun vs H Q _ => ∃ (b st o : Addr) (wd : Kp379.World) (L : Addr) (ls : List Addr) (as : List (List Trip)) (p s : Nat) (l : Bool) (S : Int) (X : Later), vs = [.ref b, .ref st, .ref o] ∧ BoardAt CB CA H b wd L ls as ∧
  H st = some (.tup (stV p s l)) ∧ p < wd.n ∧ s < wd.v ∧ OutAt CO H o wd.n wd.v S X ∧ ∀ (H' : Hp) (r : Addr), Same H H' → H r = none → H' r = some (.lst (vals wd.v (oneMore wd S X) p s l)) → Q (.ref r) H'
theorem rep_zeros (v : Nat) (X : Later) (p s : Nat) (l : Bool) (h : ∀ u, X p s l u = 0) : (List.replicate ((v : Int)).toNat [V.int 0]).flatten = vals v X p s l := by
  have e : ((v : Int)).toNat = v := by omega
  rw [e]
  have e2 : vals v X p s l = List.replicate v (V.int 0) := by
    unfold vals
    simp only [h]
    rw [List.map_const', List.length_range]
  rw [e2]
  clear e e2 h
  induction v with
  | zero => rfl
  | succ v ih =>
    rw [List.replicate_succ, List.flatten_cons, ih]
    rfl
/-- what's done: none, or the first of the best acts -/
def spDone (CB CA CO : Addr) : Sp := fun vs H Q _ => ∃ (b st o : Addr) (wd : Kp379.World) (L : Addr) (ls : List Addr) (as : List (List Trip)) (p s : Nat) (l : Bool) (S : Int) (X : Later), vs = [.ref b, .ref st, .ref o] ∧ BoardAt CB CA H b wd L ls as ∧
  H st = some (.tup (stV p s l)) ∧ p < wd.n ∧ s < wd.v ∧ OutAt CO H o wd.n wd.v S X ∧ (∀ H', Same H H' → actsAt wd p = [] → Q .non H') ∧
  ∀ (H' : Hp) (t : Trip) (x : Kp379.Act), Same H H' → actsAt wd p ≠ [] → (actsAt wd p)[firstMax (amounts wd S X p s l)]? = some x → ActAt CA H t x → Q (.ref t.1) H'
theorem ok_act_done {f : Addr} {fd : FuncData} (F : Fun K "act_done" "act_done" s_act_done f fd) (T : Txt K CB CA CO CC) (hlen : mg "len" = none)
    (O1 : Own P w K mg base "brought_for_itself" 4 ["board", "stand", "later"] (spForItself CB CA CO)) (O2 : Own P w K mg base "first_best" 1 ["amounts"] (spFirst K)) :
    FnOk P w K mg base CX0 5 f fd ["board", "stand", "later"] (spDone CB CA CO) := by
  refine F.ok sc_act_done (fun vs H Q E h => ?_) (fun cdv A outer s H vs Q E hr h => ?_)
  · obtain ⟨b, st, o, wd, L, ls, as, p, s, l, S, X, rfl, _⟩ := h
    rfl
  · obtain ⟨b, st, o, wd, L, ls, as, p, s, l, S, X, rfl, B, hst, hp, hs, HO, k1, k2⟩ := h
    have nd := sc_act_done.nd
    refine ⟨_, pss_cons (ps_set (i := 3) nd rfl (Or.inl rfl) (pe_own O1 hr (pa_cons (pv 0) (pa_cons (pv 1) (pa_cons (pv 2) pa_nil)))))
      (pss_cons (ps_if (pt_cmpR op_eq (pe_callB call_len_seq (by rfl) hlen PySem.boot_len (pa_cons (pv 3) pa_nil)) pe_int (nomark _)) (pss_one (ps_ret pe_non)) pss_nil)
      (pss_one (ps_ret (pe_ix ix_list (pe_ix ix_list (pe_fld (pv 0) rfl) (pe_ix ix_tup (pv 1) pe_int (fun _ _ => rfl)) (fun _ _ => rfl)) (pe_own O2 (hr.mono (by decide)) (pa_cons (pv 3) pa_nil)) (fun _ _ => rfl))))), ?_⟩
    refine ⟨_, rfl, _, rfl, _, rfl, b, st, o, wd, L, ls, as, p, s, l, S, X, rfl, B, hst, hp, hs, HO, fun H1 r s1 hr0 hr1 => ?_⟩
    obtain ⟨dx, hb⟩ := B.bd
    refine ⟨_, rfl, r, _, rfl, .inl (SqL.of hr1), rfl, _, rfl, ?_⟩
    by_cases c : actsAt wd p = []
    · have e0 : (amounts wd S X p s l).map V.int = [] := by
        unfold amounts
        rw [c]
        rfl
      rw [e0]
      exact iteT (A := _) (B := _) (k1 H1 s1 c)
    · have hne := amounts_ne (S := S) (X := X) (s := s) (l := l) c
      have fm := firstMax_ok _ hne
      have e0 : decide (V.int (((amounts wd S X p s l).map V.int).length : Int) = V.int 0) = false := by
        refine decide_eq_false fun e => ?_
        injection e with e
        rw [List.length_map] at e
        have := List.length_pos_iff.mpr hne
        omega
      rw [e0]
      refine iteF (A := _) (B := _) ?_
      obtain ⟨lp, hlp, LA⟩ := B.place hp
      have hil : firstMax (amounts wd S X p s l) < (actsAt wd p).length := by
        have := fm.lt
        unfold amounts at this
        rw [List.length_map] at this
        exact this
      obtain ⟨t, x, ht, hx, HA⟩ := LA.get hil
      exact ⟨_, rfl, b, CB, dx, _, _, rfl, s1 _ _ hb, T.clB, T.nActs, bF_acts _ _ _, _, rfl, st, _, _, _, rfl, rfl, SqT.of (s1 _ _ hst), at_of (j := 0) (v := V.int (p : Int)) rfl rfl, L, _, _, _, rfl, rfl, SqL.of (s1 _ _ B.ll),
        at_of (j := p) (v := V.ref lp) rfl (by rw [List.getElem?_map, hlp]; rfl), _, rfl, r, _, rfl, SqL.of hr1, hne, lp, _, _, _, rfl, rfl, SqL.of (s1 _ _ LA.lst), at_of (j := firstMax (amounts wd S X p s l)) (v := V.ref t.1) rfl (by rw [List.getElem?_map, ht]; rfl), k2 H1 t x s1 c hx HA⟩
theorem ok_worths_at {f : Addr} {fd : FuncData} (F : Fun K "worths_at" "worths_at" s_worths_at f fd) (T : Txt K CB CA CO CC) (hrange : mg "range" = none)
    (O1 : Own P w K mg base "act_done" 5 ["board", "stand", "later"] (spDone CB CA CO)) (O3 : Own P w K mg base "brought_by" 3 ["act", "stand", "light", "later"] (spBrought CA CO)) :
    FnOk P w K mg base CX0 6 f fd ["board", "stand", "later"] (spWorths CB CA CO) := by
  refine F.ok sc_worths_at (fun vs H Q E h => ?_) (fun cdv A outer s H vs Q E hr h => ?_)
  · obtain ⟨b, st, o, wd, L, ls, as, p, s, l, S, X, rfl, _⟩ := h
    rfl
  · obtain ⟨b, st, o, wd, L, ls, as, p, s, l, S, X, rfl, B, hst, hp, hs, HO, k⟩ := h
    have nd := sc_worths_at.nd
    have hr3 : Room 3 _ := hr.mono (by decide)
    refine ⟨_, pss_cons (ps_set (i := 3) nd rfl (Or.inr rfl) (pe_own O1 hr (pa_cons (pv 0) (pa_cons (pv 1) (pa_cons (pv 2) pa_nil)))))
      (pss_cons (ps_if (pt_cmpR op_isN (pv 3) pe_non (nomark _)) (pss_one (ps_ret (pe_op op_rep (pe_lst (pa_cons pe_int pa_nil)) (pe_fld (pv 0) rfl)))) pss_nil)
      (pss_one (ps_ret (pe_lc (own := [("light", 4)]) (g := gName 4) (tt := tYes) rfl nd (pi_range1 rfl hrange (pa_cons (pe_fld (pv 0) rfl) pa_nil))
        (blkOk_by (N := n_worths_at) (sc := defScope s_worths_at) (by decide +kernel)) (fun _ _ _ _ _ => pg_name (i := 4) nd rfl (Or.inl rfl)) (fun _ _ _ _ _ => pts_nil)
        (fun _ _ _ _ _ => pe_own O3 hr3 (pa_cons (pv 3) (pa_cons (pv 1) (pa_cons (pv 4) (pa_cons (pv 2) pa_nil))))))))), ?_⟩
    obtain ⟨dx, hb⟩ := B.bd
    have v3 := B.wf.v3
    refine ⟨_, rfl, _, rfl, _, rfl, b, st, o, wd, L, ls, as, p, s, l, S, X, rfl, B, hst, hp, hs, HO, fun H1 s1 c => ?_, fun H1 t x s1 c hx HA => ?_⟩
    · refine ⟨_, rfl, rfl, _, rfl, ?_⟩
      refine iteT (A := _) (B := _) ?_
      refine ⟨by decide, fun q hq => ?_⟩
      have s2 := s1.trans (same_new (o := .lst [V.int 0]) hq)
      refine ⟨_, rfl, b, CB, dx, _, _, rfl, s2 _ _ hb, T.clB, T.nSelves, bF_selves _ _ _, q, _, _, rfl, rfl, upd_same, by omega, by omega, ?_, fun r2 hr2' => ?_⟩
      · show 1 * ((wd.v : Int)).toNat ≤ sizeLine
        exact Nat.le_trans (show 1 * ((wd.v : Int)).toNat ≤ 3 by omega) (by decide)
      · refine k _ r2 (s2.trans (same_new hr2')) (s2.free hr2') ?_
        rw [upd_same, rep_zeros wd.v (oneMore wd S X) p s l (fun u => if_pos (by rw [c]; rfl))]
    · refine ⟨_, rfl, rfl, _, rfl, ?_⟩
      refine iteF (A := _) (B := _) ?_
      refine ⟨_, rfl, b, CB, dx, _, _, rfl, s1 _ _ hb, T.clB, T.nSelves, bF_selves _ _ _, (wd.v : Int), rfl, by omega, by omega, fun D hD => ?_⟩
      refine lc_range (lo := 0) (n := ((wd.v : Int) - 0).toNat) (fun i H' => Same H1 H' ∧ H' D = some (.lst ((List.range i).map fun u => V.int (oneMore wd S X p s l u)))) ⟨same_new hD, upd_same⟩ ?_ ?_
      · rintro i H' hi ⟨s2, hD1⟩
        have hi' : i < wd.v := by omega
        have ei : (0 + (i : Int)) = (i : Int) := by omega
        refine ⟨rfl, ?_⟩
        refine yesT ?_
        have s3 := s1.trans s2
        refine ⟨_, rfl, _, rfl, _, rfl, _, rfl, t, x, st, o, wd.n, wd.v, p, s, i, l, S, X, (by rw [ei]; rfl), HA.same s3, s3 _ _ hst, HO.same s3, B.wf.act hp (List.mem_of_getElem? hx), B.wf.n4, hs, hi', fun H2 s4 => ?_⟩
        refine ⟨_, s4 _ _ hD1, (by rw [List.length_map, List.length_range]; exact Nat.lt_of_lt_of_le (show i < 4 by omega) (by decide)), ?_, ?_⟩
        · intro c u e
          rw [upd_ne (ne_of_none e hD)]
          exact s4 _ _ (s2 _ _ e)
        · rw [upd_same, List.range_succ, List.map_append]
          have e1 : oneMore wd S X p s l i = bringI wd.n S X s l x i := by
            unfold oneMore
            rw [if_neg (by rw [List.isEmpty_iff]; exact c), actAt_of hx]
          rw [List.map_cons, List.map_nil, e1]
      · rintro H' ⟨s2, hD1⟩
        have e : ((wd.v : Int) - 0).toNat = wd.v := by omega
        rw [e] at hD1
        exact k H' D (s1.trans s2) (s1.free hD) hD1
end
end Sel

set_option maxRecDepth 100000
set_option maxHeartbeats 2000000
namespace Sel
open PySem PySem.Spec PyProof.Rows L2
open Kp379 (actsAt actAt Stand stands)
theorem stands_len (wd : Kp379.World) : (stands wd).length = wd.n * (wd.v * 2) := by
  unfold stands
  rw [flatMap_len (m := wd.v * 2) (fun p => by rw [flatMap_len (m := 2) (fun _ => rfl), List.length_range]), List.length_range]
theorem stands_few {wd : Kp379.World} (n4 : wd.n ≤ 4) (v3 : wd.v ≤ 3) : (stands wd).length ≤ 24 := by
  rw [stands_len]
  exact Nat.mul_le_mul n4 (Nat.mul_le_mul v3 (Nat.le_refl 2))
/-- the first i stands -/
def Among (wd : Kp379.World) (i : Nat) : Nat → Nat → Bool → Prop := fun p s l => ∃ j, j < i ∧ (stands wd)[j]? = some ⟨p, s, l⟩
theorem DictAt.put {wd : Kp379.World} {H : Hp} {D t q : Addr} {X : Later} {i p s : Nat} {l : Bool} (h : DictAt H D wd.v X (Among wd i) i) (hi : (stands wd)[i]? = some ⟨p, s, l⟩) (ht : H t = some (.tup (stV p s l))) (hq : H q = some (.lst (vals wd.v X p s l))) (few : (stands wd).length ≤ 24) :
    ∃ o, DPut H D (.ref t) (.ref q) (upd H D o) ∧ DictAt (upd H D o) D wd.v X (Among wd (i + 1)) (i + 1) := by
  obtain ⟨kvs, hD, hl, hall⟩ := h.ex
  have hi24 : i < 24 := Nat.lt_of_lt_of_le (List.getElem?_eq_some_iff.mp hi).1 few
  refine ⟨.dT (putK kvs (keyOf p s l) (.ref q)), DPut.t hD (by rw [keyOf_kV]; exact ht) (Nat.lt_of_le_of_lt (Nat.le_trans hl (Nat.le_of_lt hi24)) (by decide)), ⟨_, upd_same, Nat.le_trans (length_putK _ _ _) (by omega), fun p' s' l' g => ?_⟩⟩
  have nl : ∀ (a : Addr) (xs : List V), H a = some (.lst xs) → upd H D (.dT (putK kvs (keyOf p s l) (.ref q))) a = some (.lst xs) := fun a xs e => by
    rw [upd_ne (ne_of e hD (by intro z; cases z))]
    exact e
  by_cases e : keyOf p' s' l' = keyOf p s l
  · obtain ⟨rfl, rfl, rfl⟩ := keyOf_inj e
    exact ⟨q, by rw [valV_put, if_pos rfl], nl _ _ hq⟩
  · obtain ⟨j, hj, hj2⟩ := g
    have hji : j < i := by
      rcases Nat.lt_or_ge j i with h | h
      · exact h
      · have ej : j = i := by omega
        subst ej
        rw [hi] at hj2
        injection hj2 with hj2
        injection hj2 with a b c
        subst a b c
        exact absurd rfl e
    obtain ⟨q', a, b⟩ := hall p' s' l' ⟨j, hji, hj2⟩
    exact ⟨q', by rw [valV_put, if_neg e]; exact a, nl _ _ b⟩
theorem DictAt.whole {wd : Kp379.World} {H : Hp} {D : Addr} {X : Later} {m : Nat} (h : DictAt H D wd.v X (Among wd (stands wd).length) m) : DictAt H D wd.v X (fun p s _ => p < wd.n ∧ s < wd.v) m := by
  obtain ⟨kvs, a, b, c⟩ := h.ex
  refine ⟨kvs, a, b, fun p s l g => c p s l ⟨_, ?_, stands_get (x := ⟨p, s, l⟩) g.1 g.2⟩⟩
  exact (List.getElem?_eq_some_iff.mp (stands_get (x := ⟨p, s, l⟩) g.1 g.2)).1
section
variable {P : Program} {w : PySem.World} {K : PySem.W.Frag} {mg : Str → Option Value} {base : Heap} {CB CA CO CC : Addr}
def spNoSteps (CB CA CO : Addr) : Sp := fun vs H Q _ => ∃ (b : Addr) (wd : Kp379.World) (L : Addr) (ls : List Addr) (as : List (List Trip)), vs = [.ref b] ∧ BoardAt CB CA H b wd L ls as ∧
  ∀ (H' : Hp) (o : Addr), Same H H' → OutAt CO H' o wd.n wd.v 1 (fun _ _ _ _ => 0) → Q (.ref o) H'
theorem ok_no_steps_left {f : Addr} {fd : FuncData} (F : Fun K "no_steps_left" "no_steps_left" s_no_steps_left f fd) (T : Txt K CB CA CO CC)
    (O1 : Own P w K mg base "all_stands" 1 ["board"] (spStands CB)) (O2 : OwnC P w K mg base "Outlook" CO 1 ["self", "scale", "worths"] (spOutInit CO)) :
    FnOk P w K mg base CX0 3 f fd ["board"] (spNoSteps CB CA CO) := by
  refine F.ok sc_no_steps_left (fun vs H Q E h => ?_) (fun cdv A outer s H vs Q E hr h => ?_)
  · obtain ⟨b, wd, L, ls, as, rfl, _⟩ := h
    rfl
  · obtain ⟨b, wd, L, ls, as, rfl, B, k⟩ := h
    have nd := sc_no_steps_left.nd
    have hU := hu_of hr
    refine ⟨_, pss_cons (ps_set (i := 1) nd rfl (Or.inl rfl) pe_dnewT)
      (pss_cons (ps_for PassesOwn.never rfl (pi_list (pe_own O1 (hr.mono (by decide)) (pa_cons (pv 0) pa_nil))) (pg_name (i := 2) nd rfl (Or.inl rfl))
        (pss_one (ps_dput hU (pv 1) (pv 2) (pe_op op_rep (pe_lst (pa_cons pe_int pa_nil)) (pe_fld (pv 0) rfl)) rfl)))
      (pss_one (ps_ret (pe_ownC O2 hr (pa_cons pe_int (pa_cons (pv 1) pa_nil)))))), ?_⟩
    intro D hD
    obtain ⟨dx, hb⟩ := B.bd
    have s0 : Same H (upd H D (.dT [])) := same_new hD
    have few := stands_few B.wf.n4 B.wf.v3
    have v3 := B.wf.v3
    refine ⟨_, rfl, b, wd, L, rfl, ⟨dx, s0 _ _ hb⟩, B.wf.n4, B.wf.v3, fun H1 r ts s1 hr0 hr1 tt => ?_⟩
    refine ⟨r, rfl, ⟨_, SqL.of hr1⟩, for_list (K := K) (a := r) (xs := ts.map V.ref) (fun i σ H' => Same H H' ∧ (∀ c o, c ≠ D → H1 c = some o → H' c = some o) ∧ (∃ v2 : Option V, σ = [some (.ref b), some (.ref D), v2]) ∧ DictAt H' D wd.v (fun _ _ _ _ => 0) (Among wd i) i)
      ⟨s0.trans s1, fun c o _ e => e, ⟨none, rfl⟩, ⟨[], s1 _ _ upd_same, Nat.le_refl _, fun p s l g => by obtain ⟨j, hj, _⟩ := g; omega⟩⟩ (fun i σ H' _ h => ?_) ?_ ?_⟩
    · have : r ≠ D := fun e => by
        rw [e, upd_same] at hr0
        cases hr0
      exact SqL.of (h.2.1 _ _ this hr1)
    · rintro i y σ H' hi ⟨s2, kp, ⟨v2, rfl⟩, DA⟩
      obtain ⟨t, ht, rfl⟩ : ∃ t, ts[i]? = some t ∧ y = V.ref t := by
        rw [List.getElem?_map] at hi
        cases e : ts[i]? with
        | none => rw [e] at hi; cases hi
        | some t => rw [e] at hi; exact ⟨t, rfl, (Option.some.inj hi).symm⟩
      have hil : i < (stands wd).length := by
        rw [← tt.1]
        exact (List.getElem?_eq_some_iff.mp ht).1
      have hx := List.getElem?_eq_getElem hil
      have htt := tt.2 i t _ ht hx
      have hD1 : ∃ kvs, H1 D = some (.dT kvs) := ⟨[], s1 _ _ upd_same⟩
      obtain ⟨kvs1, hD1⟩ := hD1
      have ntD : t ≠ D := ne_of htt hD1 (by intro z; cases z)
      have htt' := kp _ _ ntD htt
      refine ⟨by decide, fun q hq => ?_⟩
      have s3 := s2.trans (same_new (o := .lst [V.int 0]) hq)
      refine ⟨_, rfl, b, CB, dx, _, _, rfl, s3 _ _ hb, T.clB, T.nSelves, bF_selves _ _ _, q, _, _, rfl, rfl, upd_same, by omega, by omega, ?_, fun r2 hr2' => ?_⟩
      · show 1 * ((wd.v : Int)).toNat ≤ sizeLine
        exact Nat.le_trans (show 1 * ((wd.v : Int)).toNat ≤ 3 by omega) (by decide)
      · generalize eH : upd (upd H' q (.lst [V.int 0])) r2 (.lst (List.replicate ((wd.v : Int)).toNat [V.int 0]).flatten) = H4
        have s4 : Same H' H4 := by
          rw [← eH]
          exact (same_new hq).trans (same_new hr2')
        have hr4 : H4 r2 = some (.lst (vals wd.v (fun _ _ _ _ => 0) (stands wd)[i].p (stands wd)[i].s (stands wd)[i].locked)) := by
          rw [← eH, upd_same, rep_zeros wd.v (fun _ _ _ _ => 0) _ _ _ (fun _ => rfl)]
        obtain ⟨o, pp, DA'⟩ := (DA.same s4).put hx (s4 _ _ htt') hr4 few
        refine ⟨_, rfl, _, rfl, D, _, rfl, pp, ?_, ?_, ⟨_, rfl⟩, DA'⟩
        · intro c u e
          rw [upd_ne (ne_of_none e hD)]
          exact s4 _ _ (s2 _ _ e)
        · intro c u hc e
          rw [upd_ne hc]
          exact s4 _ _ (kp _ _ hc e)
    · rintro σ H' ⟨s2, kp, ⟨v2, rfl⟩, DA⟩
      rw [List.length_map, tt.1] at DA
      refine ⟨_, rfl, fun x dx' hx hdx ne => ?_⟩
      refine ⟨x, dx', D, 1, rfl, upd_same, fun H2 h1 h2 => ⟨rfl, ?_⟩⟩
      have s3 : Same H' H2 := Same.made hx hdx h2
      exact k H2 x (s2.trans s3) ⟨dx', D, _, h1, (DA.whole).same s3⟩
def spOneMore (CB CA CO : Addr) : Sp := fun vs H Q _ => ∃ (b o : Addr) (wd : Kp379.World) (L : Addr) (ls : List Addr) (as : List (List Trip)) (S : Int) (X : Later), vs = [.ref b, .ref o] ∧ BoardAt CB CA H b wd L ls as ∧ OutAt CO H o wd.n wd.v S X ∧
  ∀ (H' : Hp) (o' : Addr), Same H H' → OutAt CO H' o' wd.n wd.v (PARTS * S) (oneMore wd S X) → Q (.ref o') H'
theorem ok_one_step_more {f : Addr} {fd : FuncData} (F : Fun K "one_step_more" "one_step_more" s_one_step_more f fd) (T : Txt K CB CA CO CC) (hP : IntC mg "PARTS" PARTS)
    (O1 : Own P w K mg base "all_stands" 1 ["board"] (spStands CB)) (O2 : OwnC P w K mg base "Outlook" CO 1 ["self", "scale", "worths"] (spOutInit CO)) (O3 : Own P w K mg base "worths_at" 6 ["board", "stand", "later"] (spWorths CB CA CO)) :
    FnOk P w K mg base CX0 7 f fd ["board", "later"] (spOneMore CB CA CO) := by
  refine F.ok sc_one_step_more (fun vs H Q E h => ?_) (fun cdv A outer s H vs Q E hr h => ?_)
  · obtain ⟨b, o, wd, L, ls, as, S, X, rfl, _⟩ := h
    rfl
  · obtain ⟨b, o, wd, L, ls, as, S, X, rfl, B, HO, k⟩ := h
    have nd := sc_one_step_more.nd
    have hU := hu_of hr
    refine ⟨_, pss_cons (ps_set (i := 2) nd rfl (Or.inl rfl) pe_dnewT)
      (pss_cons (ps_for PassesOwn.never rfl (pi_list (pe_own O1 (hr.mono (by decide)) (pa_cons (pv 0) pa_nil))) (pg_name (i := 3) nd rfl (Or.inl rfl))
        (pss_one (ps_dput hU (pv 2) (pv 3) (pe_own O3 hr (pa_cons (pv 0) (pa_cons (pv 3) (pa_cons (pv 1) pa_nil)))) rfl)))
      (pss_one (ps_ret (pe_ownC O2 (hr.mono (by decide)) (pa_cons (pe_op op_mul (pe_intC hP) (pe_fld (pv 1) rfl)) (pa_cons (pv 2) pa_nil)))))), ?_⟩
    intro D hD
    obtain ⟨dx, hb⟩ := B.bd
    have s0 : Same H (upd H D (.dT [])) := same_new hD
    have few := stands_few B.wf.n4 B.wf.v3
    have v3 := B.wf.v3
    refine ⟨_, rfl, b, wd, L, rfl, ⟨dx, s0 _ _ hb⟩, B.wf.n4, B.wf.v3, fun H1 r ts s1 hr0 hr1 tt => ?_⟩
    refine ⟨r, rfl, ⟨_, SqL.of hr1⟩, for_list (K := K) (a := r) (xs := ts.map V.ref) (fun i σ H' => Same H H' ∧ (∀ c o, c ≠ D → H1 c = some o → H' c = some o) ∧ (∃ v2 : Option V, σ = [some (.ref b), some (.ref o), some (.ref D), v2]) ∧ DictAt H' D wd.v (oneMore wd S X) (Among wd i) i)
      ⟨s0.trans s1, fun c o _ e => e, ⟨none, rfl⟩, ⟨[], s1 _ _ upd_same, Nat.le_refl _, fun p s l g => by obtain ⟨j, hj, _⟩ := g; omega⟩⟩ (fun i σ H' _ h => ?_) ?_ ?_⟩
    · have : r ≠ D := fun e => by
        rw [e, upd_same] at hr0
        cases hr0
      exact SqL.of (h.2.1 _ _ this hr1)
    · rintro i y σ H' hi ⟨s2, kp, ⟨v2, rfl⟩, DA⟩
      obtain ⟨t, ht, rfl⟩ : ∃ t, ts[i]? = some t ∧ y = V.ref t := by
        rw [List.getElem?_map] at hi
        cases e : ts[i]? with
        | none => rw [e] at hi; cases hi
        | some t => rw [e] at hi; exact ⟨t, rfl, (Option.some.inj hi).symm⟩
      have hil : i < (stands wd).length := by
        rw [← tt.1]
        exact (List.getElem?_eq_some_iff.mp ht).1
      have hx := List.getElem?_eq_getElem hil
      have htt := tt.2 i t _ ht hx
      have hD1 : H1 D = some (.dT []) := s1 _ _ upd_same
      have ntD : t ≠ D := ne_of htt hD1 (by intro z; cases z)
      have htt' := kp _ _ ntD htt
      have hxm := stands_mem.mp (List.mem_of_getElem? hx)
      refine ⟨_, rfl, _, rfl, _, rfl, b, t, o, wd, L, ls, as, _, _, _, S, X, rfl, B.same s2, htt', hxm.1, hxm.2, HO.same s2, fun H4 r2 s4 hr2 hr4 => ?_⟩
      obtain ⟨o', pp, DA'⟩ := (DA.same s4).put hx (s4 _ _ htt') hr4 few
      refine ⟨_, rfl, _, rfl, D, _, rfl, pp, ?_, ?_, ⟨_, rfl⟩, DA'⟩
      · intro c u e
        rw [upd_ne (ne_of_none e hD)]
        exact s4 _ _ (s2 _ _ e)
      · intro c u hc e
        rw [upd_ne hc]
        exact s4 _ _ (kp _ _ hc e)
    · rintro σ H' ⟨s2, kp, ⟨v2, rfl⟩, DA⟩
      rw [List.length_map, tt.1] at DA
      obtain ⟨dxo, Do, m, ho, HD⟩ := HO
      refine ⟨_, rfl, o, CO, dxo, _, _, rfl, s2 _ _ ho, T.clO, T.nScale, oF_scale _ _, _, _, rfl, rfl, .inl (by decide), _, rfl, fun x dx' hx hdx ne => ?_⟩
      refine ⟨x, dx', D, PARTS * S, rfl, upd_same, fun H2 h1 h2 => ⟨rfl, ?_⟩⟩
      have s3 : Same H' H2 := Same.made hx hdx h2
      exact k H2 x (s2.trans s3) ⟨dx', D, _, h1, (DA.whole).same s3⟩
/-- the outlooks with 0 to k steps left -/
def OutsAt (CO : Addr) (H : Hp) (wd : Kp379.World) (os : List Addr) : Prop := ∀ (i : Nat) (o : Addr), os[i]? = some o → OutAt CO H o wd.n wd.v (PARTS ^ i) (later wd i)
theorem OutsAt.same {H H' : Hp} {wd : Kp379.World} {os : List Addr} (s : Same H H') (h : OutsAt CO H wd os) : OutsAt CO H' wd os := fun i o e => (h i o e).same s
/-- a list of references elsewhere may change -/
theorem OutAt.refs {H : Hp} {o r : Addr} {n v : Nat} {S : Int} {X : Later} {os : List Addr} {ys : List V} (h : OutAt CO H o n v S X) (hv : 1 ≤ v) (hr : H r = some (.lst (os.map V.ref))) : OutAt CO (upd H r (.lst ys)) o n v S X := by
  obtain ⟨dx, D, m, a, b⟩ := h
  obtain ⟨kvs, e1, e2, e3⟩ := b.ex
  refine ⟨dx, D, m, by rw [upd_ne (ne_of a hr (by intro z; cases z))]; exact a, ⟨kvs, by rw [upd_ne (ne_of e1 hr (by intro z; cases z))]; exact e1, e2, fun p s l g => ?_⟩⟩
  obtain ⟨q, c1, c2⟩ := e3 p s l g
  refine ⟨q, c1, ?_⟩
  rw [upd_ne (ne_of c2 hr ?_)]
  · exact c2
  · intro z
    injection z with z
    obtain ⟨w, rfl⟩ : ∃ w, v = w + 1 := ⟨v - 1, by omega⟩
    rw [List.range_succ_eq_map, List.map_cons] at z
    cases os with
    | nil => cases z
    | cons x r => injection z with z _; cases z
def spOutlooks (CB CA CO : Addr) : Sp := fun vs H Q _ => ∃ (b : Addr) (wd : Kp379.World) (L : Addr) (ls : List Addr) (as : List (List Trip)) (k : Nat), vs = [.ref b, .int (k : Int)] ∧ BoardAt CB CA H b wd L ls as ∧ k ≤ 4 ∧
  ∀ (H' : Hp) (r : Addr) (os : List Addr), Same H H' → H r = none → H' r = some (.lst (os.map V.ref)) → os.length = k + 1 → OutsAt CO H' wd os → Q (.ref r) H'
theorem ok_outlooks_up_to {f : Addr} {fd : FuncData} (F : Fun K "outlooks_up_to" "outlooks_up_to" s_outlooks_up_to f fd) (hrange : mg "range" = none)
    (O1 : Own P w K mg base "no_steps_left" 3 ["board"] (spNoSteps CB CA CO)) (O2 : Own P w K mg base "one_step_more" 7 ["board", "later"] (spOneMore CB CA CO)) :
    FnOk P w K mg base CX0 8 f fd ["board", "steps"] (spOutlooks CB CA CO) := by
  refine F.ok sc_outlooks_up_to (fun vs H Q E h => ?_) (fun cdv A outer s H vs Q E hr h => ?_)
  · obtain ⟨b, wd, L, ls, as, k, rfl, _⟩ := h
    rfl
  · obtain ⟨b, wd, L, ls, as, n, rfl, B, hn, k⟩ := h
    have nd := sc_outlooks_up_to.nd
    refine ⟨_, pss_cons (ps_set (i := 2) nd rfl (Or.inl rfl) (pe_lst (pa_cons (pe_own O1 (hr.mono (by decide)) (pa_cons (pv 0) pa_nil)) pa_nil)))
      (pss_cons (ps_for PassesOwn.never rfl (pi_range1 rfl hrange (pa_cons (pv 1) pa_nil)) (pg_name (i := 3) nd rfl (Or.inl rfl))
        (pss_one (ps_expr (pe_bm PySem.F.plainAttrs_list PySem.F.slot_list_append PySem.F.type_list_append mt_append (pv 2) (pa_cons (pe_own O2 hr (pa_cons (pv 0) (pa_cons (pe_ix ix_list (pv 2) (pv 3) (fun _ _ => rfl)) pa_nil))) pa_nil)))))
      (pss_one (ps_ret (pv 2)))), ?_⟩
    refine ⟨_, rfl, b, wd, L, ls, as, rfl, B, fun H1 o s1 HO => ⟨(by show 1 ≤ sizeLine; decide), fun r hr0 => ?_⟩⟩
    have s0 : Same H1 (upd H1 r (.lst [V.ref o])) := same_new hr0
    have hrH : H r = none := s1.free hr0
    refine ⟨_, rfl, (n : Int), rfl, by omega, by omega, ?_⟩
    refine for_range (n := ((n : Int) - 0).toNat) (fun i σ H' => Same H H' ∧ ∃ (os : List Addr) (v3 : Option V), σ = [some (.ref b), some (.int (n : Int)), some (.ref r), v3] ∧ H' r = some (.lst (os.map V.ref)) ∧ os.length = i + 1 ∧ OutsAt CO H' wd os)
      ⟨s1.trans s0, [o], none, rfl, upd_same, rfl, fun i o' e => ?_⟩ ?_ ?_
    · have hi : i = 0 := by
        have := (List.getElem?_eq_some_iff.mp e).1
        simpa using this
      subst hi
      have eo : o = o' := by simpa using e
      subst eo
      exact HO.same s0
    · rintro i σ H' hi ⟨s2, os, v3, rfl, hr1, hl, OS⟩
      have hil : i < os.length := by omega
      have ho := List.getElem?_eq_getElem hil
      have ei : (0 + (i : Int)) = (i : Int) := by omega
      refine ⟨_, rfl, .inl ⟨rfl, _, SqL.of hr1⟩, _, rfl, _, rfl, _, rfl, r, _, _, _, rfl, rfl, SqL.of hr1, at_of (j := i) (v := V.ref os[i]) ei (by rw [List.getElem?_map, ho]; rfl), ?_⟩
      refine ⟨b, os[i], wd, L, ls, as, _, _, rfl, B.same s2, OS i _ ho, fun H3 o3 s3 HO3 => ?_⟩
      refine ⟨r, _, _, rfl, rfl, s3 _ _ hr1, (by rw [List.length_map, hl]; exact Nat.lt_of_lt_of_le (show i + 1 < 6 by omega) (by decide)), ?_, os ++ [o3], _, rfl, ?_, ?_, ?_⟩
      · intro c u e
        rw [upd_ne (ne_of_none e hrH)]
        exact s3 _ _ (s2 _ _ e)
      · rw [upd_same, List.map_append]
        rfl
      · rw [List.length_append, hl]
        rfl
      · intro j o' hj
        by_cases c : j < os.length
        · rw [List.getElem?_append_left c] at hj
          exact ((OS j o' hj).same s3).refs B.wf.v1 (s3 _ _ hr1)
        · rw [List.getElem?_append_right (by omega)] at hj
          have ej : j - os.length = 0 := by
            have := (List.getElem?_eq_some_iff.mp hj).1
            simpa using this
          rw [ej] at hj
          have eo : o3 = o' := by simpa using hj
          have ej2 : j = i + 1 := by omega
          subst eo ej2
          rw [Int.pow_succ, Int.mul_comm, later_succ]
          exact HO3.refs B.wf.v1 (s3 _ _ hr1)
    · rintro σ H' ⟨s2, os, v3, rfl, hr1, hl, OS⟩
      exact ⟨_, rfl, k H' r os s2 hrH hr1 (by omega) OS⟩
def spOutlook (CB CA CO : Addr) : Sp := fun vs H Q _ => ∃ (b : Addr) (wd : Kp379.World) (L : Addr) (ls : List Addr) (as : List (List Trip)) (k : Nat), vs = [.ref b, .int (k : Int)] ∧ BoardAt CB CA H b wd L ls as ∧ k ≤ 4 ∧
  ∀ (H' : Hp) (o : Addr), Same H H' → OutAt CO H' o wd.n wd.v (PARTS ^ k) (later wd k) → Q (.ref o) H'
theorem ok_outlook_with {f : Addr} {fd : FuncData} (F : Fun K "outlook_with" "outlook_with" s_outlook_with f fd)
    (O1 : Own P w K mg base "outlooks_up_to" 8 ["board", "steps"] (spOutlooks CB CA CO)) :
    FnOk P w K mg base CX0 9 f fd ["board", "steps"] (spOutlook CB CA CO) := by
  refine F.ok sc_outlook_with (fun vs H Q E h => ?_) (fun cdv A outer s H vs Q E hr h => ?_)
  · obtain ⟨b, wd, L, ls, as, k, rfl, _⟩ := h
    rfl
  · obtain ⟨b, wd, L, ls, as, n, rfl, B, hn, k⟩ := h
    refine ⟨_, pss_one (ps_ret (pe_ix ix_list (pe_own O1 hr (pa_cons (pv 0) (pa_cons (pv 1) pa_nil))) (pv 1) (fun _ _ => rfl))), ?_⟩
    refine ⟨_, rfl, _, rfl, b, wd, L, ls, as, n, rfl, B, hn, fun H1 r os s1 hr0 hr1 hl OS => ?_⟩
    have ho := List.getElem?_eq_getElem (show n < os.length by omega)
    exact ⟨_, rfl, r, _, _, _, rfl, rfl, SqL.of hr1, at_of (j := n) (v := V.ref os[n]) rfl (by rw [List.getElem?_map, ho]; rfl), k H1 _ s1 (OS n _ ho)⟩
end
end Sel

set_option maxRecDepth 100000
set_option maxHeartbeats 2000000
namespace Sel
open PySem PySem.Spec PyProof.Rows L2
open Kp379 (actsAt actAt Stand stands)
section
variable {P : Program} {w : PySem.World} {K : PySem.W.Frag} {mg : Str → Option Value} {base : Heap} {CB CA CO CC : Addr}
def payOk (l : List Int) : Bool := l.all fun v => decide (-9 ≤ v) && decide (v ≤ 9)
def weightOk (l : List Int) : Bool := l.all fun v => decide (0 ≤ v) && decide (v ≤ 9)
def spPays (K : PySem.W.Frag) : Sp := fun vs H Q _ => ∃ (a : Addr) (ns : List Int), vs = [.ref a] ∧ SqL K H a (ns.map V.int) ∧ ns.length ≤ 100 ∧ ∀ H', Same H H' → Q (.bl (payOk ns)) H'
theorem all_map_id (ns : List Int) (g : Int → Bool) : (ns.map g).all id = ns.all g := by
  rw [List.all_map]
  rfl
theorem ok_are_pays {f : Addr} {fd : FuncData} (F : Fun K "are_pays" "are_pays" s_are_pays f fd) (hall : mg "all" = none) : FnOk P w K mg base CX0 1 f fd ["pays"] (spPays K) := by
  refine F.ok sc_are_pays (fun vs H Q E h => ?_) (fun cdv A outer s H vs Q E hr h => ?_)
  · obtain ⟨a, ns, rfl, _⟩ := h
    rfl
  · obtain ⟨a, ns, rfl, hS, hlen, k⟩ := h
    have nd := sc_are_pays.nd
    refine ⟨_, pss_one (ps_ret (pe_callB (cr_all rfl) (by rfl) hall (by decide +kernel) (pa_cons (pe_lc (own := [("pay", 1)]) (g := gName 1) (tt := tYes) rfl nd (pi_list (pv 0))
      (blkOk_by (N := n_are_pays) (sc := defScope s_are_pays) (by decide +kernel)) (fun _ _ _ _ _ => pg_name (i := 1) nd rfl (Or.inl rfl)) (fun _ _ _ _ _ => pts_nil)
      (fun _ _ _ _ _ => pe_chain op_le op_le (pe_un un_neg pe_int) (pv 1) pe_int)) pa_nil))), ?_⟩
    refine ⟨_, rfl, a, rfl, ⟨_, hS⟩, fun D hD => ?_⟩
    refine lc_list (K := K) (a := a) (xs := ns.map V.int) (fun i H' => Same H H' ∧ H' D = some (.lst (((ns.take i).map fun v => decide (-9 ≤ v) && decide (v ≤ 9)).map V.bl))) ⟨same_new hD, upd_same⟩ (fun i H' _ h => h.1.seq hS) ?_ ?_
    · rintro i y H' hi ⟨s1, hD1⟩
      obtain ⟨z, hz, rfl⟩ := map_get hi
      refine ⟨rfl, yesT ?_⟩
      refine ⟨_, rfl, _, rfl, _, _, rfl, rfl, _, rfl, ?_⟩
      have fin : ∀ b : Bool, b = (decide (-9 ≤ z) && decide (z ≤ 9)) → ∃ acc, H' D = some (.lst acc) ∧ acc.length < sizeLine ∧ Same H (upd H' D (.lst (acc ++ [V.bl b]))) ∧ upd H' D (.lst (acc ++ [V.bl b])) D = some (.lst (((ns.take (i + 1)).map fun v => decide (-9 ≤ v) && decide (v ≤ 9)).map V.bl)) := by
        intro b hb
        refine ⟨_, hD1, (by rw [List.length_map, List.length_map, List.length_take]; exact Nat.lt_of_le_of_lt (Nat.le_trans (Nat.min_le_right _ _) hlen) (by decide)), ?_, ?_⟩
        · intro c u e
          rw [upd_ne (ne_of_none e hD)]
          exact s1 _ _ e
        · rw [upd_same, take_more hz, List.map_append, List.map_append, hb]
          rfl
      by_cases c : -9 ≤ z
      · refine ifT (decide_eq_true c) ?_
        exact ⟨_, _, rfl, rfl, fin _ (by rw [decide_eq_true c, Bool.true_and])⟩
      · refine ifF (decide_eq_false c) ?_
        exact fin _ (by rw [decide_eq_false c, Bool.false_and])
    · rintro H' ⟨s1, hD1⟩
      rw [List.length_map, List.take_length] at hD1
      refine ⟨D, _, rfl, SqL.of hD1, ?_⟩
      rw [all_map_id]
      exact k H' s1
def spWeights (K : PySem.W.Frag) : Sp := fun vs H Q _ => ∃ (a : Addr) (ns : List Int), vs = [.ref a] ∧ SqL K H a (ns.map V.int) ∧ ns.length ≤ 100 ∧ ∀ H', Same H H' → Q (.bl (weightOk ns && decide (0 < ns.sum))) H'
theorem ok_are_weights {f : Addr} {fd : FuncData} (F : Fun K "are_weights" "are_weights" s_are_weights f fd) (hall : mg "all" = none) (hsum : mg "sum" = none) : FnOk P w K mg base CX0 1 f fd ["weights"] (spWeights K) := by
  refine F.ok sc_are_weights (fun vs H Q E h => ?_) (fun cdv A outer s H vs Q E hr h => ?_)
  · obtain ⟨a, ns, rfl, _⟩ := h
    rfl
  · obtain ⟨a, ns, rfl, hS, hlen, k⟩ := h
    have nd := sc_are_weights.nd
    refine ⟨_, pss_one (ps_ret (pe_and (pe_callB (cr_all rfl) (by rfl) hall (by decide +kernel) (pa_cons (pe_lc (own := [("weight", 1)]) (g := gName 1) (tt := tYes) rfl nd (pi_list (pv 0))
      (blkOk_by (N := n_are_weights) (sc := defScope s_are_weights) (by decide +kernel)) (fun _ _ _ _ _ => pg_name (i := 1) nd rfl (Or.inl rfl)) (fun _ _ _ _ _ => pts_nil)
      (fun _ _ _ _ _ => pe_chain op_le op_le pe_int (pv 1) pe_int)) pa_nil)) (pe_one (pe_cmp (pc_gt (pe_callB (cr_sum rfl) (by rfl) hsum (by decide +kernel) (pa_cons (pv 0) pa_nil)) pe_int) rfl)))), ?_⟩
    refine ⟨_, rfl, a, rfl, ⟨_, hS⟩, fun D hD => ?_⟩
    refine lc_list (K := K) (a := a) (xs := ns.map V.int) (fun i H' => Same H H' ∧ H' D = some (.lst (((ns.take i).map fun v => decide (0 ≤ v) && decide (v ≤ 9)).map V.bl))) ⟨same_new hD, upd_same⟩ (fun i H' _ h => h.1.seq hS) ?_ ?_
    · rintro i y H' hi ⟨s1, hD1⟩
      obtain ⟨z, hz, rfl⟩ := map_get hi
      refine ⟨rfl, yesT ?_⟩
      refine ⟨_, rfl, _, _, rfl, rfl, _, rfl, ?_⟩
      have fin : ∀ b : Bool, b = (decide (0 ≤ z) && decide (z ≤ 9)) → ∃ acc, H' D = some (.lst acc) ∧ acc.length < sizeLine ∧ Same H (upd H' D (.lst (acc ++ [V.bl b]))) ∧ upd H' D (.lst (acc ++ [V.bl b])) D = some (.lst (((ns.take (i + 1)).map fun v => decide (0 ≤ v) && decide (v ≤ 9)).map V.bl)) := by
        intro b hb
        refine ⟨_, hD1, (by rw [List.length_map, List.length_map, List.length_take]; exact Nat.lt_of_le_of_lt (Nat.le_trans (Nat.min_le_right _ _) hlen) (by decide)), ?_, ?_⟩
        · intro c u e
          rw [upd_ne (ne_of_none e hD)]
          exact s1 _ _ e
        · rw [upd_same, take_more hz, List.map_append, List.map_append, hb]
          rfl
      by_cases c : 0 ≤ z
      · refine ifT (decide_eq_true c) ?_
        exact ⟨_, _, rfl, rfl, fin _ (by rw [decide_eq_true c, Bool.true_and])⟩
      · refine ifF (decide_eq_false c) ?_
        exact fin _ (by rw [decide_eq_false c, Bool.false_and])
    · rintro H' ⟨s1, hD1⟩
      rw [List.length_map, List.take_length] at hD1
      refine ⟨D, _, rfl, SqL.of hD1, ?_⟩
      rw [all_map_id]
      refine ⟨_, rfl, ?_⟩
      have k' := k H' s1
      unfold weightOk at k'
      cases c : ns.all (fun v => decide (0 ≤ v) && decide (v ≤ 9)) with
      | true =>
        rw [c, Bool.true_and] at k'
        exact iteT (A := _) (B := _) ⟨_, rfl, a, ns, rfl, s1.seq hS, _, _, rfl, rfl, k'⟩
      | false =>
        rw [c, Bool.false_and] at k'
        exact iteF (A := _) (B := _) k'
end
end Sel

set_option maxRecDepth 100000
set_option maxHeartbeats 2000000
/-! The board as it changes. -/
namespace Sel
open PySem PySem.Spec PyProof.Rows L2
open Kp379 (actsAt actAt Stand stands setActs setAct)
/-- all addresses of the board -/
def Fp (b L : Addr) (ls : List Addr) (as : List (List Trip)) (c : Addr) : Prop := c = b ∨ c = L ∨ c ∈ ls ∨ ∃ p i t, at2 as p i = some t ∧ (c = t.1 ∨ c = t.2.1 ∨ c = t.2.2)
def StAt (CB CA : Addr) (H : Hp) (b : Addr) (st : Kp379.State) (L : Addr) (ls : List Addr) (as : List (List Trip)) : Prop := match st with
  | none => Bd CB H b 0 0 L ∧ H L = some (.lst []) ∧ ls = [] ∧ as = []
  | some wd => BoardAt CB CA H b wd L ls as
structure Frame (H H' : Hp) (F F' : Addr → Prop) : Prop where
  keep : ∀ c o, H c = some o → ¬ F c → H' c = some o
  new : ∀ c, F' c → F c ∨ H c = none
def ansV (a : Kp379.Ans) : List V := (a.num :: a.nums).map V.int
/-- how a call is answered: whatever comes of it so is wanted -/
def Said (CB CA : Addr) (b : Addr) (st : Kp379.State) (c : Kp379.Call) (L : Addr) (ls : List Addr) (as : List (List Trip)) (H : Hp) (Q : VK) : Prop :=
  ∀ (H' : Hp) (r L' : Addr) (ls' : List Addr) (as' : List (List Trip)), StAt CB CA H' b (Kp379.step st c).1 L' ls' as' → Frame H H' (Fp b L ls as) (Fp b L' ls' as') → H r = none → H' r = some (.lst (ansV (Kp379.step st c).2)) → Q (.ref r) H'
section
variable {CB CA b L : Addr} {H H' : Hp} {wd : Kp379.World} {ls : List Addr} {as : List (List Trip)}
theorem Frame.same (s : Same H H') (F : Addr → Prop) : Frame H H' F F := ⟨fun c o e _ => s c o e, fun c h => .inl h⟩
theorem Said.query {c : Kp379.Call} {a : Kp379.Ans} {Q : VK} {r : Addr} (h : Said CB CA b (some wd) c L ls as H Q) (B : BoardAt CB CA H b wd L ls as) (e : Kp379.step (some wd) c = (some wd, a)) (s : Same H H') (hr : H r = none) (hH : H' r = some (.lst (ansV a))) : Q (.ref r) H' := by
  have e1 : (Kp379.step (some wd) c).1 = some wd := by rw [e]
  have e2 : (Kp379.step (some wd) c).2 = a := by rw [e]
  refine h H' r L ls as ?_ (Frame.same s _) hr (by rw [e2]; exact hH)
  rw [e1]
  exact B.same s
/-- a refusal: the board stays, one number is told -/
theorem Said.no {c : Kp379.Call} {z : Int} {Q : VK} {r : Addr} (h : Said CB CA b (some wd) c L ls as H Q) (B : BoardAt CB CA H b wd L ls as) (e : Kp379.step (some wd) c = (some wd, Kp379.say z)) (s : Same H H') (hr : H' r = none) : Q (.ref r) (upd H' r (.lst [V.int z])) :=
  h.query B e (s.trans (same_new hr)) (s.free hr) upd_same
/-! ### lists and places -/
theorem actsAt_set {p q : Nat} {l : List Kp379.Act} (hp : p < wd.acts.length) : actsAt (setActs wd p l) q = if q = p then l else actsAt wd q := by
  unfold actsAt setActs
  simp only [List.getD_eq_getElem?_getD]
  by_cases c : q = p
  · subst c
    rw [if_pos rfl, List.getElem?_set_self hp]
    rfl
  · rw [if_neg c, List.getElem?_set_ne (fun e => c e.symm)]
theorem at2_set {p q j : Nat} {ts : List Trip} (hp : p < as.length) : at2 (as.set p ts) q j = if q = p then ts[j]? else at2 as q j := by
  unfold at2
  simp only [List.getD_eq_getElem?_getD]
  by_cases c : q = p
  · subst c
    rw [if_pos rfl, List.getElem?_set_self hp]
    rfl
  · rw [if_neg c, List.getElem?_set_ne (fun e => c e.symm)]
theorem getD_set {p q : Nat} {ts : List Trip} (hp : p < as.length) : (as.set p ts).getD q [] = if q = p then ts else as.getD q [] := by
  simp only [List.getD_eq_getElem?_getD]
  by_cases c : q = p
  · subst c
    rw [if_pos rfl, List.getElem?_set_self hp]
    rfl
  · rw [if_neg c, List.getElem?_set_ne (fun e => c e.symm)]
theorem ints_refs {α : Type} {ns : List Int} {ts : List α} {f : α → V} (hf : ∀ a z, f a ≠ V.int z) (h : ns ≠ []) : ns.map V.int ≠ ts.map f := by
  intro e
  cases ns with
  | nil => exact h rfl
  | cons z r =>
    cases ts with
    | nil => cases e
    | cons a q =>
      injection e with e1 _
      exact hf a z e1.symm
theorem ref_int (a : Addr) (z : Int) : V.ref a ≠ V.int z := by intro e; cases e
theorem BoardAt.get (B : BoardAt CB CA H b wd L ls as) {p i : Nat} {t : Trip} (h : at2 as p i = some t) : ∃ l x, ls[p]? = some l ∧ (actsAt wd p)[i]? = some x ∧ ActAt CA H t x ∧ p < wd.n ∧ ActOk wd.n wd.v x := by
  have hp : p < as.length := by
    rcases Nat.lt_or_ge p as.length with c | c
    · exact c
    · unfold at2 at h
      rw [List.getD_eq_getElem?_getD, List.getElem?_eq_none c] at h
      simp at h
  have hp' : p < wd.n := by rw [← B.na]; exact hp
  obtain ⟨l, hl, LA⟩ := B.place hp'
  have hi : i < (actsAt wd p).length := by
    rw [← LA.len]
    exact (List.getElem?_eq_some_iff.mp h).1
  have hx := List.getElem?_eq_getElem hi
  exact ⟨l, _, hl, hx, LA.act i t _ h hx, hp', B.wf.act hp' (List.mem_of_getElem? hx)⟩
theorem pays_ne {n v : Nat} {x : Kp379.Act} (ok : ActOk n v x) (hv : 1 ≤ v) : x.pays ≠ [] := by
  intro e
  have := ok.pl
  rw [e] at this
  simp at this
  omega
theorem to_ne {n v : Nat} {x : Kp379.Act} (ok : ActOk n v x) (hn : 2 ≤ n) : (x.to.map fun (n : Nat) => (n : Int)) ≠ [] := by
  intro e
  have := ok.tl
  rw [List.map_eq_nil_iff.mp e] at this
  simp at this
  omega
theorem bF_aF (n v : Int) (L pa wa : Addr) (t l : Int) : bF n v L ≠ aF pa wa t l := by
  intro e
  have h : (3 : Nat) = 4 := congrArg List.length e
  omega
theorem setActs_n (p : Nat) (l : List Kp379.Act) : (setActs wd p l).n = wd.n := rfl
theorem setActs_v (p : Nat) (l : List Kp379.Act) : (setActs wd p l).v = wd.v := rfl
theorem Wf.setActs (hw : Wf wd) {p : Nat} {l : List Kp379.Act} (hl : l.length ≤ 3) (ok : ∀ a ∈ l, ActOk wd.n wd.v a) : Wf (setActs wd p l) := by
  refine ⟨hw.n2, hw.n4, hw.v1, hw.v3, by show (wd.acts.set p l).length = wd.n; rw [List.length_set]; exact hw.len, fun m hm => ?_, fun m hm a ha => ?_⟩
  · rcases List.mem_or_eq_of_mem_set hm with h | h
    · exact hw.few m h
    · rw [h]; exact hl
  · rcases List.mem_or_eq_of_mem_set hm with h | h
    · exact hw.ok m h a ha
    · rw [h] at ha; exact ok a ha
/-- one act of it is changed in what it turns into and whether it locks -/
theorem BoardAt.setAct (B : BoardAt CB CA H b wd L ls as) {p i : Nat} {t : Trip} {x x' : Kp379.Act} {dx : Addr} (ht : at2 as p i = some t) (hx : (actsAt wd p)[i]? = some x) (h1 : H t.1 = some (.ins CA dx (aF t.2.1 t.2.2 (x.turn : Int) (b2z x.lock))))
    (ep : x'.pays = x.pays) (et : x'.to = x.to) (ok : ActOk wd.n wd.v x') : BoardAt CB CA (upd H t.1 (.ins CA dx (aF t.2.1 t.2.2 (x'.turn : Int) (b2z x'.lock)))) b (setAct wd p i x') L ls as := by
  obtain ⟨lp, x0, hlp, hx0, HA, hp, ok0⟩ := B.get ht
  have ex : x0 = x := Option.some.inj (hx0.symm.trans hx)
  subst ex
  have hpl : p < wd.acts.length := by rw [B.wf.len]; exact hp
  have lst : ∀ a xs, H a = some (.lst xs) → upd H t.1 (.ins CA dx (aF t.2.1 t.2.2 (x'.turn : Int) (b2z x'.lock))) a = some (.lst xs) := fun a xs e => by
    rw [upd_ne (ne_of e h1 (by intro z; cases z))]
    exact e
  obtain ⟨dxb, hb⟩ := B.bd
  have hil : i < (actsAt wd p).length := (List.getElem?_eq_some_iff.mp hx).1
  refine ⟨⟨dxb, ?_⟩, lst _ _ B.ll, B.nl, B.na, fun q l hl => ?_, B.nd, B.nL, B.inj, ?_⟩
  · rw [upd_ne (ne_of hb h1 (by intro z; injection z with _ _ z; exact bF_aF _ _ _ _ _ _ _ z))]
    exact hb
  · have LA := B.pl q l hl
    refine ⟨lst _ _ LA.lst, ?_, fun j u y hu hy => ?_⟩
    · show _ = (actsAt (setActs wd p _) q).length
      rw [actsAt_set hpl, LA.len]
      split
      · rename_i c
        rw [List.length_set, c]
      · rfl
    · have hy' : (if q = p then (actsAt wd p).set i x' else actsAt wd q)[j]? = some y := by
        rw [← actsAt_set hpl]
        exact hy
      by_cases c : q = p ∧ j = i
      · obtain ⟨rfl, rfl⟩ := c
        rw [if_pos rfl, List.getElem?_set_self hil] at hy'
        have ey : x' = y := Option.some.inj hy'
        subst ey
        have eu : t = u := Option.some.inj (ht.symm.trans hu)
        subst eu
        exact ⟨⟨dx, upd_same⟩, by rw [ep]; exact lst _ _ HA.2.1, by rw [et]; exact lst _ _ HA.2.2⟩
      · have hy2 : (actsAt wd q)[j]? = some y := by
          by_cases cq : q = p
          · subst cq
            rw [if_pos rfl, List.getElem?_set_ne (fun e => c ⟨rfl, e.symm⟩)] at hy'
            exact hy'
          · rw [if_neg cq] at hy'
            exact hy'
        obtain ⟨⟨du, hu1⟩, hu2, hu3⟩ := LA.act j u y hu hy2
        have ne : u.1 ≠ t.1 := fun e => c (B.inj q j p i u t hu ht e)
        exact ⟨⟨du, by rw [upd_ne ne]; exact hu1⟩, lst _ _ hu2, lst _ _ hu3⟩
  · refine B.wf.setActs (by rw [List.length_set]; exact B.wf.few _ (actsAt_mem B.wf hp)) fun a ha => ?_
    rcases List.mem_or_eq_of_mem_set ha with h | h
    · exact B.wf.act hp h
    · rw [h]; exact ok
/-- what's stored to one of its lists -/
theorem BoardAt.store (B : BoardAt CB CA H b wd L ls as) {p : Nat} {l : Addr} {ts : List Trip} {xs : List Kp379.Act} (hl : ls[p]? = some l) (hlen : ts.length = xs.length) (few : xs.length ≤ 3) (ok : ∀ a ∈ xs, ActOk wd.n wd.v a)
    (hact : ∀ (i : Nat) (t : Trip) (x : Kp379.Act), ts[i]? = some t → xs[i]? = some x → ActAt CA H t x) (inj1 : ∀ (i j : Nat) (t u : Trip), ts[i]? = some t → ts[j]? = some u → t.1 = u.1 → i = j) (inj2 : ∀ (i : Nat) (t : Trip) (q j : Nat) (u : Trip), ts[i]? = some t → q ≠ p → at2 as q j = some u → t.1 ≠ u.1) :
    BoardAt CB CA (upd H l (.lst (ts.map fun t => V.ref t.1))) b (setActs wd p xs) L ls (as.set p ts) := by
  have hpl' : p < ls.length := (List.getElem?_eq_some_iff.mp hl).1
  have hp : p < wd.n := by rw [← B.nl]; exact hpl'
  have hpl : p < wd.acts.length := by rw [B.wf.len]; exact hp
  have hpa : p < as.length := by rw [B.na]; exact hp
  have LA := B.pl p l hl
  have ins : ∀ a C d fs, H a = some (.ins C d fs) → upd H l (.lst (ts.map fun t => V.ref t.1)) a = some (.ins C d fs) := fun a C d fs e => by
    rw [upd_ne (ne_of e LA.lst (by intro z; cases z))]
    exact e
  have itn : ∀ a (ns : List Int), ns ≠ [] → H a = some (.lst (ns.map V.int)) → upd H l (.lst (ts.map fun t => V.ref t.1)) a = some (.lst (ns.map V.int)) := fun a ns hn e => by
    rw [upd_ne (ne_of e LA.lst (by intro z; injection z with z; exact ints_refs (fun t z => ref_int _ z) hn z))]
    exact e
  have acts : ∀ t x, ActOk wd.n wd.v x → ActAt CA H t x → ActAt CA (upd H l (.lst (ts.map fun t => V.ref t.1))) t x := fun t x ok ⟨⟨d, h1⟩, h2, h3⟩ => by
    refine ⟨⟨d, ins _ _ _ _ h1⟩, itn _ _ (pays_ne ok B.wf.v1) h2, ?_⟩
    rw [nums_eq] at h3 ⊢
    exact itn _ _ (to_ne ok B.wf.n2) h3
  obtain ⟨dxb, hb⟩ := B.bd
  refine ⟨⟨dxb, ins _ _ _ _ hb⟩, ?_, B.nl, by rw [List.length_set]; exact B.na, fun q l' hl' => ?_, B.nd, B.nL, ?_, B.wf.setActs few ok⟩
  · rw [upd_ne (fun e => B.nL (by rw [e]; exact List.mem_of_getElem? hl))]
    exact B.ll
  · rw [getD_set hpa, actsAt_set hpl]
    by_cases c : q = p
    · subst c
      have el : l = l' := Option.some.inj (hl.symm.trans hl')
      subst el
      rw [if_pos rfl, if_pos rfl]
      exact ⟨upd_same, hlen, fun i t x a c => acts t x (ok x (List.mem_of_getElem? c)) (hact i t x a c)⟩
    · rw [if_neg c, if_neg c]
      have LB := B.pl q l' hl'
      have hq : q < wd.n := by rw [← B.nl]; exact (List.getElem?_eq_some_iff.mp hl').1
      have ne : l' ≠ l := fun e => by
        subst e
        exact c (nd_ix B.nd hl' hl)
      exact ⟨by rw [upd_ne ne]; exact LB.lst, LB.len, fun i t x a d => acts t x (B.wf.act hq (List.mem_of_getElem? d)) (LB.act i t x a d)⟩
  · intro q i r j t u ht hu e
    rw [at2_set hpa] at ht hu
    by_cases c : q = p
    · by_cases d : r = p
      · rw [if_pos c] at ht
        rw [if_pos d] at hu
        exact ⟨c.trans d.symm, inj1 i j t u ht hu e⟩
      · rw [if_pos c] at ht
        rw [if_neg d] at hu
        exact absurd e (inj2 i t r j u ht d hu)
    · by_cases d : r = p
      · rw [if_neg c] at ht
        rw [if_pos d] at hu
        exact absurd e.symm (inj2 j u q i t hu c ht)
      · rw [if_neg c] at ht
        rw [if_neg d] at hu
        exact B.inj q i r j t u ht hu e
end
end Sel

set_option maxRecDepth 100000
set_option maxHeartbeats 2000000
namespace Sel
open PySem PySem.Spec PyProof.Rows L2
open Kp379 (actsAt actAt Stand stands setActs setAct)
section
variable {P : Program} {w : PySem.World} {K : PySem.W.Frag} {mg : Str → Option Value} {base : Heap} {CB CA CO CC : Addr}
/-- what the promise of an answer asks: the board, the numbers, whatever is said to be wanted -/
def spA (CB CA : Addr) (mk : List Nat → Option Kp379.Call) : Sp := fun vs H Q _ => ∃ (b : Addr) (wd : Kp379.World) (L : Addr) (ls : List Addr) (as : List (List Trip)) (ns : List Nat) (c : Kp379.Call), vs = .ref b :: nums ns ∧ mk ns = some c ∧ BoardAt CB CA H b wd L ls as ∧ Said CB CA b (some wd) c L ls as H Q
def mkActs : List Nat → Option Kp379.Call
  | [p] => some (.acts p)
  | _ => none
def mkUnact : List Nat → Option Kp379.Call
  | [p, a] => some (.unact p a)
  | _ => none
def mkActis : List Nat → Option Kp379.Call
  | [p, a] => some (.actIs p a)
  | _ => none
def mkTurn : List Nat → Option Kp379.Call
  | [p, a, t] => some (.turn p a t)
  | _ => none
def mkLock : List Nat → Option Kp379.Call
  | [p, a, t] => some (.lock p a t)
  | _ => none
theorem dec_nat (a b : Nat) : decide ((a : Int) < (b : Int)) = decide (a < b) := by
  by_cases c : a < b
  · rw [decide_eq_true c, decide_eq_true (by omega)]
  · rw [decide_eq_false c, decide_eq_false (by omega)]
theorem ok_answer_acts {f : Addr} {fd : FuncData} (F : Fun K "answer_acts" "answer_acts" s_answer_acts f fd) (T : Txt K CB CA CO CC) (hlen : mg "len" = none) (hN : IntC mg "NO_SUCH" (-2)) (O1 : Own P w K mg base "has_place" 1 ["board", "place"] (spHasPlace CB)) :
    FnOk P w K mg base CX0 2 f fd ["board", "place"] (spA CB CA mkActs) := by
  refine F.ok sc_answer_acts (fun vs H Q E h => ?_) (fun cdv A outer s H vs Q E hr h => ?_)
  · obtain ⟨b, wd, L, ls, as, ns, c, rfl, e, _⟩ := h
    match ns, e with
    | [p], _ => rfl
  · obtain ⟨b, wd, L, ls, as, ns, c, rfl, e, B, k⟩ := h
    match ns, e with
    | [p], e =>
      have ec : Kp379.Call.acts p = c := Option.some.inj e
      subst ec
      refine ⟨_, pss_cons (ps_if (pt_not (pt_val (pe_own O1 hr (pa_cons (pv 0) (pa_cons (pv 1) pa_nil))))) (pss_one (ps_ret (pe_lst (pa_cons (pe_intC hN) pa_nil)))) pss_nil)
        (pss_one (ps_ret (pe_lst (pa_cons (pe_callB call_len_seq (by rfl) hlen PySem.boot_len (pa_cons (pe_ix ix_list (pe_fld (pv 0) rfl) (pv 1) (fun _ _ => rfl)) pa_nil)) pa_nil)))), ?_⟩
      refine ⟨_, rfl, _, rfl, b, _, _, _, (p : Int), rfl, B.b, _, rfl, ?_⟩
      obtain ⟨dx, hb⟩ := B.bd
      by_cases hp : p < wd.n
      · refine ifF (by rw [dec_nat, decide_eq_true hp]; rfl) ?_
        obtain ⟨l, hl, LA⟩ := B.place hp
        refine ⟨_, rfl, b, CB, dx, _, _, rfl, hb, T.clB, T.nActs, bF_acts _ _ _, _, rfl, L, _, _, _, rfl, rfl, SqL.of B.ll, at_of (j := p) (v := V.ref l) rfl (by rw [List.getElem?_map, hl]; rfl), l, _, rfl, .inl (SqL.of LA.lst), (by show 1 ≤ sizeLine; decide), fun r hr0 => ?_⟩
        rw [List.length_map, LA.len]
        refine k.no B ?_ (Same.refl _) hr0
        show (some wd, if Kp379.isPlace wd p = false then Kp379.say (-2) else Kp379.say ((actsAt wd p).length : Nat)) = _
        unfold Kp379.isPlace
        rw [decide_eq_true hp, if_neg (by decide)]
      · refine ifT (by rw [dec_nat, decide_eq_false hp]; rfl) ?_
        refine ⟨(by show 1 ≤ sizeLine; decide), fun r hr0 => ?_⟩
        refine k.no B ?_ (Same.refl _) hr0
        show (some wd, if Kp379.isPlace wd p = false then Kp379.say (-2) else Kp379.say ((actsAt wd p).length : Nat)) = _
        unfold Kp379.isPlace
        rw [decide_eq_false hp, if_pos rfl]
theorem isAct_of {wd : Kp379.World} {p i : Nat} (h : Kp379.isAct wd p i = true) : p < wd.n ∧ i < (actsAt wd p).length := by
  unfold Kp379.isAct Kp379.isPlace at h
  simpa using h
/-- there's such an act: where all of it stands -/
theorem BoardAt.at {H : Hp} {b : Addr} {wd : Kp379.World} {L : Addr} {ls : List Addr} {as : List (List Trip)} (B : BoardAt CB CA H b wd L ls as) {p i : Nat} (h : Kp379.isAct wd p i = true) :
    ∃ l t x, ls[p]? = some l ∧ at2 as p i = some t ∧ (actsAt wd p)[i]? = some x ∧ ActAt CA H t x ∧ ListAt CA H l (as.getD p []) (actsAt wd p) := by
  obtain ⟨hp, hi⟩ := isAct_of h
  obtain ⟨l, hl, LA⟩ := B.place hp
  obtain ⟨t, x, ht, hx, HA⟩ := LA.get hi
  exact ⟨l, t, x, hl, ht, hx, HA, LA⟩
theorem ok_answer_actis {f : Addr} {fd : FuncData} (F : Fun K "answer_actis" "answer_actis" s_answer_actis f fd) (T : Txt K CB CA CO CC) (hN : IntC mg "NO_SUCH" (-2)) (O1 : Own P w K mg base "has_act" 2 ["board", "place", "number"] (spHasAct CB CA)) :
    FnOk P w K mg base CX0 3 f fd ["board", "place", "number"] (spA CB CA mkActis) := by
  refine F.ok sc_answer_actis (fun vs H Q E h => ?_) (fun cdv A outer s H vs Q E hr h => ?_)
  · obtain ⟨b, wd, L, ls, as, ns, c, rfl, e, _⟩ := h
    match ns, e with
    | [p, a], _ => rfl
  · obtain ⟨b, wd, L, ls, as, ns, c, rfl, e, B, k⟩ := h
    match ns, e with
    | [p, a], e =>
      have ec : Kp379.Call.actIs p a = c := Option.some.inj e
      subst ec
      have nd := sc_answer_actis.nd
      refine ⟨_, pss_cons (ps_if (pt_not (pt_val (pe_own O1 hr (pa_cons (pv 0) (pa_cons (pv 1) (pa_cons (pv 2) pa_nil)))))) (pss_one (ps_ret (pe_lst (pa_cons (pe_intC hN) pa_nil)))) pss_nil)
        (pss_cons (ps_set (i := 3) nd rfl (Or.inl rfl) (pe_ix ix_list (pe_ix ix_list (pe_fld (pv 0) rfl) (pv 1) (fun _ _ => rfl)) (pv 2) (fun _ _ => rfl)))
        (pss_one (ps_ret (pe_op op_cat (pe_op op_cat (pe_lst (pa_cons (pe_fld (pv 3) rfl) (pa_cons (pe_fld (pv 3) rfl) pa_nil))) (pe_fld (pv 3) rfl)) (pe_fld (pv 3) rfl))))), ?_⟩
      refine ⟨_, rfl, _, rfl, _, rfl, b, wd, L, ls, as, p, a, rfl, B, _, rfl, ?_⟩
      obtain ⟨dx, hb⟩ := B.bd
      have stp : Kp379.step (some wd) (.actIs p a) = (some wd, if Kp379.isAct wd p a = false then Kp379.say (-2) else ⟨((actAt wd p a).turn : Int), (if (actAt wd p a).lock then 1 else 0) :: ((actAt wd p a).pays ++ (actAt wd p a).to.map fun (v : Nat) => (v : Int))⟩) := rfl
      cases ha : Kp379.isAct wd p a with
      | true =>
        refine ifF rfl ?_
        obtain ⟨l, t, x, hl, ht, hx, ⟨⟨da, h1⟩, h2, h3⟩, LA⟩ := B.at ha
        have ok := B.wf.act (isAct_of ha).1 (List.mem_of_getElem? hx)
        have n4 := B.wf.n4
        have v3 := B.wf.v3
        refine ⟨_, rfl, b, CB, dx, _, _, rfl, hb, T.clB, T.nActs, bF_acts _ _ _, _, rfl, L, _, _, _, rfl, rfl, SqL.of B.ll, at_of (j := p) (v := V.ref l) rfl (by rw [List.getElem?_map, hl]; rfl), _, rfl, l, _, _, _, rfl, rfl, SqL.of LA.lst, at_of (j := a) (v := V.ref t.1) rfl (by rw [List.getElem?_map, show (as.getD p [])[a]? = some t from ht]; rfl), ?_⟩
        refine ⟨_, rfl, t.1, CA, da, _, _, rfl, h1, T.clA, T.nInto, aF_into _ _ _ _, _, rfl, t.1, CA, da, _, _, rfl, h1, T.clA, T.nLocks, aF_locks _ _ _ _, (by show 2 ≤ sizeLine; decide), fun r1 hr1 => ?_⟩
        have s1 : Same H _ := same_new (o := .lst [V.int (x.turn : Int), V.int (b2z x.lock)]) hr1
        have lp : (x.pays.map V.int).length ≤ 3 := by rw [List.length_map, ok.pl]; exact v3
        have lt : (nums x.to).length ≤ 4 := by unfold nums; rw [List.length_map, ok.tl]; exact n4
        refine ⟨_, rfl, t.1, CA, da, _, _, rfl, s1 _ _ h1, T.clA, T.nPays, aF_pays _ _ _ _, r1, t.2.1, _, _, rfl, rfl, upd_same, s1 _ _ h2, ?_, fun r2 hr2 => ?_⟩
        · exact Nat.le_trans (show 2 + (x.pays.map V.int).length ≤ 5 by omega) (by decide)
        have s2 := s1.trans (same_new (o := .lst ([V.int (x.turn : Int), V.int (b2z x.lock)] ++ x.pays.map V.int)) hr2)
        refine ⟨_, rfl, t.1, CA, da, _, _, rfl, s2 _ _ h1, T.clA, T.nWeights, aF_weights _ _ _ _, r2, t.2.2, _, _, rfl, rfl, upd_same, s2 _ _ h3, ?_, fun r3 hr3 => ?_⟩
        · refine Nat.le_trans (show ([V.int (x.turn : Int), V.int (b2z x.lock)] ++ x.pays.map V.int).length + (nums x.to).length ≤ 9 from ?_) (by decide)
          rw [List.length_append]
          show 2 + _ + _ ≤ 9
          omega
        refine k.query B (by rw [stp, ha, if_neg (by decide), actAt_of hx]) (s2.trans (same_new hr3)) (s2.free hr3) ?_
        rw [upd_same, nums_eq]
        unfold ansV
        have eb : (if x.lock = true then (1 : Int) else 0) = b2z x.lock := rfl
        rw [eb]
        simp only [List.map_cons, List.map_append, List.cons_append, List.nil_append, List.append_assoc]
      | false =>
        refine ifT rfl ?_
        refine ⟨(by show 1 ≤ sizeLine; decide), fun r hr0 => ?_⟩
        exact k.no B (by rw [stp, ha, if_pos rfl]) (Same.refl _) hr0
theorem Frame.upd {F : Addr → Prop} {H : Hp} {a : Addr} {o : HO} (h : F a) : Frame H (upd H a o) F F := ⟨fun c u e n => by
  rw [upd_ne (fun q => n (by rw [q]; exact h))]
  exact e, fun c h => .inl h⟩
theorem Frame.then {F F1 : Addr → Prop} {H H1 H2 : Hp} (f : Frame H H1 F F1) (s : Same H1 H2) : Frame H H2 F F1 := ⟨fun c o e n => s _ _ (f.keep c o e n), f.new⟩
theorem ok_answer_turn {f : Addr} {fd : FuncData} (F : Fun K "answer_turn" "answer_turn" s_answer_turn f fd) (T : Txt K CB CA CO CC) (hN : IntC mg "NO_SUCH" (-2)) (hO : IntC mg "OUT_OF_RANGE" (-22)) (O1 : Own P w K mg base "has_act" 2 ["board", "place", "number"] (spHasAct CB CA)) :
    FnOk P w K mg base CX0 3 f fd ["board", "place", "number", "into"] (spA CB CA mkTurn) := by
  refine F.ok sc_answer_turn (fun vs H Q E h => ?_) (fun cdv A outer s H vs Q E hr h => ?_)
  · obtain ⟨b, wd, L, ls, as, ns, c, rfl, e, _⟩ := h
    match ns, e with
    | [p, a, t], _ => rfl
  · obtain ⟨b, wd, L, ls, as, ns, c, rfl, e, B, k⟩ := h
    match ns, e with
    | [p, a, n], e =>
      have ec : Kp379.Call.turn p a n = c := Option.some.inj e
      subst ec
      have nd := sc_answer_turn.nd
      refine ⟨_, pss_cons (ps_if (pt_not (pt_val (pe_own O1 hr (pa_cons (pv 0) (pa_cons (pv 1) (pa_cons (pv 2) pa_nil)))))) (pss_one (ps_ret (pe_lst (pa_cons (pe_intC hN) pa_nil)))) pss_nil)
        (pss_cons (ps_if (pt_cmpR op_gt (pv 3) (pe_fld (pv 0) rfl) (nomark _)) (pss_one (ps_ret (pe_lst (pa_cons (pe_intC hO) pa_nil)))) pss_nil)
        (pss_cons (ps_set (i := 4) nd rfl (Or.inl rfl) (pe_ix ix_list (pe_ix ix_list (pe_fld (pv 0) rfl) (pv 1) (fun _ _ => rfl)) (pv 2) (fun _ _ => rfl)))
        (pss_cons (ps_set (i := 5) nd rfl (Or.inl rfl) (pe_fld (pv 4) rfl))
        (pss_cons (ps_fld (pv 4) (pv 3) rfl)
        (pss_one (ps_ret (pe_lst (pa_cons (pv 5) pa_nil)))))))), ?_⟩
      refine ⟨_, rfl, _, rfl, _, rfl, b, wd, L, ls, as, p, a, rfl, B, _, rfl, ?_⟩
      obtain ⟨dx, hb⟩ := B.bd
      have stp : Kp379.step (some wd) (.turn p a n) = if Kp379.isAct wd p a = false then (some wd, Kp379.say (-2)) else if wd.v < n then (some wd, Kp379.say (-22)) else (some (setAct wd p a { actAt wd p a with turn := n }), Kp379.say ((actAt wd p a).turn : Nat)) := rfl
      cases ha : Kp379.isAct wd p a with
      | true =>
        refine ifF rfl ?_
        rw [ha, if_neg (by decide)] at stp
        refine ⟨_, rfl, _, rfl, b, CB, dx, _, _, rfl, hb, T.clB, T.nSelves, bF_selves _ _ _, _, _, rfl, rfl, _, rfl, ?_⟩
        by_cases hn : wd.v < n
        · refine ifT (decide_eq_true (show (n : Int) > (wd.v : Int) by omega)) ?_
          refine ⟨(by show 1 ≤ sizeLine; decide), fun r hr0 => ?_⟩
          exact k.no B (by rw [stp, if_pos hn]) (Same.refl _) hr0
        · refine ifF (decide_eq_false (show ¬ (n : Int) > (wd.v : Int) by omega)) ?_
          obtain ⟨l, t, x, hl, ht, hx, ⟨⟨da, h1⟩, h2, h3⟩, LA⟩ := B.at ha
          have ok := B.wf.act (isAct_of ha).1 (List.mem_of_getElem? hx)
          refine ⟨_, rfl, b, CB, dx, _, _, rfl, hb, T.clB, T.nActs, bF_acts _ _ _, _, rfl, L, _, _, _, rfl, rfl, SqL.of B.ll, at_of (j := p) (v := V.ref l) rfl (by rw [List.getElem?_map, hl]; rfl), _, rfl, l, _, _, _, rfl, rfl, SqL.of LA.lst, at_of (j := a) (v := V.ref t.1) rfl (by rw [List.getElem?_map, show (as.getD p [])[a]? = some t from ht]; rfl), ?_⟩
          refine ⟨_, rfl, t.1, CA, da, _, _, rfl, h1, T.clA, T.nInto, aF_into _ _ _ _, _, rfl, _, rfl, t.1, CA, da, _, rfl, h1, T.clA, T.nInto, (by show 4 < 1000; decide), ?_⟩
          rw [aF_putI]
          refine ⟨_, rfl, (by show 1 ≤ sizeLine; decide), fun r hr0 => ?_⟩
          rw [if_neg hn] at stp
          have B' := B.setAct (x' := { x with turn := n }) ht hx h1 rfl rfl ⟨ok.pl, ok.pb, ok.tl, ok.tb, ok.t0, by show n ≤ wd.v; omega⟩
          have fr : Frame H _ (Fp b L ls as) (Fp b L ls as) := Frame.upd (o := .ins CA da (aF t.2.1 t.2.2 (n : Int) (b2z x.lock))) (.inr (.inr (.inr ⟨p, a, t, ht, .inl rfl⟩)))
          have hrn : r ≠ t.1 := fun e => by
            rw [e, upd_same] at hr0
            cases hr0
          refine k _ r L ls as ?_ (fr.then (same_new hr0)) (by rw [upd_ne hrn] at hr0; exact hr0) ?_
          · rw [stp, actAt_of hx]
            exact B'.same (same_new hr0)
          · rw [stp, actAt_of hx]
            exact upd_same
      | false =>
        refine ifT rfl ?_
        refine ⟨(by show 1 ≤ sizeLine; decide), fun r hr0 => ?_⟩
        exact k.no B (by rw [stp, ha, if_pos rfl]) (Same.refl _) hr0
theorem ok_answer_lock {f : Addr} {fd : FuncData} (F : Fun K "answer_lock" "answer_lock" s_answer_lock f fd) (T : Txt K CB CA CO CC) (hN : IntC mg "NO_SUCH" (-2)) (hO : IntC mg "OUT_OF_RANGE" (-22)) (O1 : Own P w K mg base "has_act" 2 ["board", "place", "number"] (spHasAct CB CA)) :
    FnOk P w K mg base CX0 3 f fd ["board", "place", "number", "locks"] (spA CB CA mkLock) := by
  refine F.ok sc_answer_lock (fun vs H Q E h => ?_) (fun cdv A outer s H vs Q E hr h => ?_)
  · obtain ⟨b, wd, L, ls, as, ns, c, rfl, e, _⟩ := h
    match ns, e with
    | [p, a, t], _ => rfl
  · obtain ⟨b, wd, L, ls, as, ns, c, rfl, e, B, k⟩ := h
    match ns, e with
    | [p, a, n], e =>
      have ec : Kp379.Call.lock p a n = c := Option.some.inj e
      subst ec
      have nd := sc_answer_lock.nd
      refine ⟨_, pss_cons (ps_if (pt_not (pt_val (pe_own O1 hr (pa_cons (pv 0) (pa_cons (pv 1) (pa_cons (pv 2) pa_nil)))))) (pss_one (ps_ret (pe_lst (pa_cons (pe_intC hN) pa_nil)))) pss_nil)
        (pss_cons (ps_if (pt_cmpR op_gt (pv 3) pe_int (nomark _)) (pss_one (ps_ret (pe_lst (pa_cons (pe_intC hO) pa_nil)))) pss_nil)
        (pss_cons (ps_set (i := 4) nd rfl (Or.inl rfl) (pe_ix ix_list (pe_ix ix_list (pe_fld (pv 0) rfl) (pv 1) (fun _ _ => rfl)) (pv 2) (fun _ _ => rfl)))
        (pss_cons (ps_set (i := 5) nd rfl (Or.inl rfl) (pe_fld (pv 4) rfl))
        (pss_cons (ps_fld (pv 4) (pv 3) rfl)
        (pss_one (ps_ret (pe_lst (pa_cons (pv 5) pa_nil)))))))), ?_⟩
      refine ⟨_, rfl, _, rfl, _, rfl, b, wd, L, ls, as, p, a, rfl, B, _, rfl, ?_⟩
      obtain ⟨dx, hb⟩ := B.bd
      have stp : Kp379.step (some wd) (.lock p a n) = if Kp379.isAct wd p a = false then (some wd, Kp379.say (-2)) else if 1 < n then (some wd, Kp379.say (-22)) else (some (setAct wd p a { actAt wd p a with lock := n == 1 }), Kp379.yes (actAt wd p a).lock) := rfl
      cases ha : Kp379.isAct wd p a with
      | true =>
        refine ifF rfl ?_
        rw [ha, if_neg (by decide)] at stp
        refine ⟨_, rfl, _, _, rfl, rfl, _, rfl, ?_⟩
        by_cases hn : 1 < n
        · refine ifT (decide_eq_true (show (n : Int) > 1 by omega)) ?_
          refine ⟨(by show 1 ≤ sizeLine; decide), fun r hr0 => ?_⟩
          exact k.no B (by rw [stp, if_pos hn]) (Same.refl _) hr0
        · refine ifF (decide_eq_false (show ¬ (n : Int) > 1 by omega)) ?_
          obtain ⟨l, t, x, hl, ht, hx, ⟨⟨da, h1⟩, h2, h3⟩, LA⟩ := B.at ha
          have ok := B.wf.act (isAct_of ha).1 (List.mem_of_getElem? hx)
          refine ⟨_, rfl, b, CB, dx, _, _, rfl, hb, T.clB, T.nActs, bF_acts _ _ _, _, rfl, L, _, _, _, rfl, rfl, SqL.of B.ll, at_of (j := p) (v := V.ref l) rfl (by rw [List.getElem?_map, hl]; rfl), _, rfl, l, _, _, _, rfl, rfl, SqL.of LA.lst, at_of (j := a) (v := V.ref t.1) rfl (by rw [List.getElem?_map, show (as.getD p [])[a]? = some t from ht]; rfl), ?_⟩
          refine ⟨_, rfl, t.1, CA, da, _, _, rfl, h1, T.clA, T.nLocks, aF_locks _ _ _ _, _, rfl, _, rfl, t.1, CA, da, _, rfl, h1, T.clA, T.nLocks, (by show 4 < 1000; decide), ?_⟩
          rw [aF_putL]
          refine ⟨_, rfl, (by show 1 ≤ sizeLine; decide), fun r hr0 => ?_⟩
          rw [if_neg hn] at stp
          have en : (n : Int) = b2z (n == 1) := by
            have : n = 0 ∨ n = 1 := by omega
            rcases this with rfl | rfl <;> rfl
          have B' := B.setAct (x' := { x with lock := n == 1 }) ht hx h1 rfl rfl ⟨ok.pl, ok.pb, ok.tl, ok.tb, ok.t0, ok.tu⟩
          have fr : Frame H _ (Fp b L ls as) (Fp b L ls as) := Frame.upd (o := .ins CA da (aF t.2.1 t.2.2 (x.turn : Int) (n : Int))) (.inr (.inr (.inr ⟨p, a, t, ht, .inl rfl⟩)))
          have hrn : r ≠ t.1 := fun e => by
            rw [e, upd_same] at hr0
            cases hr0
          refine k _ r L ls as ?_ (fr.then (same_new hr0)) (by rw [upd_ne hrn] at hr0; exact hr0) ?_
          · rw [stp, actAt_of hx]
            have B2 : BoardAt CB CA (upd H t.1 (.ins CA da (aF t.2.1 t.2.2 (x.turn : Int) (n : Int)))) b (setAct wd p a { x with lock := n == 1 }) L ls as := by
              rw [en]
              exact B'
            exact B2.same (same_new hr0)
          · rw [stp, actAt_of hx]
            exact upd_same
      | false =>
        refine ifT rfl ?_
        refine ⟨(by show 1 ≤ sizeLine; decide), fun r hr0 => ?_⟩
        exact k.no B (by rw [stp, ha, if_pos rfl]) (Same.refl _) hr0
end
end Sel

set_option maxRecDepth 100000
set_option maxHeartbeats 2000000
namespace Sel
open PySem PySem.Spec PyProof.Rows L2
open Kp379 (actsAt actAt Stand stands setActs setAct)
section
variable {P : Program} {w : PySem.World} {K : PySem.W.Frag} {mg : Str → Option Value} {base : Heap} {CB CA CO CC : Addr}
theorem erase_get {α : Type} {l : List α} {i j : Nat} {x : α} (h : (l.eraseIdx i)[j]? = some x) : l[if j < i then j else j + 1]? = some x := by
  rw [List.getElem?_eraseIdx] at h
  split at h
  · rename_i c
    rw [if_pos c]
    exact h
  · rename_i c
    rw [if_neg c]
    exact h
theorem seqIx_nat {a n : Nat} (h : a < n) : seqIndex? (a : Int) n = some a := by
  have e : (if (a : Int) < 0 then (a : Int) + (n : Int) else (a : Int)) = (a : Int) := if_neg (by omega)
  unfold seqIndex?
  simp only [e]
  rw [if_pos (by simp; omega)]
  rfl
theorem ok_answer_unact {f : Addr} {fd : FuncData} (F : Fun K "answer_unact" "answer_unact" s_answer_unact f fd) (T : Txt K CB CA CO CC) (hlen : mg "len" = none) (hN : IntC mg "NO_SUCH" (-2)) (O1 : Own P w K mg base "has_act" 2 ["board", "place", "number"] (spHasAct CB CA)) :
    FnOk P w K mg base CX0 3 f fd ["board", "place", "number"] (spA CB CA mkUnact) := by
  refine F.ok sc_answer_unact (fun vs H Q E h => ?_) (fun cdv A outer s H vs Q E hr h => ?_)
  · obtain ⟨b, wd, L, ls, as, ns, c, rfl, e, _⟩ := h
    match ns, e with
    | [p, a], _ => rfl
  · obtain ⟨b, wd, L, ls, as, ns, c, rfl, e, B, k⟩ := h
    match ns, e with
    | [p, a], e =>
      have ec : Kp379.Call.unact p a = c := Option.some.inj e
      subst ec
      have nd := sc_answer_unact.nd
      refine ⟨_, pss_cons (ps_if (pt_not (pt_val (pe_own O1 hr (pa_cons (pv 0) (pa_cons (pv 1) (pa_cons (pv 2) pa_nil)))))) (pss_one (ps_ret (pe_lst (pa_cons (pe_intC hN) pa_nil)))) pss_nil)
        (pss_cons (ps_expr (pe_bm PySem.F.plainAttrs_list PySem.F.slot_list_pop PySem.F.type_list_pop mt_popAt (pe_ix ix_list (pe_fld (pv 0) rfl) (pv 1) (fun _ _ => rfl)) (pa_cons (pv 2) pa_nil)))
        (pss_one (ps_ret (pe_lst (pa_cons (pe_callB call_len_seq (by rfl) hlen PySem.boot_len (pa_cons (pe_ix ix_list (pe_fld (pv 0) rfl) (pv 1) (fun _ _ => rfl)) pa_nil)) pa_nil))))), ?_⟩
      refine ⟨_, rfl, _, rfl, _, rfl, b, wd, L, ls, as, p, a, rfl, B, _, rfl, ?_⟩
      obtain ⟨dx, hb⟩ := B.bd
      have stp : Kp379.step (some wd) (.unact p a) = if Kp379.isAct wd p a = false then (some wd, Kp379.say (-2)) else (some (setActs wd p ((actsAt wd p).take a ++ (actsAt wd p).drop (a + 1))), Kp379.say ((actsAt wd p).length - 1 : Nat)) := rfl
      cases ha : Kp379.isAct wd p a with
      | true =>
        refine ifF rfl ?_
        rw [ha, if_neg (by decide)] at stp
        obtain ⟨l, t, x, hl, ht, hx, HA, LA⟩ := B.at ha
        have hp := (isAct_of ha).1
        have hia := (isAct_of ha).2
        have few := B.wf.few _ (actsAt_mem B.wf hp)
        have hta : a < (as.getD p []).length := by rw [LA.len]; exact hia
        refine ⟨_, rfl, b, CB, dx, _, _, rfl, hb, T.clB, T.nActs, bF_acts _ _ _, _, rfl, L, _, _, _, rfl, rfl, SqL.of B.ll, at_of (j := p) (v := V.ref l) rfl (by rw [List.getElem?_map, hl]; rfl), .inl ⟨rfl, _, SqL.of LA.lst⟩, _, rfl,
          l, _, (a : Int), a, V.ref t.1, rfl, rfl, LA.lst, by omega, by omega, ?_, (by rw [List.getElem?_map, show (as.getD p [])[a]? = some t from ht]; rfl), ?_⟩
        · rw [List.length_map]
          exact seqIx_nat hta
        have B' := B.store (ts := (as.getD p []).eraseIdx a) (xs := (actsAt wd p).eraseIdx a) hl (by rw [List.length_eraseIdx, List.length_eraseIdx, LA.len]) (by rw [List.length_eraseIdx]; split <;> omega)
          (fun y hy => B.wf.act hp (List.mem_of_mem_eraseIdx hy)) (fun i u y hu hy => LA.act _ u y (erase_get hu) (erase_get hy))
          (fun i j u v hu hv e => by
            have := (B.inj p _ p _ u v (erase_get hu) (erase_get hv) e).2
            split at this <;> split at this <;> omega)
          (fun i u q j v hu hq hv e => hq (B.inj p _ q j u v (erase_get hu) hv e).1.symm)
        have em : ((as.getD p []).map fun t => V.ref t.1).eraseIdx a = ((as.getD p []).eraseIdx a).map fun t => V.ref t.1 := by
          rw [List.eraseIdx_eq_take_drop_succ, List.eraseIdx_eq_take_drop_succ, List.map_append, List.map_take, List.map_drop]
        rw [em]
        have fr : Frame H (upd H l (.lst (((as.getD p []).eraseIdx a).map fun t => V.ref t.1))) (Fp b L ls as) (Fp b L ls (as.set p ((as.getD p []).eraseIdx a))) := by
          refine ⟨(Frame.upd (F := Fp b L ls as) (.inr (.inr (.inl (List.mem_of_getElem? hl))))).keep, fun c hc => ?_⟩
          rcases hc with h | h | h | ⟨q, i, u, hu, h⟩
          · exact .inl (.inl h)
          · exact .inl (.inr (.inl h))
          · exact .inl (.inr (.inr (.inl h)))
          · rw [at2_set (by rw [B.na]; exact hp)] at hu
            by_cases cq : q = p
            · rw [if_pos cq] at hu
              exact .inl (.inr (.inr (.inr ⟨p, _, u, erase_get hu, h⟩)))
            · rw [if_neg cq] at hu
              exact .inl (.inr (.inr (.inr ⟨q, i, u, hu, h⟩)))
        obtain ⟨dx', hb'⟩ := B'.bd
        obtain ⟨l', hl', LA'⟩ := B'.place (show p < (setActs wd p ((actsAt wd p).eraseIdx a)).n from hp)
        have el : l = l' := Option.some.inj (hl.symm.trans hl')
        subst el
        refine ⟨_, rfl, b, CB, dx', _, _, rfl, hb', T.clB, T.nActs, bF_acts _ _ _, _, rfl, L, _, _, _, rfl, rfl, SqL.of B'.ll, at_of (j := p) (v := V.ref l) rfl (by rw [List.getElem?_map, hl]; rfl), l, _, rfl, .inl (SqL.of upd_same), (by show 1 ≤ sizeLine; decide), fun r hr0 => ?_⟩
        have hrl : r ≠ l := fun e => by
          rw [e, upd_same] at hr0
          cases hr0
        refine k _ r L ls _ ?_ (fr.then (same_new hr0)) (by rw [upd_ne hrl] at hr0; exact hr0) ?_
        · rw [stp, ← List.eraseIdx_eq_take_drop_succ]
          exact B'.same (same_new hr0)
        · rw [stp, upd_same, List.length_map, List.length_eraseIdx, if_pos hta, LA.len]
          rfl
      | false =>
        refine ifT rfl ?_
        refine ⟨(by show 1 ≤ sizeLine; decide), fun r hr0 => ?_⟩
        exact k.no B (by rw [stp, ha, if_pos rfl]) (Same.refl _) hr0
end
end Sel

set_option maxRecDepth 100000
set_option maxHeartbeats 2000000
namespace Sel
open PySem PySem.Spec PyProof.Rows L2
open Kp379 (actsAt actAt Stand stands setActs setAct)
theorem cut_hi (xs : List V) (k : Nat) : cutV xs none (some (k : Int)) = xs.take k := by
  unfold cutV
  rw [HT.sIx_none, HT.sIx_nat, List.drop_zero, Nat.sub_zero]
  rcases Nat.lt_or_ge k xs.length with h | h
  · rw [Nat.min_eq_left (Nat.le_of_lt h)]
  · rw [Nat.min_eq_right h, List.take_length, List.take_of_length_le h]
theorem cut_lo (xs : List V) (k : Nat) : cutV xs (some (k : Int)) none = xs.drop k := by
  unfold cutV
  rw [HT.sIx_none, HT.sIx_nat]
  rcases Nat.lt_or_ge k xs.length with h | h
  · rw [Nat.min_eq_left (Nat.le_of_lt h), List.take_of_length_le (by rw [List.length_drop]; omega)]
  · rw [Nat.min_eq_right h, List.drop_of_length_le (Nat.le_refl _), List.drop_of_length_le h]
    simp
theorem weights_nat {ws : List Int} (h : weightOk ws = true) : (ws.map Int.toNat).map (fun (n : Nat) => (n : Int)) = ws := by
  unfold weightOk at h
  rw [List.all_eq_true] at h
  rw [List.map_map]
  have : ∀ x ∈ ws, ((fun (n : Nat) => (n : Int)) ∘ Int.toNat) x = id x := fun x hx => by
    have := h x hx
    simp at this
    show ((x.toNat : Nat) : Int) = x
    omega
  rw [List.map_congr_left this, List.map_id]
theorem sum_any : ∀ {ws : List Int}, weightOk ws = true → 0 ≤ ws.sum ∧ decide (0 < ws.sum) = ws.any fun v => decide (0 < v)
  | [], _ => ⟨by simp, rfl⟩
  | z :: r, h => by
    unfold weightOk at h
    rw [List.all_cons, Bool.and_eq_true] at h
    have hz : 0 ≤ z := by
      have := h.1
      simp at this
      omega
    obtain ⟨h0, ih⟩ := sum_any (ws := r) h.2
    rw [List.sum_cons, List.any_cons, ← ih]
    refine ⟨by omega, ?_⟩
    by_cases c : 0 < z
    · rw [decide_eq_true c, Bool.true_or, decide_eq_true (by omega)]
    · rw [decide_eq_false c, Bool.false_or]
      have : z = 0 := by omega
      rw [this, Int.zero_add]
/-- the row as it's read -/
def rowOk (wd : Kp379.World) (l : List Int) : Bool := decide (l.length = wd.v + wd.n) && (payOk (l.take wd.v) && (weightOk (l.drop wd.v) && decide (0 < (l.drop wd.v).sum)))
def rowAct (wd : Kp379.World) (l : List Int) : Kp379.Act := ⟨l.take wd.v, (l.drop wd.v).map Int.toNat, 0, false⟩
theorem readAct_is (wd : Kp379.World) (l : List Int) : Kp379.readAct wd l = if rowOk wd l = true then some (rowAct wd l) else none := by
  have key : (l.length = wd.v + wd.n ∧ ((l.take wd.v).all fun v => decide (-9 ≤ v) && decide (v ≤ 9)) = true ∧ ((l.drop wd.v).all fun v => decide (0 ≤ v) && decide (v ≤ 9)) = true ∧ (l.drop wd.v).any (fun v => decide (0 < v)) = true) ↔ rowOk wd l = true := by
    unfold rowOk
    rw [Bool.and_eq_true, Bool.and_eq_true, Bool.and_eq_true, decide_eq_true_iff]
    constructor
    · rintro ⟨a, b, c, d⟩
      exact ⟨a, b, c, by rw [(sum_any c).2]; exact d⟩
    · rintro ⟨a, b, c, d⟩
      exact ⟨a, b, c, by rw [← (sum_any c).2]; exact d⟩
  unfold Kp379.readAct rowAct
  by_cases h : rowOk wd l = true
  · rw [if_pos h]
    exact if_pos (key.mpr h)
  · rw [if_neg h]
    exact if_neg fun q => h (key.mp q)
theorem rowAct_ok {wd : Kp379.World} {l : List Int} (h : rowOk wd l = true) : ActOk wd.n wd.v (rowAct wd l) ∧ nums (rowAct wd l).to = (l.drop wd.v).map V.int := by
  unfold rowOk at h
  rw [Bool.and_eq_true, Bool.and_eq_true, Bool.and_eq_true, decide_eq_true_iff, decide_eq_true_iff] at h
  obtain ⟨a, b, c, d⟩ := h
  have e := weights_nat c
  refine ⟨⟨?_, ?_, ?_, ?_, ?_, Nat.zero_le _⟩, ?_⟩
  · show (l.take wd.v).length = wd.v
    rw [List.length_take]
    omega
  · intro x hx
    have := List.all_eq_true.mp b x hx
    simp at this
    omega
  · show ((l.drop wd.v).map Int.toNat).length = wd.n
    rw [List.length_map, List.length_drop]
    omega
  · intro x hx
    obtain ⟨y, hy, rfl⟩ := List.mem_map.mp hx
    have := List.all_eq_true.mp c y hy
    simp at this
    omega
  · have := total_sum (rowAct wd l).to
    rw [show (rowAct wd l).to.map (fun (n : Nat) => (n : Int)) = l.drop wd.v from e] at this
    omega
  · rw [nums_eq]
    exact congrArg _ e
section
variable {P : Program} {w : PySem.World} {K : PySem.W.Frag} {mg : Str → Option Value} {base : Heap} {CB CA CO CC : Addr}
def spAct (K : PySem.W.Frag) (CB CA : Addr) : Sp := fun vs H Q _ => ∃ (b ra : Addr) (wd : Kp379.World) (L : Addr) (ls : List Addr) (as : List (List Trip)) (p : Nat) (l : List Int), vs = [.ref b, .int (p : Int), .ref ra] ∧ SqL K H ra (l.map V.int) ∧ l.length ≤ 100 ∧
  BoardAt CB CA H b wd L ls as ∧ Said CB CA b (some wd) (.act p l) L ls as H Q
theorem ok_answer_act {f : Addr} {fd : FuncData} (F : Fun K "answer_act" "answer_act" s_answer_act f fd) (T : Txt K CB CA CO CC) (hlen : mg "len" = none) (hN : IntC mg "NO_SUCH" (-2)) (hO : IntC mg "OUT_OF_RANGE" (-22)) (hT : IntC mg "TOO_MANY_ACTS" (-28)) (hM : IntC mg "MOST_ACTS" 3)
    (O1 : Own P w K mg base "has_place" 1 ["board", "place"] (spHasPlace CB)) (O2 : Own P w K mg base "are_pays" 1 ["pays"] (spPays K)) (O3 : Own P w K mg base "are_weights" 1 ["weights"] (spWeights K)) (OA : OwnC P w K mg base "Act" CA 1 ["self", "pays", "weights"] (spActInit CA)) :
    FnOk P w K mg base CX0 3 f fd ["board", "place", "row"] (spAct K CB CA) := by
  refine F.ok sc_answer_act (fun vs H Q E h => ?_) (fun cdv A outer s H vs Q E hr h => ?_)
  · obtain ⟨b, ra, wd, L, ls, as, p, l, rfl, _⟩ := h
    rfl
  · obtain ⟨b, ra, wd, L, ls, as, p, l, rfl, hS, hl100, B, k⟩ := h
    have nd := sc_answer_act.nd
    have hr1 : Room 1 _ := hr.mono (by decide)
    refine ⟨_, pss_cons (ps_if (pt_not (pt_val (pe_own O1 hr1 (pa_cons (pv 0) (pa_cons (pv 1) pa_nil))))) (pss_one (ps_ret (pe_lst (pa_cons (pe_intC hN) pa_nil)))) pss_nil)
      (pss_cons (ps_set (i := 3) nd rfl (Or.inl rfl) (pe_slice sl_list (pv 2) po_none (po_some (pe_fld (pv 0) rfl))))
      (pss_cons (ps_set (i := 4) nd rfl (Or.inl rfl) (pe_slice sl_list (pv 2) (po_some (pe_fld (pv 0) rfl)) po_none))
      (pss_cons (ps_if (PW.pt (pw_or (pt_cmpR op_ne (pe_callB call_len_seq (by rfl) hlen PySem.boot_len (pa_cons (pv 2) pa_nil)) (pe_op op_add (pe_fld (pv 0) rfl) (pe_fld (pv 0) rfl)) (nomark _))
          (pw_or (pt_not (pt_val (pe_own O2 hr1 (pa_cons (pv 3) pa_nil)))) (pw_or1 (pt_not (pt_val (pe_own O3 hr1 (pa_cons (pv 4) pa_nil)))))))) (pss_one (ps_ret (pe_lst (pa_cons (pe_intC hO) pa_nil)))) pss_nil)
      (pss_cons (ps_set (i := 5) nd rfl (Or.inl rfl) (pe_callB call_len_seq (by rfl) hlen PySem.boot_len (pa_cons (pe_ix ix_list (pe_fld (pv 0) rfl) (pv 1) (fun _ _ => rfl)) pa_nil)))
      (pss_cons (ps_if (pt_cmpR op_eq (pv 5) (pe_intC hM) (nomark _)) (pss_one (ps_ret (pe_lst (pa_cons (pe_intC hT) pa_nil)))) pss_nil)
      (pss_cons (ps_expr (pe_bm PySem.F.plainAttrs_list PySem.F.slot_list_append PySem.F.type_list_append mt_append (pe_ix ix_list (pe_fld (pv 0) rfl) (pv 1) (fun _ _ => rfl)) (pa_cons (pe_ownC OA hr (pa_cons (pv 3) (pa_cons (pv 4) pa_nil))) pa_nil)))
      (pss_one (ps_ret (pe_lst (pa_cons (pv 5) pa_nil)))))))))), ?_⟩
    refine ⟨_, rfl, _, rfl, b, _, _, _, (p : Int), rfl, B.b, _, rfl, ?_⟩
    obtain ⟨dx, hb⟩ := B.bd
    have stp : Kp379.step (some wd) (.act p l) = if Kp379.isPlace wd p = false then (some wd, Kp379.say (-2)) else (match Kp379.readAct wd l with
        | none => (some wd, Kp379.say (-22))
        | some x => if Kp379.ACTS ≤ (actsAt wd p).length then (some wd, Kp379.say (-28)) else (some (setActs wd p (actsAt wd p ++ [x])), Kp379.say ((actsAt wd p).length : Nat))) := rfl
    unfold Kp379.isPlace at stp
    by_cases hp : p < wd.n
    · rw [decide_eq_true hp, if_neg (by decide), readAct_is] at stp
      refine ifF (by rw [dec_nat, decide_eq_true hp]; rfl) ?_
      -- pays, weights
      refine ⟨_, rfl, _, rfl, b, CB, dx, _, _, rfl, hb, T.clB, T.nSelves, bF_selves _ _ _, _, rfl, ra, _, rfl, hS, fun pa hpa => ?_⟩
      rw [cut_hi, ← List.map_take]
      have s1 : Same H _ := same_new (o := .lst ((l.take wd.v).map V.int)) hpa
      refine ⟨_, rfl, _, rfl, b, CB, dx, _, _, rfl, s1 _ _ hb, T.clB, T.nSelves, bF_selves _ _ _, _, rfl, ra, _, rfl, s1.seq hS, fun wa hwa => ?_⟩
      rw [cut_lo, ← List.map_drop]
      have s2 := s1.trans (same_new (o := .lst ((l.drop wd.v).map V.int)) hwa)
      have npw : pa ≠ wa := ne_of_none upd_same hwa
      have hpa2 : upd (upd H pa (.lst ((l.take wd.v).map V.int))) wa (.lst ((l.drop wd.v).map V.int)) pa = some (.lst ((l.take wd.v).map V.int)) := by
        rw [upd_ne npw]
        exact upd_same
      have hwa2 : upd (upd H pa (.lst ((l.take wd.v).map V.int))) wa (.lst ((l.drop wd.v).map V.int)) wa = some (.lst ((l.drop wd.v).map V.int)) := upd_same
      generalize upd (upd H pa (.lst ((l.take wd.v).map V.int))) wa (.lst ((l.drop wd.v).map V.int)) = H2 at *
      have hpaH : H pa = none := hpa
      have hwaH : H wa = none := s1.free hwa
      -- the refusals of the row
      have bad : ∀ H3, Same H H3 → rowOk wd l = false → ∀ r, H3 r = none → Q (.ref r) (upd H3 r (.lst [V.int (-22)])) := fun H3 s3 c r hr0 => by
        refine k.no B ?_ s3 hr0
        rw [stp, c]
        rfl
      refine ⟨_, rfl, ra, _, rfl, .inl (s2.seq hS), ?_⟩
      refine ⟨_, rfl, b, CB, dx, _, _, rfl, s2 _ _ hb, T.clB, T.nSelves, bF_selves _ _ _, _, rfl, b, CB, dx, _, _, rfl, s2 _ _ hb, T.clB, T.nPlaces, bF_places _ _ _, _, _, rfl, rfl, rfl, _, rfl, ?_⟩
      by_cases cl : l.length = wd.v + wd.n
      · refine ifF (by rw [List.length_map, cl]; simp) ?_
        refine ⟨_, rfl, pa, l.take wd.v, rfl, SqL.of hpa2, (by rw [List.length_take]; omega), fun H3 s3 => ⟨_, rfl, ?_⟩⟩
        cases cp : payOk (l.take wd.v) with
        | false =>
          refine ifT rfl ?_
          refine ifT rfl ?_
          refine ⟨(by show 1 ≤ sizeLine; decide), fun r hr0 => bad H3 (s2.trans s3) ?_ r hr0⟩
          unfold rowOk
          rw [cp, Bool.false_and, Bool.and_false]
        | true =>
          refine ifF rfl ?_
          refine ⟨_, rfl, wa, l.drop wd.v, rfl, SqL.of (s3 _ _ hwa2), (by rw [List.length_drop]; omega), fun H4 s4 => ⟨_, rfl, ?_⟩⟩
          have er : rowOk wd l = (weightOk (l.drop wd.v) && decide (0 < (l.drop wd.v).sum)) := by
            unfold rowOk
            rw [cp, decide_eq_true cl, Bool.true_and, Bool.true_and]
          cases cw : (weightOk (l.drop wd.v) && decide (0 < (l.drop wd.v).sum)) with
          | false =>
            refine ifT rfl ?_
            exact ⟨(by show 1 ≤ sizeLine; decide), fun r hr0 => bad H4 ((s2.trans s3).trans s4) (er.trans cw) r hr0⟩
          | true =>
            have ok := er.trans cw
            rw [ok, if_pos rfl] at stp
            refine ifF rfl ?_
            have s5 := (s2.trans s3).trans s4
            obtain ⟨lp, hlp, LA⟩ := B.place hp
            have few := B.wf.few _ (actsAt_mem B.wf hp)
            refine ⟨_, rfl, b, CB, dx, _, _, rfl, s5 _ _ hb, T.clB, T.nActs, bF_acts _ _ _, _, rfl, L, _, _, _, rfl, rfl, SqL.of (s5 _ _ B.ll), at_of (j := p) (v := V.ref lp) rfl (by rw [List.getElem?_map, hlp]; rfl), lp, _, rfl, .inl (SqL.of (s5 _ _ LA.lst)), ?_⟩
            rw [List.length_map, LA.len]
            refine ⟨_, rfl, rfl, _, rfl, ?_⟩
            by_cases c3 : (actsAt wd p).length = 3
            · refine ifT (by rw [c3]; rfl) ?_
              refine ⟨(by show 1 ≤ sizeLine; decide), fun r hr0 => k.no B ?_ s5 hr0⟩
              rw [stp]
              exact if_pos (by rw [c3]; decide)
            · refine ifF (decide_eq_false (by intro e; injection e with e; omega)) ?_
              have stp' : Kp379.step (some wd) (.act p l) = (some (setActs wd p (actsAt wd p ++ [rowAct wd l])), Kp379.say ((actsAt wd p).length : Nat)) := stp.trans (if_neg (by show ¬ 3 ≤ _; omega))
              refine ⟨_, rfl, b, CB, dx, _, _, rfl, s5 _ _ hb, T.clB, T.nActs, bF_acts _ _ _, _, rfl, L, _, _, _, rfl, rfl, SqL.of (s5 _ _ B.ll), at_of (j := p) (v := V.ref lp) rfl (by rw [List.getElem?_map, hlp]; rfl), .inl ⟨rfl, _, SqL.of (s5 _ _ LA.lst)⟩, ?_⟩
              refine ⟨_, rfl, _, rfl, fun x dxx hx hdx ne => ?_⟩
              refine ⟨x, dxx, pa, wa, rfl, upd_same, fun H6 h61 h62 => ⟨rfl, ?_⟩⟩
              have s46 : Same H4 H6 := Same.made hx hdx h62
              have s6 := s5.trans s46
              refine ⟨lp, _, _, rfl, rfl, s6 _ _ LA.lst, (by rw [List.length_map, LA.len]; exact Nat.lt_of_le_of_lt few (by decide)), ?_⟩
              obtain ⟨aok, anum⟩ := rowAct_ok ok
              have hAct : ActAt CA H6 (x, pa, wa) (rowAct wd l) := ⟨⟨dxx, h61⟩, s46 _ _ (s4 _ _ (s3 _ _ hpa2)), by rw [anum]; exact s46 _ _ (s4 _ _ (s3 _ _ hwa2))⟩
              have hxH : H x = none := s5.free hx
              have LA6 := LA.same s6
              have old : ∀ q j u, at2 as q j = some u → u.1 ≠ x := fun q j u hu => by
                obtain ⟨_, _, _, _, ⟨⟨d, h1⟩, _⟩, _⟩ := B.get hu
                exact ne_of_none h1 hxH
              have hpas : p < as.length := by rw [B.na]; exact hp
              have snoc_cases : ∀ {α : Type} {l : List α} {y z : α} {j : Nat}, (l ++ [y])[j]? = some z → (j < l.length ∧ l[j]? = some z) ∨ (j = l.length ∧ y = z) := fun {α l y z j} h => by
                by_cases cj : j < l.length
                · rw [List.getElem?_append_left cj] at h
                  exact .inl ⟨cj, h⟩
                · rw [List.getElem?_append_right (by omega)] at h
                  have e0 : j - l.length = 0 := by
                    have := (List.getElem?_eq_some_iff.mp h).1
                    simpa using this
                  rw [e0] at h
                  exact .inr ⟨by omega, by simpa using h⟩
              have B6 := (B.same s6).store (ts := as.getD p [] ++ [(x, pa, wa)]) (xs := actsAt wd p ++ [rowAct wd l]) hlp (by rw [List.length_append, List.length_append, LA.len]; rfl) (by rw [List.length_append]; show _ + 1 ≤ 3; omega)
                (fun y hy => by
                  rcases List.mem_append.mp hy with h | h
                  · exact B.wf.act hp h
                  · rw [List.mem_singleton.mp h]; exact aok)
                (fun i t y ht hy => by
                  rcases snoc_cases ht with ⟨a1, a2⟩ | ⟨a1, a2⟩ <;> rcases snoc_cases hy with ⟨b1, b2⟩ | ⟨b1, b2⟩
                  · exact LA6.act i t y a2 b2
                  · have := LA.len; omega
                  · have := LA.len; omega
                  · rw [← a2, ← b2]; exact hAct)
                (fun i j t u ht hu e => by
                  rcases snoc_cases ht with ⟨a1, a2⟩ | ⟨a1, a2⟩ <;> rcases snoc_cases hu with ⟨b1, b2⟩ | ⟨b1, b2⟩
                  · exact (B.inj p i p j t u a2 b2 e).2
                  · rw [← b2] at e; exact absurd e (old p i t a2)
                  · rw [← a2] at e; exact absurd e.symm (old p j u b2)
                  · omega)
                (fun i t q j u ht hq hu e => by
                  rcases snoc_cases ht with ⟨a1, a2⟩ | ⟨a1, a2⟩
                  · exact hq (B.inj p i q j t u a2 hu e).1.symm
                  · rw [← a2] at e; exact old q j u hu e.symm)
              have em : ((as.getD p []).map fun t => V.ref t.1) ++ [V.ref x] = (as.getD p [] ++ [(x, pa, wa)]).map fun t => V.ref t.1 := by
                rw [List.map_append]
                rfl
              rw [em]
              refine ⟨_, rfl, (by show 1 ≤ sizeLine; decide), fun r hr0 => ?_⟩
              have hrl : r ≠ lp := fun e => by
                rw [e, upd_same] at hr0
                cases hr0
              have hr6 : H6 r = none := by
                rw [upd_ne hrl] at hr0
                exact hr0
              refine k _ r L ls (as.set p (as.getD p [] ++ [(x, pa, wa)])) ?_ ?_ (s6.free hr6) ?_
              · rw [stp']
                exact B6.same (same_new hr0)
              · refine Frame.then ⟨fun c o e n => ?_, fun c hc => ?_⟩ (same_new hr0)
                · rw [upd_ne (fun q => n (by rw [q]; exact .inr (.inr (.inl (List.mem_of_getElem? hlp)))))]
                  exact s6 _ _ e
                · rcases hc with h | h | h | ⟨q, i, u, hu, h⟩
                  · exact .inl (.inl h)
                  · exact .inl (.inr (.inl h))
                  · exact .inl (.inr (.inr (.inl h)))
                  · rw [at2_set hpas] at hu
                    by_cases cq : q = p
                    · rw [if_pos cq] at hu
                      rcases snoc_cases hu with ⟨a1, a2⟩ | ⟨a1, a2⟩
                      · exact .inl (.inr (.inr (.inr ⟨p, i, u, a2, h⟩)))
                      · rw [← a2] at h
                        right
                        rcases h with h | h | h
                        · rw [h]; exact hxH
                        · rw [h]; exact hpaH
                        · rw [h]; exact hwaH
                    · rw [if_neg cq] at hu
                      exact .inl (.inr (.inr (.inr ⟨q, i, u, hu, h⟩)))
              · rw [stp']
                exact upd_same
      · refine ifT (by rw [List.length_map]; simp; omega) ?_
        refine ifT rfl ?_
        refine ⟨(by show 1 ≤ sizeLine; decide), fun r hr0 => bad H2 s2 ?_ r hr0⟩
        unfold rowOk
        rw [decide_eq_false cl, Bool.false_and]
    · refine ifT (by rw [dec_nat, decide_eq_false hp]; rfl) ?_
      refine ⟨(by show 1 ≤ sizeLine; decide), fun r hr0 => k.no B ?_ (Same.refl _) hr0⟩
      rw [stp, decide_eq_false hp, if_pos rfl]
end
end Sel

set_option maxRecDepth 100000
set_option maxHeartbeats 2000000
namespace Sel
open PySem PySem.Spec PyProof.Rows L2
open Kp379 (actsAt actAt Stand stands setActs setAct)
section
variable {P : Program} {w : PySem.World} {K : PySem.W.Frag} {mg : Str → Option Value} {base : Heap} {CB CA CO CC : Addr}
theorem StAt.b {H : Hp} {b : Addr} {st : Kp379.State} {L : Addr} {ls : List Addr} {as : List (List Trip)} (h : StAt CB CA H b st L ls as) : ∃ n v : Int, Bd CB H b n v L := by
  cases st with
  | none => exact ⟨0, 0, h.1⟩
  | some wd => exact ⟨_, _, h.bd⟩
theorem StAt.same {H H' : Hp} {b : Addr} {st : Kp379.State} {L : Addr} {ls : List Addr} {as : List (List Trip)} (s : Same H H') (h : StAt CB CA H b st L ls as) : StAt CB CA H' b st L ls as := by
  cases st with
  | none =>
    obtain ⟨⟨dx, h1⟩, h2, h3⟩ := h
    exact ⟨⟨dx, s _ _ h1⟩, s _ _ h2, h3⟩
  | some wd => exact BoardAt.same s h
/-- a refusal: the state stays, one number is told -/
theorem Said.no' {st : Kp379.State} {H H' : Hp} {b : Addr} {L : Addr} {ls : List Addr} {as : List (List Trip)} {c : Kp379.Call} {z : Int} {Q : VK} {r : Addr} (h : Said CB CA b st c L ls as H Q) (B : StAt CB CA H b st L ls as) (e : Kp379.step st c = (st, Kp379.say z)) (s : Same H H') (hr : H' r = none) : Q (.ref r) (upd H' r (.lst [V.int z])) := by
  refine h _ r L ls as ?_ (Frame.same (s.trans (same_new hr)) _) (s.free hr) ?_
  · rw [e]
    exact B.same (s.trans (same_new hr))
  · rw [e]
    exact upd_same
def spBegin (CB CA : Addr) : Sp := fun vs H Q _ => ∃ (b : Addr) (st : Kp379.State) (L : Addr) (ls : List Addr) (as : List (List Trip)) (n v : Nat), vs = [.ref b, .int (n : Int), .int (v : Int)] ∧ StAt CB CA H b st L ls as ∧ Said CB CA b st (.begin_ n v) L ls as H Q
theorem new_wf {n v : Nat} (h : ¬ (n < 2 ∨ 4 < n ∨ v < 1 ∨ 3 < v)) : Wf ⟨n, v, List.replicate n []⟩ := by
  refine ⟨?_, ?_, ?_, ?_, List.length_replicate, fun l hl => ?_, fun l hl a ha => ?_⟩
  · show 2 ≤ n; omega
  · show n ≤ 4; omega
  · show 1 ≤ v; omega
  · show v ≤ 3; omega
  · rw [(List.mem_replicate.mp hl).2]
    exact Nat.zero_le _
  · rw [(List.mem_replicate.mp hl).2] at ha
    cases ha
theorem actsAt_new (n v p : Nat) : actsAt ⟨n, v, List.replicate n []⟩ p = [] := by
  unfold actsAt
  simp only [List.getD_eq_getElem?_getD, List.getElem?_replicate]
  split <;> rfl
theorem chain_and {a b : Bool} : (if a = true then b else false) = (a && b) := by cases a <;> rfl
theorem ok_answer_begin {f : Addr} {fd : FuncData} (F : Fun K "answer_begin" "answer_begin" s_answer_begin f fd) (T : Txt K CB CA CO CC) (hrange : mg "range" = none) (hO : IntC mg "OUT_OF_RANGE" (-22)) :
    FnOk P w K mg base CX0 1 f fd ["board", "places", "selves"] (spBegin CB CA) := by
  refine F.ok sc_answer_begin (fun vs H Q E h => ?_) (fun cdv A outer s H vs Q E hr h => ?_)
  · obtain ⟨b, st, L, ls, as, n, v, rfl, _⟩ := h
    rfl
  · obtain ⟨b, st, L, ls, as, n, v, rfl, B, k⟩ := h
    have nd := sc_answer_begin.nd
    refine ⟨_, pss_cons (ps_if (PW.pt (pw_or (pt_not (pt_chain op_le op_le pe_int (pv 1) pe_int)) (pw_or1 (pt_not (pt_chain op_le op_le pe_int (pv 2) pe_int))))) (pss_one (ps_ret (pe_lst (pa_cons (pe_intC hO) pa_nil)))) pss_nil)
      (pss_cons (ps_fld (pv 0) (pv 1) rfl)
      (pss_cons (ps_fld (pv 0) (pv 2) rfl)
      (pss_cons (ps_fld (pv 0) (pe_lc (own := [("place", 3)]) (g := gName 3) (tt := tYes) rfl nd (pi_range1 rfl hrange (pa_cons (pv 1) pa_nil))
        (blkOk_by (N := n_answer_begin) (sc := defScope s_answer_begin) (by decide +kernel)) (fun _ _ _ _ _ => pg_name (i := 3) nd rfl (Or.inl rfl)) (fun _ _ _ _ _ => pts_nil) (fun _ _ _ _ _ => pe_lst pa_nil)) rfl)
      (pss_one (ps_ret (pe_lst (pa_cons pe_int pa_nil))))))), ?_⟩
    have stp : Kp379.step st (.begin_ n v) = if n < 2 ∨ 4 < n ∨ v < 1 ∨ 3 < v then (st, Kp379.say (-22)) else (some ⟨n, v, List.replicate n []⟩, Kp379.say 0) := rfl
    obtain ⟨n0, v0, dx, hb⟩ := B.b
    have bad : (n < 2 ∨ 4 < n ∨ v < 1 ∨ 3 < v) → ∀ r, H r = none → Q (.ref r) (upd H r (.lst [V.int (-22)])) := fun c r hr0 => k.no' B (by rw [stp, if_pos c]) (Same.refl _) hr0
    refine ⟨_, rfl, _, _, rfl, rfl, _, rfl, ?_⟩
    by_cases c1 : 2 ≤ n
    · refine ifT (decide_eq_true (show (2 : Int) ≤ (n : Int) by omega)) ?_
      refine ⟨_, _, rfl, rfl, _, rfl, ?_⟩
      by_cases c2 : n ≤ 4
      · refine ifF (by rw [decide_eq_true (show (n : Int) ≤ 4 by omega)]; rfl) ?_
        refine ⟨_, rfl, _, _, rfl, rfl, _, rfl, ?_⟩
        by_cases c3 : 1 ≤ v
        · refine ifT (decide_eq_true (show (1 : Int) ≤ (v : Int) by omega)) ?_
          refine ⟨_, _, rfl, rfl, _, rfl, ?_⟩
          by_cases c4 : v ≤ 3
          · refine ifF (by rw [decide_eq_true (show (v : Int) ≤ 3 by omega)]; rfl) ?_
            have c : ¬ (n < 2 ∨ 4 < n ∨ v < 1 ∨ 3 < v) := by omega
            -- it begins
            refine ⟨_, rfl, _, rfl, b, CB, dx, _, rfl, hb, T.clB, T.nPlaces, (by show 3 < 1000; decide), ?_⟩
            rw [bF_putP]
            refine ⟨_, rfl, _, rfl, b, CB, dx, _, rfl, upd_same, T.clB, T.nSelves, (by show 3 < 1000; decide), ?_⟩
            rw [bF_putS, upd_upd]
            refine ⟨_, rfl, (n : Int), rfl, by omega, by omega, fun D hD => ?_⟩
            have hDb : D ≠ b := fun e => by
              rw [e, upd_same] at hD
              cases hD
            have hDH : H D = none := by
              rw [upd_ne hDb] at hD
              exact hD
            refine lc_range (H1 := upd H b (.ins CB dx (bF (n : Int) (v : Int) L))) (lo := 0) (n := ((n : Int) - 0).toNat) (fun i H' => ∃ ns : List Addr, H' D = some (.lst (ns.map V.ref)) ∧ ns.length = i ∧ ns.Nodup ∧ D ∉ ns ∧ (∀ l ∈ ns, H' l = some (.lst []) ∧ H l = none) ∧ H' b = some (.ins CB dx (bF (n : Int) (v : Int) L)) ∧ ∀ c o, c ≠ b → H c = some o → H' c = some o)
              ⟨[], upd_same, rfl, List.nodup_nil, by simp, by simp, by rw [upd_ne (fun e => hDb e.symm)]; exact upd_same, fun c o hc e => by rw [upd_ne (ne_of_none e hDH), upd_ne hc]; exact e⟩ ?_ ?_
            · rintro i H' hi ⟨ns, h1, h2, h3, h4, h5, h6, h7⟩
              refine ⟨rfl, yesT ?_⟩
              refine ⟨Nat.zero_le _, fun l hl => ?_⟩
              have nlD : D ≠ l := ne_of_none h1 hl
              have nlb : b ≠ l := ne_of_none h6 hl
              have hlH : H l = none := by
                cases e : H l with
                | none => rfl
                | some o =>
                  rw [h7 l o (fun q => nlb q.symm) e] at hl
                  cases hl
              refine ⟨_, by rw [upd_ne nlD]; exact h1, (by rw [List.length_map, h2]; exact Nat.lt_of_lt_of_le (show i < 4 by omega) (by decide)), ns ++ [l], ?_, ?_, ?_, ?_, ?_, ?_, ?_⟩
              · rw [upd_same, List.map_append]
                rfl
              · rw [List.length_append, h2]
                rfl
              · refine List.nodup_append.mpr ⟨h3, by simp, fun a ha c hc => ?_⟩
                rw [List.mem_singleton.mp hc]
                exact ne_of_none (h5 a ha).1 hl
              · intro hm
                rcases List.mem_append.mp hm with h | h
                · exact h4 h
                · exact nlD (List.mem_singleton.mp h)
              · intro a ha
                have naD : a ≠ D := fun e => by
                  rcases List.mem_append.mp ha with h | h
                  · rw [e] at h; exact h4 h
                  · exact nlD (e.symm.trans (List.mem_singleton.mp h))
                rcases List.mem_append.mp ha with h | h
                · refine ⟨?_, (h5 a h).2⟩
                  rw [upd_ne naD, upd_ne (ne_of_none (h5 a h).1 hl)]
                  exact (h5 a h).1
                · rw [List.mem_singleton.mp h]
                  exact ⟨by rw [upd_ne (fun e => nlD e.symm)]; exact upd_same, hlH⟩
              · rw [upd_ne (fun e => hDb e.symm), upd_ne nlb]
                exact h6
              · intro c o hc e
                rw [upd_ne (ne_of_none e hDH), upd_ne (ne_of_none e hlH)]
                exact h7 c o hc e
            · rintro H' ⟨ns, h1, h2, h3, h4, h5, h6, h7⟩
              refine ⟨_, rfl, b, CB, dx, _, rfl, h6, T.clB, T.nActs, (by show 3 < 1000; decide), ?_⟩
              rw [bF_putA]
              refine ⟨(by show 1 ≤ sizeLine; decide), fun r hr0 => ?_⟩
              have en : ns.length = n := by omega
              rw [if_neg c] at stp
              have hrb : r ≠ b := fun e => by
                rw [e, upd_same] at hr0
                cases hr0
              have hr1 : H' r = none := by
                rw [upd_ne hrb] at hr0
                exact hr0
              have hrH : H r = none := by
                cases e : H r with
                | none => rfl
                | some o =>
                  rw [h7 r o hrb e] at hr1
                  cases hr1
              have ne5 : ∀ l ∈ ns, l ≠ b := fun l hl => ne_of (h5 l hl).1 h6 (by intro z; cases z)
              have B2 : BoardAt CB CA (upd H' b (.ins CB dx (bF (n : Int) (v : Int) D))) b ⟨n, v, List.replicate n []⟩ D ns (List.replicate n []) := by
                refine ⟨⟨dx, upd_same⟩, by rw [upd_ne hDb]; exact h1, en, List.length_replicate, fun p l hl => ?_, h3, h4, fun p i q j t u ht _ _ => ?_, new_wf c⟩
                · have hm := List.mem_of_getElem? hl
                  have e0 : (List.replicate n ([] : List Trip)).getD p [] = [] := by
                    simp only [List.getD_eq_getElem?_getD, List.getElem?_replicate]
                    split <;> rfl
                  rw [e0, actsAt_new]
                  exact ⟨by rw [upd_ne (ne5 l hm)]; exact (h5 l hm).1, rfl, fun i t x a _ => by simp at a⟩
                · unfold at2 at ht
                  have e0 : (List.replicate n ([] : List Trip)).getD p [] = [] := by
                    simp only [List.getD_eq_getElem?_getD, List.getElem?_replicate]
                    split <;> rfl
                  rw [e0] at ht
                  simp at ht
              refine k _ r D ns (List.replicate n []) ?_ ?_ hrH ?_
              · rw [stp]
                exact B2.same (same_new hr0)
              · refine Frame.then ⟨fun c o e n => ?_, fun c hc => ?_⟩ (same_new hr0)
                · have hcb : c ≠ b := fun q => n (.inl q)
                  rw [upd_ne hcb]
                  exact h7 c o hcb e
                · rcases hc with h | h | h | ⟨q, i, u, hu, h⟩
                  · exact .inl (.inl h)
                  · rw [h]; exact .inr hDH
                  · exact .inr (h5 c h).2
                  · unfold at2 at hu
                    have e0 : (List.replicate n ([] : List Trip)).getD q [] = [] := by
                      simp only [List.getD_eq_getElem?_getD, List.getElem?_replicate]
                      split <;> rfl
                    rw [e0] at hu
                    simp at hu
              · rw [stp]
                exact upd_same
          · refine ifT (by rw [decide_eq_false (show ¬ (v : Int) ≤ 3 by omega)]; rfl) ?_
            exact ⟨(by show 1 ≤ sizeLine; decide), fun r hr0 => bad (by omega) r hr0⟩
        · refine ifF (decide_eq_false (show ¬ (1 : Int) ≤ (v : Int) by omega)) ?_
          refine ⟨_, rfl, ifT rfl ?_⟩
          exact ⟨(by show 1 ≤ sizeLine; decide), fun r hr0 => bad (by omega) r hr0⟩
      · refine ifT (by rw [decide_eq_false (show ¬ (n : Int) ≤ 4 by omega)]; rfl) ?_
        refine ifT rfl ?_
        exact ⟨(by show 1 ≤ sizeLine; decide), fun r hr0 => bad (by omega) r hr0⟩
    · refine ifF (decide_eq_false (show ¬ (2 : Int) ≤ (n : Int) by omega)) ?_
      refine ⟨_, rfl, ifT rfl ?_⟩
      refine ifT rfl ?_
      exact ⟨(by show 1 ≤ sizeLine; decide), fun r hr0 => bad (by omega) r hr0⟩
end
end Sel

set_option maxRecDepth 100000
set_option maxHeartbeats 2000000
namespace Sel
open PySem PySem.Spec PyProof.Rows L2
open Kp379 (actsAt actAt Stand stands setActs setAct)
section
variable {P : Program} {w : PySem.World} {K : PySem.W.Frag} {mg : Str → Option Value} {base : Heap} {CB CA CO CC : Addr}
def spAllBests (K : PySem.W.Frag) : Sp := fun vs H Q _ => ∃ (a : Addr) (ns : List Int), vs = [.ref a] ∧ SqL K H a (ns.map V.int) ∧ ns.length ≤ 100 ∧ ∀ (H' : Hp) (r : Addr), Same H H' → H r = none → H' r = some (.lst (nums (allMax ns))) → Q (.ref r) H'
theorem ok_all_bests {f : Addr} {fd : FuncData} (F : Fun K "all_bests" "all_bests" s_all_bests f fd) (hmax : mg "max" = none) (henum : mg "enumerate" = none) : FnOk P w K mg base CX0 1 f fd ["amounts"] (spAllBests K) := by
  refine F.ok sc_all_bests (fun vs H Q E h => ?_) (fun cdv A outer s H vs Q E hr h => ?_)
  · obtain ⟨a, ns, rfl, _⟩ := h
    rfl
  · obtain ⟨a, ns, rfl, hS, hlen, k⟩ := h
    have nd := sc_all_bests.nd
    refine ⟨_, pss_cons (ps_set (i := 1) nd rfl (Or.inr rfl) (pe_callBK (cr_maxD (hu_of hr) rfl) (by rfl) hmax (by decide +kernel) (pa_cons (pv 0) pa_nil) (pk_cons pe_int pk_nil)))
      (pss_one (ps_ret (pe_lc (own := [("number", 2), ("amount", 3)]) (g := gTup K 2 (gCons (gName 2) (gCons (gName 3) gNil))) (tt := tTest (tOp rEq (tVar 3) (tVar 1))) rfl nd (pi_enum (by rfl) henum (pa_cons (pv 0) pa_nil))
        (blkOk_by (N := n_all_bests) (sc := defScope s_all_bests) (by decide +kernel)) (fun _ _ _ _ _ => pg_tup rfl (pgs_cons (pg_name (i := 2) nd rfl (Or.inl rfl)) (pgs_cons (pg_name (i := 3) nd rfl (Or.inl rfl)) pgs_nil)))
        (fun _ _ _ _ _ => pts_one (pt_cmpR op_eq (pv 3) (pv 1) (nomark _))) (fun _ _ _ _ _ => pv 2)))), ?_⟩
    have go : ∀ m : Int, (ns ≠ [] → m = ns.getD (firstMax ns) 0) → tRet (tLc (iEnum K (tCons (tVar 0) tNil)) (gTup K 2 (gCons (gName 2) (gCons (gName 3) gNil))) (tTest (tOp rEq (tVar 3) (tVar 1))) (tVar 2) [2, 3])
        { nx := fun _ H' => Q .non H', rt := Q } [some (.ref a), some (.int m), none, none] H := fun m hm => by
      refine ⟨_, rfl, a, _, rfl, hS, fun D hD => ?_⟩
      refine lc_it (walk_enum (K := K) (a := a) (xs := ns.map V.int)) (fun i H' => Same H H' ∧ H' D = some (.lst (nums ((List.range i).filter fun j => ns.getD j 0 == m)))) ⟨same_new hD, upd_same⟩ (fun i H' _ h => h.1.seq hS) ?_ ?_
      · rintro i y H1 H2 hi ⟨s1, hD1⟩ ⟨tp, a1, b1, rfl, ntp, rfl, ea, eb⟩
        have ea' : V.int (i : Int) = a1 := Option.some.inj ea
        subst ea'
        have hi' : i < ns.length := by simpa using hi
        have eb' : b1 = V.int (ns.getD i 0) := by
          have : (ns.map V.int)[i]? = some (V.int (ns.getD i 0)) := by
            rw [List.getElem?_map, List.getD_eq_getElem?_getD, List.getElem?_eq_getElem hi']
            rfl
          exact Option.some.inj (eb.symm.trans this)
        subst eb'
        have s2 : Same H1 (upd H1 tp (.tup [V.int (i : Int), V.int (ns.getD i 0)])) := same_new ntp
        refine ⟨tp, _, rfl, SqT.of upd_same, rfl, _, _, rfl, _, _, rfl, rfl, rfl, ?_⟩
        refine ⟨_, rfl, _, rfl, rfl, _, rfl, ?_⟩
        by_cases c : ns.getD i 0 = m
        · refine ifT (decide_eq_true (by rw [c])) ?_
          refine ⟨_, rfl, _, s2 _ _ hD1, ?_, ?_, ?_⟩
          · unfold nums
            rw [List.length_map]
            exact Nat.lt_of_le_of_lt (List.length_filter_le _ _) (Nat.lt_of_le_of_lt (by rw [List.length_range]; exact Nat.le_of_lt (Nat.lt_of_lt_of_le hi' hlen)) (by decide))
          · intro z o e
            rw [upd_ne (ne_of_none e hD)]
            exact s2 _ _ (s1 _ _ e)
          · rw [upd_same, List.range_succ, List.filter_append, List.filter_cons, if_pos (by rw [c]; exact beq_self_eq_true _), List.filter_nil]
            unfold nums
            rw [List.map_append]
            rfl
        · refine ifF (decide_eq_false (by intro e; injection e with e; exact c e)) ?_
          refine ⟨s1.trans s2, ?_⟩
          rw [List.range_succ, List.filter_append, List.filter_cons, if_neg (by intro e; exact c (eq_of_beq e)), List.filter_nil, List.append_nil]
          exact s2 _ _ hD1
      · rintro H1 ⟨s1, hD1⟩
        refine k H1 D s1 hD ?_
        rw [hD1, List.length_map]
        have : (List.range ns.length).filter (fun j => ns.getD j 0 == m) = allMax ns := by
          unfold allMax
          cases e : ns with
          | nil => rfl
          | cons z r =>
            simp only
            rw [← e, hm (by rw [e]; simp)]
        rw [this]
    refine ⟨_, rfl, a, ns, _, rfl, rfl, hS, fun hn => go 0 (fun h => absurd hn h), fun m hn hm hle => go m fun _ => ?_⟩
    have fm := firstMax_ok ns hn
    obtain ⟨j, hj⟩ := List.getElem?_of_mem hm
    have h1 := fm.le j m hj
    have h2 := hle _ (List.mem_of_getElem? fm.get)
    omega
/-! ### what is asked of a stand -/
def refuse (wd : Kp379.World) (p s l k least : Nat) : Int := if ¬ p < wd.n ∨ ¬ s < wd.v then -2 else if 1 < l ∨ 4 < k ∨ k < least then -22 else 0
def stN (p s l : Nat) : List V := [.int (p : Int), .int (s : Int), .int (l : Int)]
def spRefuse (CB : Addr) : Sp := fun vs H Q _ => ∃ (b st : Addr) (wd : Kp379.World) (L : Addr) (p s l k least : Nat), vs = [.ref b, .ref st, .int (k : Int), .int (least : Int)] ∧ Bd CB H b wd.n wd.v L ∧ H st = some (.tup (stN p s l)) ∧ Q (.int (refuse wd p s l k least)) H
def spHasStand (CB : Addr) : Sp := fun vs H Q _ => ∃ (b st : Addr) (wd : Kp379.World) (L : Addr) (p s l : Nat), vs = [.ref b, .ref st] ∧ Bd CB H b wd.n wd.v L ∧ H st = some (.tup (stN p s l)) ∧ Q (.bl (decide (p < wd.n) && decide (s < wd.v))) H
theorem stN_at {p s l j : Nat} {y : V} (e : (stN p s l)[j]? = some y) : atI (stN p s l) (j : Int) = some y := at_of (j := j) rfl e
theorem ok_has_stand {f : Addr} {fd : FuncData} (F : Fun K "has_stand" "has_stand" s_has_stand f fd)
    (O1 : Own P w K mg base "has_place" 1 ["board", "place"] (spHasPlace CB)) (O2 : Own P w K mg base "has_self" 1 ["board", "who"] (spHasSelf CB)) : FnOk P w K mg base CX0 2 f fd ["board", "stand"] (spHasStand CB) := by
  refine F.ok sc_has_stand (fun vs H Q E h => ?_) (fun cdv A outer s H vs Q E hr h => ?_)
  · obtain ⟨b, st, wd, L, p, s, l, rfl, _⟩ := h
    rfl
  · obtain ⟨b, st, wd, L, p, s, l, rfl, hb, hst, k⟩ := h
    refine ⟨_, pss_one (ps_ret (pe_and (pe_own O1 hr (pa_cons (pv 0) (pa_cons (pe_ix ix_tup (pv 1) pe_int (fun _ _ => rfl)) pa_nil))) (pe_one (pe_own O2 hr (pa_cons (pv 0) (pa_cons (pe_ix ix_tup (pv 1) pe_int (fun _ _ => rfl)) pa_nil)))))), ?_⟩
    refine ⟨_, rfl, _, rfl, st, _, _, _, rfl, rfl, SqT.of hst, stN_at (j := 0) rfl, b, _, _, _, (p : Int), rfl, hb, _, rfl, ?_⟩
    rw [dec_nat]
    by_cases hp : p < wd.n
    · rw [decide_eq_true hp, Bool.true_and] at k
      refine ifT (decide_eq_true hp) ?_
      refine ⟨_, rfl, _, rfl, st, _, _, _, rfl, rfl, SqT.of hst, stN_at (j := 1) rfl, b, _, _, _, (s : Int), rfl, hb, ?_⟩
      rw [dec_nat]
      exact k
    · rw [decide_eq_false hp, Bool.false_and] at k
      exact ifF (decide_eq_false hp) k
def spSteps : Sp := fun vs H Q _ => ∃ k least : Nat, vs = [.int (k : Int), .int (least : Int)] ∧ Q (.bl (decide (least ≤ k) && decide (k ≤ 4))) H
theorem ok_are_steps {f : Addr} {fd : FuncData} (F : Fun K "are_steps" "are_steps" s_are_steps f fd) (hM : IntC mg "MOST_STEPS" 4) : FnOk P w K mg base CX0 1 f fd ["steps", "least_steps"] spSteps := by
  refine F.ok sc_are_steps (fun vs H Q E h => ?_) (fun cdv A outer s H vs Q E hr h => ?_)
  · obtain ⟨k, least, rfl, _⟩ := h
    rfl
  · obtain ⟨n, least, rfl, k⟩ := h
    refine ⟨_, pss_one (ps_ret (pe_chain op_le op_le (pv 1) (pv 0) (pe_intC hM))), ?_⟩
    refine ⟨_, rfl, _, rfl, _, _, rfl, rfl, _, rfl, ?_⟩
    by_cases h1 : least ≤ n
    · rw [decide_eq_true h1, Bool.true_and] at k
      refine ifT (decide_eq_true (show (least : Int) ≤ (n : Int) by omega)) ?_
      refine ⟨_, _, rfl, rfl, ?_⟩
      have e : decide ((n : Int) ≤ 4) = decide (n ≤ 4) := by
        by_cases c : n ≤ 4
        · rw [decide_eq_true c, decide_eq_true (by omega)]
        · rw [decide_eq_false c, decide_eq_false (by omega)]
      show Q (.bl (decide ((n : Int) ≤ 4))) H
      rw [e]
      exact k
    · rw [decide_eq_false h1, Bool.false_and] at k
      exact ifF (decide_eq_false (show ¬ (least : Int) ≤ (n : Int) by omega)) k
theorem ok_refusal_of_stand {f : Addr} {fd : FuncData} (F : Fun K "refusal_of_stand" "refusal_of_stand" s_refusal_of_stand f fd) (hN : IntC mg "NO_SUCH" (-2)) (hO : IntC mg "OUT_OF_RANGE" (-22))
    (O1 : Own P w K mg base "has_stand" 2 ["board", "stand"] (spHasStand CB)) (O2 : Own P w K mg base "are_steps" 1 ["steps", "least_steps"] spSteps) : FnOk P w K mg base CX0 3 f fd ["board", "stand", "steps", "least_steps"] (spRefuse CB) := by
  refine F.ok sc_refusal_of_stand (fun vs H Q E h => ?_) (fun cdv A outer s H vs Q E hr h => ?_)
  · obtain ⟨b, st, wd, L, p, s, l, k, least, rfl, _⟩ := h
    rfl
  · obtain ⟨b, st, wd, L, p, s, l, n, least, rfl, hb, hst, k⟩ := h
    refine ⟨_, pss_cons (ps_if (pt_not (pt_val (pe_own O1 hr (pa_cons (pv 0) (pa_cons (pv 1) pa_nil))))) (pss_one (ps_ret (pe_intC hN))) pss_nil)
      (pss_cons (ps_if (PW.pt (pw_or (pt_cmpR op_gt (pe_ix ix_tup (pv 1) pe_int (fun _ _ => rfl)) pe_int (nomark _)) (pw_or1 (pt_not (pt_val (pe_own O2 (hr.mono (by decide)) (pa_cons (pv 2) (pa_cons (pv 3) pa_nil)))))))) (pss_one (ps_ret (pe_intC hO))) pss_nil)
      (pss_one (ps_ret pe_int))), ?_⟩
    unfold refuse at k
    refine ⟨_, rfl, _, rfl, b, st, wd, L, p, s, l, rfl, hb, hst, _, rfl, ?_⟩
    by_cases hp : p < wd.n ∧ s < wd.v
    · refine ifF (by rw [decide_eq_true hp.1, decide_eq_true hp.2]; rfl) ?_
      rw [if_neg (by omega)] at k
      refine ⟨_, rfl, st, _, _, _, rfl, rfl, SqT.of hst, stN_at (j := 2) rfl, _, _, rfl, rfl, _, rfl, ?_⟩
      by_cases hl : 1 < l
      · refine ifT (decide_eq_true (show (l : Int) > 1 by omega)) ?_
        refine ifT rfl ?_
        rw [if_pos (.inl hl)] at k
        exact k
      · refine ifF (decide_eq_false (show ¬ (l : Int) > 1 by omega)) ?_
        refine ⟨_, rfl, _, rfl, n, least, rfl, _, rfl, ?_⟩
        by_cases h1 : least ≤ n ∧ n ≤ 4
        · refine ifF (by rw [decide_eq_true h1.1, decide_eq_true h1.2]; rfl) ?_
          rw [if_neg (by omega)] at k
          exact k
        · refine ifT ?_ ?_
          · by_cases h2 : least ≤ n
            · rw [decide_eq_true h2, decide_eq_false (fun h => h1 ⟨h2, h⟩)]; rfl
            · rw [decide_eq_false h2]; rfl
          · rw [if_pos (by omega)] at k
            exact k
    · refine ifT ?_ ?_
      · by_cases h2 : p < wd.n
        · rw [decide_eq_true h2, decide_eq_false (fun h => hp ⟨h2, h⟩)]; rfl
        · rw [decide_eq_false h2]; rfl
      · rw [if_pos (by omega)] at k
        exact k
/-! ### what is asked of a self -/
def refuseS (wd : Kp379.World) (s k least : Nat) : Int := if ¬ s < wd.v then -2 else if 4 < k ∨ k < least then -22 else 0
def spRefuseS (CB : Addr) : Sp := fun vs H Q _ => ∃ (b : Addr) (wd : Kp379.World) (L : Addr) (s k least : Nat), vs = [.ref b, .int (s : Int), .int (k : Int), .int (least : Int)] ∧ Bd CB H b wd.n wd.v L ∧ Q (.int (refuseS wd s k least)) H
theorem ok_refusal_of_self {f : Addr} {fd : FuncData} (F : Fun K "refusal_of_self" "refusal_of_self" s_refusal_of_self f fd) (hN : IntC mg "NO_SUCH" (-2)) (hO : IntC mg "OUT_OF_RANGE" (-22))
    (O1 : Own P w K mg base "has_self" 1 ["board", "who"] (spHasSelf CB)) (O2 : Own P w K mg base "are_steps" 1 ["steps", "least_steps"] spSteps) : FnOk P w K mg base CX0 2 f fd ["board", "who", "steps", "least_steps"] (spRefuseS CB) := by
  refine F.ok sc_refusal_of_self (fun vs H Q E h => ?_) (fun cdv A outer s H vs Q E hr h => ?_)
  · obtain ⟨b, wd, L, s, k, least, rfl, _⟩ := h
    rfl
  · obtain ⟨b, wd, L, s, n, least, rfl, hb, k⟩ := h
    refine ⟨_, pss_cons (ps_if (pt_not (pt_val (pe_own O1 hr (pa_cons (pv 0) (pa_cons (pv 1) pa_nil))))) (pss_one (ps_ret (pe_intC hN))) pss_nil)
      (pss_cons (ps_if (pt_not (pt_val (pe_own O2 hr (pa_cons (pv 2) (pa_cons (pv 3) pa_nil))))) (pss_one (ps_ret (pe_intC hO))) pss_nil)
      (pss_one (ps_ret pe_int))), ?_⟩
    unfold refuseS at k
    refine ⟨_, rfl, _, rfl, b, _, _, L, (s : Int), rfl, hb, _, rfl, ?_⟩
    by_cases hs : s < wd.v
    · refine ifF (by rw [dec_nat, decide_eq_true hs]; rfl) ?_
      rw [if_neg (by omega)] at k
      refine ⟨_, rfl, _, rfl, n, least, rfl, _, rfl, ?_⟩
      by_cases h1 : least ≤ n ∧ n ≤ 4
      · refine ifF (by rw [decide_eq_true h1.1, decide_eq_true h1.2]; rfl) ?_
        rw [if_neg (by omega)] at k
        exact k
      · refine ifT ?_ ?_
        · by_cases h2 : least ≤ n
          · rw [decide_eq_true h2, decide_eq_false (fun h => h1 ⟨h2, h⟩)]; rfl
          · rw [decide_eq_false h2]; rfl
        · rw [if_pos (by omega)] at k
          exact k
    · refine ifT (by rw [dec_nat, decide_eq_false hs]; rfl) ?_
      rw [if_pos hs] at k
      exact k
end
end Sel

set_option maxRecDepth 100000
set_option maxHeartbeats 2000000
namespace Sel
open PySem PySem.Spec PyProof.Rows L2
open Kp379 (actsAt actAt Stand stands setActs setAct ofStand)
theorem refuse_cases (wd : Kp379.World) (p s l k least : Nat) (st : Kp379.State) (f : Stand → Kp379.Ans) :
    (refuse wd p s l k least < 0 ∧ ofStand st wd p s l k least f = (st, Kp379.say (refuse wd p s l k least))) ∨
    (refuse wd p s l k least = 0 ∧ p < wd.n ∧ s < wd.v ∧ l ≤ 1 ∧ k ≤ 4 ∧ least ≤ k ∧ ofStand st wd p s l k least f = (st, f ⟨p, s, l == 1⟩)) := by
  have e : ofStand st wd p s l k least f = (st, if Kp379.isPlace wd p = false ∨ Kp379.isSelf wd s = false then Kp379.say (-2) else if 1 < l ∨ 4 < k ∨ k < least then Kp379.say (-22) else f ⟨p, s, l == 1⟩) := rfl
  unfold Kp379.isPlace Kp379.isSelf at e
  simp only [decide_eq_false_iff_not] at e
  rw [e]
  unfold refuse
  by_cases c1 : ¬ p < wd.n ∨ ¬ s < wd.v
  · rw [if_pos c1, if_pos c1]
    exact .inl ⟨by decide, rfl⟩
  · rw [if_neg c1, if_neg c1]
    by_cases c2 : 1 < l ∨ 4 < k ∨ k < least
    · rw [if_pos c2, if_pos c2]
      exact .inl ⟨by decide, rfl⟩
    · rw [if_neg c2, if_neg c2]
      exact .inr ⟨rfl, by omega, by omega, by omega, by omega, by omega, rfl⟩
theorem stN_stV (p s : Nat) {l : Nat} (h : l ≤ 1) : stN p s l = stV p s (l == 1) := by
  have : l = 0 ∨ l = 1 := by omega
  rcases this with rfl | rfl <;> rfl
section
variable {P : Program} {w : PySem.World} {K : PySem.W.Frag} {mg : Str → Option Value} {base : Heap} {CB CA CO CC : Addr}
def spQ (CB CA : Addr) (mk : Nat → Nat → Nat → Nat → Kp379.Call) : Sp := fun vs H Q _ => ∃ (b st : Addr) (wd : Kp379.World) (L : Addr) (ls : List Addr) (as : List (List Trip)) (p s l k : Nat), vs = [.ref b, .ref st, .int (k : Int)] ∧ H st = some (.tup (stN p s l)) ∧
  BoardAt CB CA H b wd L ls as ∧ Said CB CA b (some wd) (mk p s l k) L ls as H Q
theorem ok_answer_does {f : Addr} {fd : FuncData} (F : Fun K "answer_does" "answer_does" s_answer_does f fd) (T : Txt K CB CA CO CC) (hlen : mg "len" = none) (hA : IntC mg "NO_ACTS" (-33))
    (O1 : Own P w K mg base "refusal_of_stand" 3 ["board", "stand", "steps", "least_steps"] (spRefuse CB)) (O2 : Own P w K mg base "first_best" 1 ["amounts"] (spFirst K)) (O3 : Own P w K mg base "brought_for_itself" 4 ["board", "stand", "later"] (spForItself CB CA CO))
    (O4 : Own P w K mg base "outlook_with" 9 ["board", "steps"] (spOutlook CB CA CO)) : FnOk P w K mg base CX0 10 f fd ["board", "stand", "steps"] (spQ CB CA .does) := by
  refine F.ok sc_answer_does (fun vs H Q E h => ?_) (fun cdv A outer s H vs Q E hr h => ?_)
  · obtain ⟨b, st, wd, L, ls, as, p, s, l, k, rfl, _⟩ := h
    rfl
  · obtain ⟨b, st, wd, L, ls, as, p, s, l, n, rfl, hst, B, k⟩ := h
    have nd := sc_answer_does.nd
    refine ⟨_, pss_cons (ps_set (i := 3) nd rfl (Or.inl rfl) (pe_own O1 (hr.mono (by decide)) (pa_cons (pv 0) (pa_cons (pv 1) (pa_cons (pv 2) (pa_cons pe_int pa_nil))))))
      (pss_cons (ps_if (pt_cmpR op_lt (pv 3) pe_int (nomark _)) (pss_one (ps_ret (pe_lst (pa_cons (pv 3) pa_nil)))) pss_nil)
      (pss_cons (ps_if (pt_cmpR op_eq (pe_callB call_len_seq (by rfl) hlen PySem.boot_len (pa_cons (pe_ix ix_list (pe_fld (pv 0) rfl) (pe_ix ix_tup (pv 1) pe_int (fun _ _ => rfl)) (fun _ _ => rfl)) pa_nil)) pe_int (nomark _)) (pss_one (ps_ret (pe_lst (pa_cons (pe_intC hA) pa_nil)))) pss_nil)
      (pss_one (ps_ret (pe_lst (pa_cons (pe_own O2 (hr.mono (by decide)) (pa_cons (pe_own O3 (hr.mono (by decide)) (pa_cons (pv 0) (pa_cons (pv 1) (pa_cons (pe_own O4 hr (pa_cons (pv 0) (pa_cons (pe_op op_sub (pv 2) pe_int) pa_nil))) pa_nil)))) pa_nil)) pa_nil)))))), ?_⟩
    refine ⟨_, rfl, _, rfl, _, rfl, b, st, wd, L, p, s, l, n, 1, rfl, B.b, hst, ?_⟩
    refine ⟨_, rfl, _, _, rfl, rfl, _, rfl, ?_⟩
    have stp : Kp379.step (some wd) (.does p s l n) = ofStand (some wd) wd p s l n 1 (fun x => match Kp379.does wd x n with
        | none => Kp379.say (-33)
        | some a => Kp379.say (a : Nat)) := rfl
    obtain ⟨dx, hb⟩ := B.bd
    rcases refuse_cases wd p s l n 1 (some wd) (fun x => match Kp379.does wd x n with
        | none => Kp379.say (-33)
        | some a => Kp379.say (a : Nat)) with ⟨c, e⟩ | ⟨c, hp, hs, hl, h4, h1, e⟩
    · refine ifT (decide_eq_true c) ?_
      exact ⟨_, rfl, (by show 1 ≤ sizeLine; decide), fun r hr0 => k.no B (stp.trans e) (Same.refl _) hr0⟩
    · rw [c]
      refine ifF rfl ?_
      obtain ⟨lp, hlp, LA⟩ := B.place hp
      rw [stN_stV p s hl] at hst
      refine ⟨_, rfl, b, CB, dx, _, _, rfl, hb, T.clB, T.nActs, bF_acts _ _ _, _, rfl, st, _, _, _, rfl, rfl, SqT.of hst, at_of (j := 0) (v := V.int (p : Int)) rfl rfl, L, _, _, _, rfl, rfl, SqL.of B.ll, at_of (j := p) (v := V.ref lp) rfl (by rw [List.getElem?_map, hlp]; rfl), lp, _, rfl, .inl (SqL.of LA.lst), rfl, _, rfl, ?_⟩
      rw [List.length_map, LA.len]
      obtain ⟨n', rfl⟩ : ∃ n', n = n' + 1 := ⟨n - 1, by omega⟩
      by_cases ca : actsAt wd p = []
      · refine ifT (by rw [ca]; rfl) ?_
        refine ⟨(by show 1 ≤ sizeLine; decide), fun r hr0 => k.no B ?_ (Same.refl _) hr0⟩
        rw [stp, e]
        simp only [does_none hp hs ca]
      · refine ifF (decide_eq_false (by intro z; injection z with z; have := List.length_pos_iff.mpr ca; omega)) ?_
        refine ⟨_, rfl, _, rfl, _, rfl, _, rfl, _, _, rfl, rfl, b, wd, L, ls, as, n', (by show _ = [V.ref b, V.int (n' : Int)]; simp), B, by omega, fun H1 o s1 HO => ?_⟩
        refine ⟨b, st, o, wd, L, ls, as, p, s, l == 1, _, _, rfl, B.same s1, s1 _ _ hst, hp, hs, HO, fun H2 r s2 hr0 hr2 => ?_⟩
        refine ⟨r, _, rfl, SqL.of hr2, amounts_ne ca, (by show 1 ≤ sizeLine; decide), fun r2 hr3 => k.no B ?_ (s1.trans s2) hr3⟩
        rw [stp, e]
        simp only [does_some B.wf hp hs ca]
theorem ok_answer_bests {f : Addr} {fd : FuncData} (F : Fun K "answer_bests" "answer_bests" s_answer_bests f fd) (hlen : mg "len" = none)
    (O1 : Own P w K mg base "refusal_of_stand" 3 ["board", "stand", "steps", "least_steps"] (spRefuse CB)) (O2 : Own P w K mg base "all_bests" 1 ["amounts"] (spAllBests K)) (O3 : Own P w K mg base "brought_for_itself" 4 ["board", "stand", "later"] (spForItself CB CA CO))
    (O4 : Own P w K mg base "outlook_with" 9 ["board", "steps"] (spOutlook CB CA CO)) : FnOk P w K mg base CX0 10 f fd ["board", "stand", "steps"] (spQ CB CA .bests) := by
  refine F.ok sc_answer_bests (fun vs H Q E h => ?_) (fun cdv A outer s H vs Q E hr h => ?_)
  · obtain ⟨b, st, wd, L, ls, as, p, s, l, k, rfl, _⟩ := h
    rfl
  · obtain ⟨b, st, wd, L, ls, as, p, s, l, n, rfl, hst, B, k⟩ := h
    have nd := sc_answer_bests.nd
    refine ⟨_, pss_cons (ps_set (i := 3) nd rfl (Or.inl rfl) (pe_own O1 (hr.mono (by decide)) (pa_cons (pv 0) (pa_cons (pv 1) (pa_cons (pv 2) (pa_cons pe_int pa_nil))))))
      (pss_cons (ps_if (pt_cmpR op_lt (pv 3) pe_int (nomark _)) (pss_one (ps_ret (pe_lst (pa_cons (pv 3) pa_nil)))) pss_nil)
      (pss_cons (ps_set (i := 4) nd rfl (Or.inl rfl) (pe_own O2 (hr.mono (by decide)) (pa_cons (pe_own O3 (hr.mono (by decide)) (pa_cons (pv 0) (pa_cons (pv 1) (pa_cons (pe_own O4 hr (pa_cons (pv 0) (pa_cons (pe_op op_sub (pv 2) pe_int) pa_nil))) pa_nil)))) pa_nil)))
      (pss_one (ps_ret (pe_op op_cat (pe_lst (pa_cons (pe_callB call_len_seq (by rfl) hlen PySem.boot_len (pa_cons (pv 4) pa_nil)) pa_nil)) (pv 4)))))), ?_⟩
    refine ⟨_, rfl, _, rfl, _, rfl, b, st, wd, L, p, s, l, n, 1, rfl, B.b, hst, ?_⟩
    refine ⟨_, rfl, _, _, rfl, rfl, _, rfl, ?_⟩
    have stp : Kp379.step (some wd) (.bests p s l n) = ofStand (some wd) wd p s l n 1 (fun x => Kp379.row (Kp379.bests wd x n)) := rfl
    rcases refuse_cases wd p s l n 1 (some wd) (fun x => Kp379.row (Kp379.bests wd x n)) with ⟨c, e⟩ | ⟨c, hp, hs, hl, h4, h1, e⟩
    · refine ifT (decide_eq_true c) ?_
      exact ⟨_, rfl, (by show 1 ≤ sizeLine; decide), fun r hr0 => k.no B (stp.trans e) (Same.refl _) hr0⟩
    · rw [c]
      refine ifF rfl ?_
      rw [stN_stV p s hl] at hst
      obtain ⟨n', rfl⟩ : ∃ n', n = n' + 1 := ⟨n - 1, by omega⟩
      refine ⟨_, rfl, _, rfl, _, rfl, _, rfl, _, _, rfl, rfl, b, wd, L, ls, as, n', (by show _ = [V.ref b, V.int (n' : Int)]; simp), B, by omega, fun H1 o s1 HO => ?_⟩
      refine ⟨b, st, o, wd, L, ls, as, p, s, l == 1, _, _, rfl, B.same s1, s1 _ _ hst, hp, hs, HO, fun H2 r s2 hr0 hr2 => ?_⟩
      have few : (amounts wd (PARTS ^ n') (later wd n') p s (l == 1)).length ≤ 3 := by
        unfold amounts
        rw [List.length_map]
        exact B.wf.few _ (actsAt_mem B.wf hp)
      refine ⟨r, _, rfl, SqL.of hr2, by omega, fun H3 q s3 hq0 hq => ?_⟩
      have ml : (allMax (amounts wd (PARTS ^ n') (later wd n') p s (l == 1))).length ≤ 3 := by
        unfold allMax
        split
        · simp
        · rename_i e2
          refine Nat.le_trans (List.length_filter_le _ _) ?_
          rw [List.length_range]
          exact few
      have s03 := (s1.trans s2).trans s3
      refine ⟨_, rfl, q, _, rfl, .inl (SqL.of hq), (by show 1 ≤ sizeLine; decide), fun t ht => ?_⟩
      have hq4 := (same_new (o := .lst [V.int (((nums (allMax (amounts wd (PARTS ^ n') (later wd n') p s (l == 1)))).length : Nat) : Int)]) ht) _ _ hq
      refine ⟨_, rfl, t, q, _, _, rfl, rfl, upd_same, hq4, ?_, fun t2 ht2 => ?_⟩
      · refine Nat.le_trans (show 1 + (nums _).length ≤ 4 from ?_) (by decide)
        unfold nums
        rw [List.length_map]
        omega
      · refine k.query B ?_ ((s03.trans (same_new ht)).trans (same_new ht2)) ((s03.trans (same_new ht)).free ht2) (a := Kp379.row (allMax (amounts wd (PARTS ^ n') (later wd n') p s (l == 1)))) ?_
        · rw [stp, e]
          simp only [bests_is B.wf hp hs]
        · rw [upd_same]
          unfold ansV Kp379.row nums
          simp only [List.length_map, List.map_cons, List.map_map, List.singleton_append]
          rfl
theorem pow_small {k : Nat} (h : k ≤ 4) : (PARTS ^ k).natAbs < 2 ^ 9000 := by
  have h1 : (PARTS ^ k).natAbs < 2 ^ 256 := by
    match k, h with
    | 0, _ => decide
    | 1, _ => decide
    | 2, _ => decide
    | 3, _ => decide
    | 4, _ => decide
  exact Nat.lt_trans h1 (Nat.pow_lt_pow_right (by decide) (by decide))
def spWorth (CB CA : Addr) : Sp := fun vs H Q _ => ∃ (b st : Addr) (wd : Kp379.World) (L : Addr) (ls : List Addr) (as : List (List Trip)) (u p s l k : Nat), vs = [.ref b, .int (u : Int), .ref st, .int (k : Int)] ∧ H st = some (.tup (stN p s l)) ∧
  BoardAt CB CA H b wd L ls as ∧ Said CB CA b (some wd) (.worth u p s l k) L ls as H Q
theorem ok_answer_worth {f : Addr} {fd : FuncData} (F : Fun K "answer_worth" "answer_worth" s_answer_worth f fd) (T : Txt K CB CA CO CC) (hN : IntC mg "NO_SUCH" (-2)) (O0 : Own P w K mg base "has_self" 1 ["board", "who"] (spHasSelf CB))
    (O1 : Own P w K mg base "refusal_of_stand" 3 ["board", "stand", "steps", "least_steps"] (spRefuse CB)) (O2 : Own P w K mg base "lowest_terms" 2 ["top", "bottom"] spLow)
    (O4 : Own P w K mg base "outlook_with" 9 ["board", "steps"] (spOutlook CB CA CO)) : FnOk P w K mg base CX0 10 f fd ["board", "light", "stand", "steps"] (spWorth CB CA) := by
  refine F.ok sc_answer_worth (fun vs H Q E h => ?_) (fun cdv A outer s H vs Q E hr h => ?_)
  · obtain ⟨b, st, wd, L, ls, as, u, p, s, l, k, rfl, _⟩ := h
    rfl
  · obtain ⟨b, st, wd, L, ls, as, u, p, s, l, n, rfl, hst, B, k⟩ := h
    have nd := sc_answer_worth.nd
    have hU := hu_of hr
    refine ⟨_, pss_cons (ps_if (pt_not (pt_val (pe_own O0 (hr.mono (by decide)) (pa_cons (pv 0) (pa_cons (pv 1) pa_nil))))) (pss_one (ps_ret (pe_lst (pa_cons (pe_intC hN) pa_nil)))) pss_nil)
      (pss_cons (ps_set (i := 4) nd rfl (Or.inl rfl) (pe_own O1 (hr.mono (by decide)) (pa_cons (pv 0) (pa_cons (pv 2) (pa_cons (pv 3) (pa_cons pe_int pa_nil))))))
      (pss_cons (ps_if (pt_cmpR op_lt (pv 4) pe_int (nomark _)) (pss_one (ps_ret (pe_lst (pa_cons (pv 4) pa_nil)))) pss_nil)
      (pss_cons (ps_set (i := 5) nd rfl (Or.inl rfl) (pe_own O4 hr (pa_cons (pv 0) (pa_cons (pv 3) pa_nil))))
      (pss_one (ps_ret (pe_op op_cat (pe_lst (pa_cons pe_int pa_nil)) (pe_own O2 (hr.mono (by decide)) (pa_cons (pe_ix ix_list (pe_dget hU (pe_fld (pv 5) rfl) (pv 2) (fun _ _ => rfl)) (pv 1) (fun _ _ => rfl)) (pa_cons (pe_fld (pv 5) rfl) pa_nil))))))))), ?_⟩
    have stp : Kp379.step (some wd) (.worth u p s l n) = if Kp379.isSelf wd u = false then (some wd, Kp379.say (-2)) else ofStand (some wd) wd p s l n 0 (fun x => Kp379.frRow (Kp379.worth wd u x n)) := rfl
    unfold Kp379.isSelf at stp
    refine ⟨_, rfl, _, rfl, b, _, _, _, (u : Int), rfl, B.b, _, rfl, ?_⟩
    by_cases hu : u < wd.v
    · refine ifF (by rw [dec_nat, decide_eq_true hu]; rfl) ?_
      rw [decide_eq_true hu, if_neg (by decide)] at stp
      refine ⟨_, rfl, _, rfl, _, rfl, b, st, wd, L, p, s, l, n, 0, rfl, B.b, hst, ?_⟩
      refine ⟨_, rfl, _, _, rfl, rfl, _, rfl, ?_⟩
      rcases refuse_cases wd p s l n 0 (some wd) (fun x => Kp379.frRow (Kp379.worth wd u x n)) with ⟨c, e⟩ | ⟨c, hp, hs, hl, h4, h1, e⟩
      · refine ifT (decide_eq_true c) ?_
        exact ⟨_, rfl, (by show 1 ≤ sizeLine; decide), fun r hr0 => k.no B (stp.trans e) (Same.refl _) hr0⟩
      · rw [c]
        refine ifF rfl ?_
        rw [stN_stV p s hl] at hst
        refine ⟨_, rfl, _, rfl, b, wd, L, ls, as, n, rfl, B, h4, fun H1 o s1 HO => ?_⟩
        refine ⟨(by show 1 ≤ sizeLine; decide), fun t ht => ?_⟩
        have s2 := s1.trans (same_new (o := .lst [V.int 0]) ht)
        obtain ⟨dxo, D, m, ho, HD⟩ := HO.same (same_new (o := .lst [V.int 0]) ht)
        obtain ⟨kvs, hD, _, hall⟩ := HD.ex
        obtain ⟨q, hq1, hq2⟩ := hall p s (l == 1) ⟨hp, hs⟩
        refine ⟨_, rfl, o, CO, dxo, _, _, rfl, ho, T.clO, T.nWorths, oF_worths _ _, _, rfl, D, _, rfl, hq1 ▸ DGet.t hD (by rw [keyOf_kV]; exact s2 _ _ hst), _, rfl, q, _, _, _, rfl, rfl, SqL.of hq2, at_of (j := u) rfl (by rw [List.getElem?_map, range_get hu]; rfl), _, rfl, o, CO, dxo, _, _, rfl, ho, T.clO, T.nScale, oF_scale _ _, _, _, rfl, powPos n, pow_small h4, fun r hr0 => ?_⟩
        have ntr : t ≠ r := ne_of_none upd_same hr0
        refine ⟨t, r, _, _, rfl, rfl, by rw [upd_ne ntr]; exact upd_same, upd_same, (by show 1 + 2 ≤ sizeLine; decide), fun r2 hr2 => ?_⟩
        refine k.query B ?_ ((s2.trans (same_new hr0)).trans (same_new hr2)) ((s2.trans (same_new hr0)).free hr2) (a := Kp379.frRow (Kp379.worth wd u ⟨p, s, l == 1⟩ n)) ?_
        · rw [stp, e]
        · rw [upd_same, worth_rep B.wf hp hs hu]
          rfl
    · refine ifT (by rw [dec_nat, decide_eq_false hu]; rfl) ?_
      refine ⟨(by show 1 ≤ sizeLine; decide), fun r hr0 => k.no B ?_ (Same.refl _) hr0⟩
      rw [stp, decide_eq_false hu, if_pos rfl]
end
end Sel

set_option maxRecDepth 100000
set_option maxHeartbeats 2000000
namespace Sel
open PySem PySem.Spec PyProof.Rows L2
/-! ### the calls in the list -/
def cF (p : Int) (ga ra : Addr) (e : Int) : List (Str × V) := [("number", .int p), ("given", .ref ga), ("row", .ref ra), ("end", .int e)]
theorem cF_number (p : Int) (ga ra : Addr) (e : Int) : (cF p ga ra e).lookup ("number" : Str) = some (.int p) := lk_here
theorem cF_given (p : Int) (ga ra : Addr) (e : Int) : (cF p ga ra e).lookup ("given" : Str) = some (.ref ga) := (lk_past (by decide +kernel)).trans lk_here
theorem cF_row (p : Int) (ga ra : Addr) (e : Int) : (cF p ga ra e).lookup ("row" : Str) = some (.ref ra) := (lk_past (by decide +kernel)).trans ((lk_past (by decide +kernel)).trans lk_here)
theorem cF_end (p : Int) (ga ra : Addr) (e : Int) : (cF p ga ra e).lookup ("end" : Str) = some (.int e) := (lk_past (by decide +kernel)).trans ((lk_past (by decide +kernel)).trans ((lk_past (by decide +kernel)).trans lk_here))
theorem cF_new (p : Int) (ga ra : Addr) (e : Int) : putF "end" (.int e) (putF "row" (.ref ra) (putF "given" (.ref ga) (putF "number" (.int p) []))) = cF p ga ra e := by
  have e1 : putF "number" (V.int p) [] = ([("number", V.int p)] : List (Str × V)) := rfl
  have e2 : putF "given" (V.ref ga) ([("number", V.int p)] : List (Str × V)) = ([("number", V.int p), ("given", V.ref ga)] : List (Str × V)) := (put_past (by decide +kernel)).trans rfl
  have e3 : putF "row" (V.ref ra) ([("number", V.int p), ("given", V.ref ga)] : List (Str × V)) = ([("number", V.int p), ("given", V.ref ga), ("row", V.ref ra)] : List (Str × V)) := (put_past (by decide +kernel)).trans (congrArg _ ((put_past (by decide +kernel)).trans rfl))
  rw [e1, e2, e3]
  exact (put_past (by decide +kernel)).trans (congrArg _ ((put_past (by decide +kernel)).trans (congrArg _ ((put_past (by decide +kernel)).trans rfl))))
/-- a call at t.1, its numbers at t.2.1, its row at t.2.2 -/
def CallAt (CC : Addr) (H : Hp) (t : Trip) (p : Int) (g r : List Int) (e : Int) : Prop := (∃ dx, H t.1 = some (.ins CC dx (cF p t.2.1 t.2.2 e))) ∧ H t.2.1 = some (.lst (g.map V.int)) ∧ H t.2.2 = some (.lst (r.map V.int))
theorem CallAt.same {CC : Addr} {H H' : Hp} {t : Trip} {p : Int} {g r : List Int} {e : Int} (s : Same H H') (h : CallAt CC H t p g r e) : CallAt CC H' t p g r e := by
  obtain ⟨⟨dx, h1⟩, h2, h3⟩ := h
  exact ⟨⟨dx, s _ _ h1⟩, s _ _ h2, s _ _ h3⟩
/-- a call as it's read: its number, its numbers, its row -/
structure Raw where
  p : Int
  g : List Int
  r : List Int
def Raw.flat (c : Raw) : List Int := if c.p = 1 ∨ c.p = 19 then c.p :: (c.g ++ ((c.r.length : Int) :: c.r)) else c.p :: c.g
def Raw.list (c : Raw) : List (List Int) := if c.p = 1 ∨ c.p = 19 then [c.p :: c.g, c.r] else [c.p :: c.g]
def howMany : List Nat := [2, 1, 2, 3, 3, 2, 1, 4, 4, 5, 6, 4, 3, 4, 4, 4, 2, 2, 6, 6]
structure RawOk (c : Raw) : Prop where
  num : ∃ j : Nat, c.p = (j : Int) ∧ howMany[j]? = some c.g.length
  none_ : ¬ (c.p = 1 ∨ c.p = 19) → c.r = []
theorem shape_one {p : Int} {m k a b j : Nat} (e : PyKp379.shape p = some (a, b)) (h : PyKp379.shape p = some (m, k)) (hj : p = (j : Int)) (q : (howMany[j]? = some a) ∧ (b = if p = 1 ∨ p = 19 then 1 else 0)) : (∃ j : Nat, p = (j : Int) ∧ howMany[j]? = some m) ∧ (k = if p = 1 ∨ p = 19 then 1 else 0) := by
  rw [e] at h
  injection h with h
  injection h with h1 h2
  subst h1 h2
  exact ⟨⟨j, hj, q.1⟩, q.2⟩
theorem shape_ok {p : Int} {m k : Nat} (h : PyKp379.shape p = some (m, k)) : (∃ j : Nat, p = (j : Int) ∧ howMany[j]? = some m) ∧ (k = if p = 1 ∨ p = 19 then 1 else 0) := by
  by_cases c0 : p = 0
  · subst c0
    exact shape_one (j := 0) (a := 2) (b := 0) rfl h rfl ⟨rfl, rfl⟩
  by_cases c1 : p = 1
  · subst c1
    exact shape_one (j := 1) (a := 1) (b := 1) rfl h rfl ⟨rfl, rfl⟩
  by_cases c2 : p = 2
  · subst c2
    exact shape_one (j := 2) (a := 2) (b := 0) rfl h rfl ⟨rfl, rfl⟩
  by_cases c3 : p = 3
  · subst c3
    exact shape_one (j := 3) (a := 3) (b := 0) rfl h rfl ⟨rfl, rfl⟩
  by_cases c4 : p = 4
  · subst c4
    exact shape_one (j := 4) (a := 3) (b := 0) rfl h rfl ⟨rfl, rfl⟩
  by_cases c5 : p = 5
  · subst c5
    exact shape_one (j := 5) (a := 2) (b := 0) rfl h rfl ⟨rfl, rfl⟩
  by_cases c6 : p = 6
  · subst c6
    exact shape_one (j := 6) (a := 1) (b := 0) rfl h rfl ⟨rfl, rfl⟩
  by_cases c7 : p = 7
  · subst c7
    exact shape_one (j := 7) (a := 4) (b := 0) rfl h rfl ⟨rfl, rfl⟩
  by_cases c8 : p = 8
  · subst c8
    exact shape_one (j := 8) (a := 4) (b := 0) rfl h rfl ⟨rfl, rfl⟩
  by_cases c9 : p = 9
  · subst c9
    exact shape_one (j := 9) (a := 5) (b := 0) rfl h rfl ⟨rfl, rfl⟩
  by_cases c10 : p = 10
  · subst c10
    exact shape_one (j := 10) (a := 6) (b := 0) rfl h rfl ⟨rfl, rfl⟩
  by_cases c11 : p = 11
  · subst c11
    exact shape_one (j := 11) (a := 4) (b := 0) rfl h rfl ⟨rfl, rfl⟩
  by_cases c12 : p = 12
  · subst c12
    exact shape_one (j := 12) (a := 3) (b := 0) rfl h rfl ⟨rfl, rfl⟩
  by_cases c13 : p = 13
  · subst c13
    exact shape_one (j := 13) (a := 4) (b := 0) rfl h rfl ⟨rfl, rfl⟩
  by_cases c14 : p = 14
  · subst c14
    exact shape_one (j := 14) (a := 4) (b := 0) rfl h rfl ⟨rfl, rfl⟩
  by_cases c15 : p = 15
  · subst c15
    exact shape_one (j := 15) (a := 4) (b := 0) rfl h rfl ⟨rfl, rfl⟩
  by_cases c16 : p = 16
  · subst c16
    exact shape_one (j := 16) (a := 2) (b := 0) rfl h rfl ⟨rfl, rfl⟩
  by_cases c17 : p = 17
  · subst c17
    exact shape_one (j := 17) (a := 2) (b := 0) rfl h rfl ⟨rfl, rfl⟩
  by_cases c18 : p = 18
  · subst c18
    exact shape_one (j := 18) (a := 6) (b := 0) rfl h rfl ⟨rfl, rfl⟩
  by_cases c19 : p = 19
  · subst c19
    exact shape_one (j := 19) (a := 6) (b := 1) rfl h rfl ⟨rfl, rfl⟩
  unfold PyKp379.shape at h
  rw [if_neg c0, if_neg c1, if_neg c2, if_neg c3, if_neg c4, if_neg c5, if_neg c6, if_neg c7, if_neg c8, if_neg c9, if_neg c10, if_neg c11, if_neg c12, if_neg c13, if_neg c14, if_neg c15, if_neg c16, if_neg c17, if_neg c18, if_neg c19] at h
  cases h
/-- each call that's read is such -/
theorem raw_of {c : List (List Int)} (h : PyFlat.okCall PyKp379.shape c) : ∃ x : Raw, RawOk x ∧ x.list = c ∧ x.flat = PyFlat.put1 c := by
  obtain ⟨p, a, xs, rfl, hs⟩ := h
  obtain ⟨hj, hk⟩ := shape_ok hs
  by_cases c : p = 1 ∨ p = 19
  · rw [if_pos c] at hk
    match xs, hk with
    | [r], _ =>
      refine ⟨⟨p, a, r⟩, ⟨hj, fun n => absurd c n⟩, if_pos c, ?_⟩
      show (if p = 1 ∨ p = 19 then p :: (a ++ ((r.length : Int) :: r)) else p :: a) = (p :: a) ++ (((r.length : Int) :: r) ++ [])
      rw [if_pos c, List.append_nil]
      rfl
  · rw [if_neg c] at hk
    have hx : xs = [] := List.length_eq_zero_iff.mp hk
    subst hx
    refine ⟨⟨p, a, []⟩, ⟨hj, fun _ => rfl⟩, if_neg c, ?_⟩
    show (if p = 1 ∨ p = 19 then p :: (a ++ ((([] : List Int).length : Int) :: [])) else p :: a) = (p :: a) ++ []
    rw [if_neg c, List.append_nil]
def flats : List Raw → List Int
  | [] => []
  | c :: cs => c.flat ++ flats cs
theorem raws_of : ∀ {cs : List (List (List Int))}, (∀ c ∈ cs, PyFlat.okCall PyKp379.shape c) → ∃ xs : List Raw, (∀ x ∈ xs, RawOk x) ∧ xs.map Raw.list = cs ∧ flats xs = PyFlat.put cs
  | [], _ => ⟨[], fun _ h => (by cases h), rfl, rfl⟩
  | c :: cs, h => by
    obtain ⟨x, a1, a2, a3⟩ := raw_of (h c (List.Mem.head _))
    obtain ⟨xs, b1, b2, b3⟩ := raws_of (cs := cs) fun d hd => h d (List.Mem.tail _ hd)
    refine ⟨x :: xs, fun y hy => ?_, ?_, ?_⟩
    · cases hy with
      | head => exact a1
      | tail _ hy => exact b1 y hy
    · rw [List.map_cons, a2, b2]
    · show x.flat ++ flats xs = PyFlat.put1 c ++ PyFlat.put cs
      rw [a3, b3]
theorem cut_mid (xs : List V) {a b : Nat} (h1 : a ≤ b) (h2 : b ≤ xs.length) : cutV xs (some (a : Int)) (some (b : Int)) = (xs.drop a).take (b - a) := by
  unfold cutV
  rw [HT.sIx_nat, HT.sIx_nat, Nat.min_eq_left (Nat.le_trans h1 h2), Nat.min_eq_left h2]
/-- what stands at a place of a list that's glued -/
theorem cut_app (pre mid post : List Int) : ((((pre ++ (mid ++ post)).map V.int).drop pre.length).take mid.length) = mid.map V.int := by
  rw [← List.map_drop, ← List.map_take, List.drop_left, List.take_left]
section
variable {P : Program} {w : PySem.World} {K : PySem.W.Frag} {mg : Str → Option Value} {base : Heap} {CB CA CO CC : Addr}
def spCallInit (CC : Addr) : Sp := fun vs H Q _ => ∃ (x dx ga ra : Addr) (p e : Int), vs = [.ref x, .int p, .ref ga, .ref ra, .int e] ∧ H x = some (.ins CC dx []) ∧
  ∀ H' : Hp, H' x = some (.ins CC dx (cF p ga ra e)) → (∀ b o, H b = some o → b ≠ x → H' b = some o) → Q .non H'
theorem ok_Call_init {f : Addr} {fd : FuncData} (F : Fun K "__init__" "Call.__init__" s_Call_init f fd) (T : Txt K CB CA CO CC) : FnOk P w K mg base CX0 1 f fd ["self", "number", "given", "row", "end"] (spCallInit CC) := by
  refine F.ok sc_Call_init (fun vs H Q E h => ?_) (fun cdv A outer s H vs Q E hr h => ?_)
  · obtain ⟨x, dx, ga, ra, p, e, rfl, _⟩ := h
    rfl
  · obtain ⟨x, dx, ga, ra, p, e, rfl, hp, k⟩ := h
    refine ⟨_, pss_cons (ps_fld (pv 0) (pv 1) rfl) (pss_cons (ps_fld (pv 0) (pv 2) rfl) (pss_cons (ps_fld (pv 0) (pv 3) rfl) (pss_one (ps_fld (pv 0) (pv 4) rfl)))), ?_⟩
    refine ⟨_, rfl, _, rfl, x, CC, dx, [], rfl, hp, T.clC, T.nNumber, (by show 0 < 1000; decide), ?_⟩
    refine ⟨_, rfl, _, rfl, x, CC, dx, _, rfl, upd_same, T.clC, T.nGiven, (by show 1 < 1000; decide), ?_⟩
    refine ⟨_, rfl, _, rfl, x, CC, dx, _, rfl, upd_same, T.clC, T.nRow, (by show 2 < 1000; decide), ?_⟩
    refine ⟨_, rfl, _, rfl, x, CC, dx, _, rfl, upd_same, T.clC, T.nEnd, (by show 3 < 1000; decide), ?_⟩
    exact k _ (Eq.trans upd_same (congrArg (fun q => some (HO.ins CC dx q)) (cF_new p ga ra e))) fun b o e hb => by
      rw [upd_ne hb, upd_ne hb, upd_ne hb, upd_ne hb]
      exact e
/-- a tuple of the module's top -/
def TupC (K : PySem.W.Frag) (mg : Str → Option Value) (x : Str) (ns : List Nat) : Prop := ∃ a, mg x = some (.ref a) ∧ ∀ H, SqT K H a (nums ns)
def spRead (K : PySem.W.Frag) (CC : Addr) : Sp := fun vs H Q _ => ∃ (a : Addr) (pre post : List Int) (c : Raw), vs = [.ref a, .int (pre.length : Int)] ∧ SqL K H a ((pre ++ (c.flat ++ post)).map V.int) ∧ RawOk c ∧
  ∀ (H' : Hp) (t : Trip), Same H H' → H t.1 = none → H t.2.1 = none → H t.2.2 = none → CallAt CC H' t c.p c.g c.r ((pre.length + c.flat.length : Nat) : Int) → Q (.ref t.1) H'
theorem ok_read_call {f : Addr} {fd : FuncData} (F : Fun K "read_call" "read_call" s_read_call f fd) (hH : TupC K mg "HOW_MANY" howMany) (hA : IntC mg "ACT" 1) (hI : IntC mg "IFPAY" 19)
    (OC : OwnC P w K mg base "Call" CC 1 ["self", "number", "given", "row", "end"] (spCallInit CC)) : FnOk P w K mg base CX0 3 f fd ["calls", "start"] (spRead K CC) := by
  refine F.ok sc_read_call (fun vs H Q E h => ?_) (fun cdv A outer s H vs Q E hr h => ?_)
  · obtain ⟨a, pre, post, c, rfl, _⟩ := h
    rfl
  · obtain ⟨a, pre, post, c, rfl, hS, ok, k⟩ := h
    obtain ⟨ha, hmg, hT⟩ := hH
    have nd := sc_read_call.nd
    refine ⟨_, pss_cons (ps_set (i := 2) nd rfl (Or.inl rfl) (pe_ix ix_list (pv 0) (pv 1) (fun _ _ => rfl)))
      (pss_cons (ps_set (i := 3) nd rfl (Or.inl rfl) (pe_op op_add (pe_op op_add (pv 1) pe_int) (pe_ix ix_tup (pe_glob (v := .ref ha) rfl hmg rfl) (pv 2) (fun _ _ => rfl))))
      (pss_cons (ps_set (i := 4) nd rfl (Or.inl rfl) (pe_slice sl_list (pv 0) (po_some (pe_op op_add (pv 1) pe_int)) (po_some (pv 3))))
      (pss_cons (ps_if (PW.pt (pw_and (pt_cmpR op_ne (pv 2) (pe_intC hA) (nomark _)) (pw_and1 (pt_cmpR op_ne (pv 2) (pe_intC hI) (nomark _))))) (pss_one (ps_ret (pe_ownC OC hr (pa_cons (pv 2) (pa_cons (pv 4) (pa_cons (pe_lst pa_nil) (pa_cons (pv 3) pa_nil))))))) pss_nil)
      (pss_cons (ps_set (i := 5) nd rfl (Or.inl rfl) (pe_op op_add (pe_op op_add (pv 3) pe_int) (pe_ix ix_list (pv 0) (pv 3) (fun _ _ => rfl))))
      (pss_one (ps_ret (pe_ownC OC hr (pa_cons (pv 2) (pa_cons (pv 4) (pa_cons (pe_slice sl_list (pv 0) (po_some (pe_op op_add (pv 3) pe_int)) (po_some (pv 5))) (pa_cons (pv 5) pa_nil)))))))))))  , ?_⟩
    obtain ⟨p, g, r⟩ := c
    obtain ⟨j, hj, hm⟩ := ok.num
    have hj : p = (j : Int) := hj
    have hm : howMany[j]? = some g.length := hm
    -- the list from the call on
    obtain ⟨tail, ht, flat_eq⟩ : ∃ tail, (Raw.mk p g r).flat = p :: (g ++ tail) ∧ ((p = 1 ∨ p = 19) → tail = (r.length : Int) :: r) := by
      unfold Raw.flat
      by_cases c : p = 1 ∨ p = 19
      · exact ⟨_, if_pos c, fun _ => rfl⟩
      · exact ⟨[], by rw [List.append_nil]; exact if_neg c, fun h => absurd h c⟩
    have ht0 : ¬ (p = 1 ∨ p = 19) → tail = [] := fun h => by
      have e : (Raw.mk p g r).flat = p :: g := if_neg h
      rw [e] at ht
      injection ht with _ ht
      exact (List.append_cancel_left (ht.symm.trans (List.append_nil g).symm))
    rw [ht] at hS k
    have eL : pre ++ ((p :: (g ++ tail)) ++ post) = (pre ++ [p]) ++ (g ++ (tail ++ post)) := by simp
    have eL0 : (pre ++ ((p :: (g ++ tail)) ++ post))[pre.length]? = some p := by simp
    have hlen1 : ((pre ++ [p]).length : Int) = (pre.length : Int) + 1 := by simp
    refine ⟨_, rfl, _, rfl, a, _, _, _, rfl, rfl, hS, at_of (j := pre.length) (v := V.int p) rfl (by rw [List.getElem?_map, eL0]; rfl), ?_⟩
    refine ⟨_, rfl, _, _, rfl, rfl, _, rfl, ha, _, _, _, rfl, rfl, hT H, at_of (j := j) (v := V.int (g.length : Int)) hj (by unfold nums; rw [List.getElem?_map, hm]; rfl), _, _, rfl, rfl, ?_⟩
    refine ⟨_, rfl, _, rfl, _, _, rfl, rfl, _, rfl, _, rfl, _, rfl, a, _, rfl, hS, fun ga hga => ?_⟩
    have cut1 : cutV ((pre ++ ((p :: (g ++ tail)) ++ post)).map V.int) (some ((pre.length : Int) + 1)) (some ((pre.length : Int) + 1 + (g.length : Int))) = g.map V.int := by
      have e1 : (pre.length : Int) + 1 = (((pre ++ [p]).length : Nat) : Int) := hlen1.symm
      have e2 : (pre.length : Int) + 1 + (g.length : Int) = (((pre ++ [p]).length + g.length : Nat) : Int) := by rw [e1]; omega
      rw [e2, e1, eL, cut_mid _ (Nat.le_add_right _ _) (by simp only [List.length_map, List.length_append, List.length_cons, List.length_nil]; omega), Nat.add_sub_cancel_left]
      exact cut_app (pre ++ [p]) g (tail ++ post)
    rw [cut1]
    have s1 : Same H _ := same_new (o := .lst (g.map V.int)) hga
    -- with a row or without
    have d1 : decide (V.int p = V.int 1) = decide (p = 1) := by
      by_cases c : p = 1
      · rw [c]; rfl
      · rw [decide_eq_false c, decide_eq_false (by intro e; injection e with e; exact c e)]
    have d2 : decide (V.int p = V.int 19) = decide (p = 19) := by
      by_cases c : p = 19
      · rw [c]; rfl
      · rw [decide_eq_false c, decide_eq_false (by intro e; injection e with e; exact c e)]
    by_cases c : p = 1 ∨ p = 19
    · -- a row
      have et := flat_eq c
      have rest : tRet (tMake CC (spCallInit CC) [] E0 (tCons (tVar 2) (tCons (tVar 4) (tCons (tSl (rSlL K) (tVar 0) (tPart (tOp (rI0 fun i j => .int (i + j)) (tVar 3) (tC (.int 1)))) (tPart (tVar 5))) (tCons (tVar 5) tNil)))))
          { nx := fun _ H' => Q .non H', rt := Q } [some (.ref a), some (.int (pre.length : Int)), some (.int p), some (.int ((pre.length : Int) + 1 + (g.length : Int))), some (.ref ga), some (.int ((pre.length : Int) + 1 + (g.length : Int) + 1 + (r.length : Int)))] (upd H ga (.lst (g.map V.int))) := by
        refine ⟨_, rfl, _, rfl, _, rfl, _, rfl, _, _, rfl, rfl, _, rfl, _, rfl, _, rfl, a, _, rfl, s1.seq hS, fun ra hra => ?_⟩
        have cut2 : cutV ((pre ++ ((p :: (g ++ tail)) ++ post)).map V.int) (some ((pre.length : Int) + 1 + (g.length : Int) + 1)) (some ((pre.length : Int) + 1 + (g.length : Int) + 1 + (r.length : Int))) = r.map V.int := by
          have eM : pre ++ ((p :: (g ++ tail)) ++ post) = (pre ++ [p] ++ g ++ [(r.length : Int)]) ++ (r ++ post) := by rw [et]; simp
          have e1 : (pre.length : Int) + 1 + (g.length : Int) + 1 = (((pre ++ [p] ++ g ++ [(r.length : Int)]).length : Nat) : Int) := by simp only [List.length_append, List.length_cons, List.length_nil]; omega
          have e2 : (pre.length : Int) + 1 + (g.length : Int) + 1 + (r.length : Int) = (((pre ++ [p] ++ g ++ [(r.length : Int)]).length + r.length : Nat) : Int) := by rw [e1]; omega
          rw [e2, e1, eM, cut_mid _ (Nat.le_add_right _ _) (by simp only [List.length_map, List.length_append, List.length_cons, List.length_nil]; omega), Nat.add_sub_cancel_left]
          exact cut_app (pre ++ [p] ++ g ++ [(r.length : Int)]) r post
        rw [cut2]
        have s2 := s1.trans (same_new (o := .lst (r.map V.int)) hra)
        have ngr : ga ≠ ra := ne_of_none upd_same hra
        refine ⟨_, rfl, fun x dx hx hdx ne => ?_⟩
        refine ⟨x, dx, ga, ra, p, _, rfl, upd_same, fun H3 h1 h2 => ⟨rfl, ?_⟩⟩
        have s3 : Same _ H3 := Same.made hx hdx h2
        refine k H3 (x, ga, ra) (s2.trans s3) (s2.free hx) hga (s1.free hra) ⟨⟨dx, ?_⟩, s3 _ _ (by rw [upd_ne ngr]; exact upd_same), s3 _ _ upd_same⟩
        have ee : ((pre.length + (p :: (g ++ tail)).length : Nat) : Int) = (pre.length : Int) + 1 + (g.length : Int) + 1 + (r.length : Int) := by
          rw [et]
          simp only [List.length_cons, List.length_append]
          omega
        rw [ee]
        exact h1
      have next : tSeq (tAsg (tOp (rI0 fun i j => .int (i + j)) (tOp (rI0 fun i j => .int (i + j)) (tVar 3) (tC (.int 1))) (tOp (rIxL K) (tVar 0) (tVar 3))) (gName 5)) (tRet (tMake CC (spCallInit CC) [] E0 (tCons (tVar 2) (tCons (tVar 4) (tCons (tSl (rSlL K) (tVar 0) (tPart (tOp (rI0 fun i j => .int (i + j)) (tVar 3) (tC (.int 1)))) (tPart (tVar 5))) (tCons (tVar 5) tNil))))))
          { nx := fun _ H' => Q .non H', rt := Q } [some (.ref a), some (.int (pre.length : Int)), some (.int p), some (.int ((pre.length : Int) + 1 + (g.length : Int))), some (.ref ga), none] (upd H ga (.lst (g.map V.int))) := by
        have eI : (pre ++ ((p :: (g ++ tail)) ++ post))[pre.length + 1 + g.length]? = some (r.length : Int) := by
          have eM : pre ++ ((p :: (g ++ tail)) ++ post) = (pre ++ [p] ++ g) ++ ((r.length : Int) :: (r ++ post)) := by rw [et]; simp
          have en : pre.length + 1 + g.length = (pre ++ [p] ++ g).length := by simp only [List.length_append, List.length_cons, List.length_nil]
          rw [eM, en, List.getElem?_append_right (Nat.le_refl _), Nat.sub_self]
          rfl
        exact ⟨_, rfl, _, _, rfl, rfl, _, rfl, _, rfl, a, _, _, _, rfl, rfl, s1.seq hS, at_of (j := pre.length + 1 + g.length) (v := V.int (r.length : Int)) (by omega) (by rw [List.getElem?_map, eI]; rfl), _, _, rfl, rfl, rest⟩
      refine ⟨_, rfl, rfl, _, rfl, ?_⟩
      rcases c with c | c
      · refine ifF (by rw [d1, decide_eq_true c]; rfl) ?_
        exact ifF rfl next
      · refine ifT (by rw [d1, decide_eq_false (by omega)]; rfl) ?_
        refine ⟨_, rfl, rfl, _, rfl, ?_⟩
        refine ifF (by rw [d2, decide_eq_true c]; rfl) ?_
        exact next
    · refine ⟨_, rfl, rfl, _, rfl, ?_⟩
      refine ifT (by rw [d1, decide_eq_false (fun z => c (.inl z))]; rfl) ?_
      refine ⟨_, rfl, rfl, _, rfl, ?_⟩
      refine ifT (by rw [d2, decide_eq_false (fun z => c (.inr z))]; rfl) ?_
      refine ⟨_, rfl, _, rfl, Nat.zero_le _, fun ra hra => ?_⟩
      have s2 := s1.trans (same_new (o := .lst []) hra)
      have ngr : ga ≠ ra := ne_of_none upd_same hra
      refine ⟨_, rfl, fun x dx hx hdx ne => ?_⟩
      refine ⟨x, dx, ga, ra, p, _, rfl, upd_same, fun H3 h1 h2 => ⟨rfl, ?_⟩⟩
      have s3 : Same _ H3 := Same.made hx hdx h2
      have er : r = [] := ok.none_ c
      refine k H3 (x, ga, ra) (s2.trans s3) (s2.free hx) hga (s1.free hra) ⟨⟨dx, ?_⟩, s3 _ _ (by rw [upd_ne ngr]; exact upd_same), by rw [er]; exact s3 _ _ upd_same⟩
      have ee : ((pre.length + (p :: (g ++ tail)).length : Nat) : Int) = (pre.length : Int) + 1 + (g.length : Int) := by
        rw [ht0 c, List.append_nil]
        simp only [List.length_cons]
        omega
      rw [ee]
      exact h1
end
end Sel

set_option maxRecDepth 100000
set_option maxHeartbeats 2000000
namespace Sel
open PySem PySem.Spec PyProof.Rows L2
/-- all calls, where they stand -/
structure CallsAt (CC : Addr) (H : Hp) (ts : List Trip) (cs : List Raw) : Prop where
  len : ts.length = cs.length
  at_ : ∀ (i : Nat) (t : Trip) (c : Raw), ts[i]? = some t → cs[i]? = some c → ∃ e, CallAt CC H t c.p c.g c.r e
theorem CallsAt.same {CC : Addr} {H H' : Hp} {ts : List Trip} {cs : List Raw} (s : Same H H') (h : CallsAt CC H ts cs) : CallsAt CC H' ts cs := ⟨h.len, fun i t c a b => by
  obtain ⟨e, q⟩ := h.at_ i t c a b
  exact ⟨e, q.same s⟩⟩
theorem snoc_get {α : Type} {l : List α} {y z : α} {j : Nat} (h : (l ++ [y])[j]? = some z) : (j < l.length ∧ l[j]? = some z) ∨ (j = l.length ∧ y = z) := by
  by_cases cj : j < l.length
  · rw [List.getElem?_append_left cj] at h
    exact .inl ⟨cj, h⟩
  · rw [List.getElem?_append_right (by omega)] at h
    have e0 : j - l.length = 0 := by
      have := (List.getElem?_eq_some_iff.mp h).1
      simpa using this
    rw [e0] at h
    exact .inr ⟨by omega, by simpa using h⟩
theorem flats_app : ∀ (a b : List Raw), flats (a ++ b) = flats a ++ flats b
  | [], _ => rfl
  | c :: a, b => by
    show c.flat ++ flats (a ++ b) = (c.flat ++ flats a) ++ flats b
    rw [flats_app a b, List.append_assoc]
theorem flat_pos (c : Raw) : 0 < c.flat.length := by
  unfold Raw.flat
  split <;> simp
section
variable {P : Program} {w : PySem.World} {K : PySem.W.Frag} {mg : Str → Option Value} {base : Heap} {CB CA CO CC : Addr}
def Fresh (H : Hp) (t : Trip) : Prop := H t.1 = none ∧ H t.2.1 = none ∧ H t.2.2 = none
def spSplit (K : PySem.W.Frag) (CC : Addr) : Sp := fun vs H Q _ => ∃ (a : Addr) (cs : List Raw), vs = [.ref a] ∧ SqL K H a ((flats cs).map V.int) ∧ (∀ c ∈ cs, RawOk c) ∧ cs.length ≤ 100 ∧
  ∀ (H' : Hp) (r : Addr) (ts : List Trip), Same H H' → H r = none → H' r = some (.lst (ts.map fun t => V.ref t.1)) → CallsAt CC H' ts cs → (∀ t ∈ ts, Fresh H t) → Q (.ref r) H'
theorem ok_split_calls {f : Addr} {fd : FuncData} (F : Fun K "split_calls" "split_calls" s_split_calls f fd) (T : Txt K CB CA CO CC) (hlen : mg "len" = none)
    (O1 : Own P w K mg base "read_call" 3 ["calls", "start"] (spRead K CC)) : FnOk P w K mg base CX0 4 f fd ["calls"] (spSplit K CC) := by
  refine F.ok sc_split_calls (fun vs H Q E h => ?_) (fun cdv A outer s H vs Q E hr h => ?_)
  · obtain ⟨a, cs, rfl, _⟩ := h
    rfl
  · obtain ⟨a, cs, rfl, hS, ok, few, k⟩ := h
    have nd := sc_split_calls.nd
    refine ⟨_, pss_cons (ps_set (i := 1) nd rfl (Or.inl rfl) (pe_lst pa_nil))
      (pss_cons (ps_set (i := 2) nd rfl (Or.inl rfl) pe_int)
      (pss_cons (ps_while PassesOwn.never (pt_cmpR op_lt (pv 2) (pe_callB call_len_seq (by rfl) hlen PySem.boot_len (pa_cons (pv 0) pa_nil)) (nomark _))
        (pss_cons (ps_set (i := 3) nd rfl (Or.inl rfl) (pe_own O1 hr (pa_cons (pv 0) (pa_cons (pv 2) pa_nil))))
        (pss_cons (ps_expr (pe_bm PySem.F.plainAttrs_list PySem.F.slot_list_append PySem.F.type_list_append mt_append (pv 1) (pa_cons (pv 3) pa_nil)))
        (pss_one (ps_set (i := 2) nd rfl (Or.inl rfl) (pe_fld (pv 3) rfl))))))
      (pss_one (ps_ret (pv 1))))), ?_⟩
    refine ⟨Nat.zero_le _, fun r hr0 => ?_⟩
    refine while_by (fun σ H' => ∃ (done rest : List Raw) (ts : List Trip) (v3 : Option V), cs = done ++ rest ∧ σ = [some (.ref a), some (.ref r), some (.int ((flats done).length : Int)), v3] ∧ Same H H' ∧ H' r = some (.lst (ts.map fun t => V.ref t.1)) ∧ CallsAt CC H' ts done ∧ (∀ t ∈ ts, Fresh H t ∧ t.1 ≠ r ∧ t.2.1 ≠ r ∧ t.2.2 ≠ r))
      (fun σ _ => (flats cs).length - slotN σ 2) ⟨[], cs, [], none, rfl, rfl, same_new hr0, upd_same, ⟨rfl, fun i t c a _ => by simp at a⟩, fun t h => by cases h⟩ ?_ ?_
    · rintro σ H' ⟨done, rest, ts, v3, hcs, rfl, s1, hr1, CS, fr⟩
      refine ⟨_, rfl, _, rfl, a, _, rfl, .inl (s1.seq hS), _, _, rfl, rfl, _, rfl, ?_⟩
      rw [List.length_map]
      cases rest with
      | nil =>
        rw [List.append_nil] at hcs
        subst hcs
        refine ifF (decide_eq_false (by omega)) ?_
        exact ⟨_, rfl, k H' r ts s1 hr0 hr1 CS fun t ht => (fr t ht).1⟩
      | cons c rest =>
        have efl : flats cs = flats done ++ (c.flat ++ flats rest) := by
          rw [hcs, flats_app]
          rfl
        have hlt : (flats done).length < (flats cs).length := by
          rw [efl, List.length_append, List.length_append]
          have := flat_pos c
          omega
        refine ifT (decide_eq_true (by omega)) ?_
        refine ⟨_, rfl, _, rfl, a, flats done, flats rest, c, rfl, by rw [← efl]; exact s1.seq hS, ok c (by rw [hcs]; simp), fun H2 t s2 f1 f2 f3 CA2 => ?_⟩
        have hr2 := s2 _ _ hr1
        have ltr : ts.length < 100 := by
          have h1 := CS.len
          have h2 : done.length + (rest.length + 1) = cs.length := by rw [hcs]; simp
          omega
        refine ⟨_, rfl, .inl ⟨rfl, _, SqL.of hr2⟩, _, rfl, r, _, _, rfl, rfl, hr2, (by rw [List.length_map]; exact Nat.lt_trans ltr (by decide)), ?_⟩
        have n1 : t.1 ≠ r := fun e => by rw [e, hr1] at f1; cases f1
        have n2 : t.2.1 ≠ r := fun e => by rw [e, hr1] at f2; cases f2
        have n3 : t.2.2 ≠ r := fun e => by rw [e, hr1] at f3; cases f3
        obtain ⟨⟨dx, h1⟩, h2, h3⟩ := CA2
        refine ⟨_, rfl, t.1, CC, dx, _, _, rfl, by rw [upd_ne n1]; exact h1, T.clC, T.nEnd, cF_end _ _ _ _, ?_⟩
        refine ⟨⟨done ++ [c], rest, ts ++ [t], some (.ref t.1), by rw [hcs]; simp, ?_, ?_, ?_, ?_, ?_⟩, ?_⟩
        · have : flats (done ++ [c]) = flats done ++ c.flat := by
            rw [flats_app]
            show _ ++ (c.flat ++ []) = _
            rw [List.append_nil]
          rw [this, List.length_append]
          rfl
        · intro z o e
          rw [upd_ne (ne_of_none e hr0)]
          exact s2 _ _ (s1 _ _ e)
        · rw [upd_same, List.map_append]
          rfl
        · refine ⟨by rw [List.length_append, List.length_append, CS.len]; rfl, fun i t' c' ht' hc' => ?_⟩
          rcases snoc_get ht' with ⟨a1, a2⟩ | ⟨a1, a2⟩ <;> rcases snoc_get hc' with ⟨b1, b2⟩ | ⟨b1, b2⟩
          · obtain ⟨e, ⟨d, q1⟩, q2, q3⟩ := CS.at_ i t' c' a2 b2
            obtain ⟨_, m1, m2, m3⟩ := fr t' (List.mem_of_getElem? a2)
            exact ⟨e, ⟨d, by rw [upd_ne m1]; exact s2 _ _ q1⟩, by rw [upd_ne m2]; exact s2 _ _ q2, by rw [upd_ne m3]; exact s2 _ _ q3⟩
          · have := CS.len; omega
          · have := CS.len; omega
          · subst a2 b2
            exact ⟨_, ⟨dx, by rw [upd_ne n1]; exact h1⟩, by rw [upd_ne n2]; exact h2, by rw [upd_ne n3]; exact h3⟩
        · intro t' ht'
          rcases List.mem_append.mp ht' with h | h
          · exact fr t' h
          · rw [List.mem_singleton.mp h]
            exact ⟨⟨s1.free f1, s1.free f2, s1.free f3⟩, n1, n2, n3⟩
        · show (flats cs).length - (((flats done).length + c.flat.length : Nat) : Int).toNat < (flats cs).length - ((flats done).length : Int).toNat
          have := flat_pos c
          omega
    · intro σ H Q Q' hq h
      obtain ⟨v, e1, h⟩ := h
      obtain ⟨v2, e2, a2, xs, e3, h3, i, j, e4, e5, b, e6, h⟩ := h
      exact ⟨v, e1, v2, e2, a2, xs, e3, h3, i, j, e4, e5, b, e6, hq _ _ h⟩
end
end Sel

set_option maxRecDepth 100000
set_option maxHeartbeats 2000000
namespace Sel
open PySem PySem.Spec PyProof.Rows L2
/-! ### what a call that is read means -/
inductive Means : Raw → Kp379.Call → Prop
  | begin_ (a b : Nat) : Means ⟨0, [(a : Int), (b : Int)], []⟩ (.begin_ a b)
  | act (a : Nat) (l : List Int) : l.length ≤ 9 → Means ⟨1, [(a : Int)], l⟩ (.act a l)
  | unact (a b : Nat) : Means ⟨2, [(a : Int), (b : Int)], []⟩ (.unact a b)
  | turn (a b c : Nat) : Means ⟨3, [(a : Int), (b : Int), (c : Int)], []⟩ (.turn a b c)
  | lock (a b c : Nat) : Means ⟨4, [(a : Int), (b : Int), (c : Int)], []⟩ (.lock a b c)
  | actIs (a b : Nat) : Means ⟨5, [(a : Int), (b : Int)], []⟩ (.actIs a b)
  | acts (a : Nat) : Means ⟨6, [(a : Int)], []⟩ (.acts a)
  | does (a b c d : Nat) : Means ⟨7, [(a : Int), (b : Int), (c : Int), (d : Int)], []⟩ (.does a b c d)
  | bests (a b c d : Nat) : Means ⟨8, [(a : Int), (b : Int), (c : Int), (d : Int)], []⟩ (.bests a b c d)
  | worth (a b c d e : Nat) : Means ⟨9, [(a : Int), (b : Int), (c : Int), (d : Int), (e : Int)], []⟩ (.worth a b c d e)
  | brings (a b c d e f : Nat) : Means ⟨10, [(a : Int), (b : Int), (c : Int), (d : Int), (e : Int), (f : Int)], []⟩ (.brings a b c d e f)
  | lights (a b c d : Nat) : Means ⟨11, [(a : Int), (b : Int), (c : Int), (d : Int)], []⟩ (.lights a b c d)
  | ideal (a b c : Nat) : Means ⟨12, [(a : Int), (b : Int), (c : Int)], []⟩ (.ideal a b c)
  | short (a b c d : Nat) : Means ⟨13, [(a : Int), (b : Int), (c : Int), (d : Int)], []⟩ (.short a b c d)
  | after (a b c d : Nat) : Means ⟨14, [(a : Int), (b : Int), (c : Int), (d : Int)], []⟩ (.after a b c d)
  | selves (a b c d : Nat) : Means ⟨15, [(a : Int), (b : Int), (c : Int), (d : Int)], []⟩ (.selves a b c d)
  | turns (a b : Nat) : Means ⟨16, [(a : Int), (b : Int)], []⟩ (.turns a b)
  | never (a b : Nat) : Means ⟨17, [(a : Int), (b : Int)], []⟩ (.never a b)
  | ifTurn (a b c d e f : Nat) : Means ⟨18, [(a : Int), (b : Int), (c : Int), (d : Int), (e : Int), (f : Int)], []⟩ (.ifTurn a b c d e f)
  | ifPay (a b c d e f : Nat) (l : List Int) : l.length ≤ 9 → Means ⟨19, [(a : Int), (b : Int), (c : Int), (d : Int), (e : Int), (f : Int)], l⟩ (.ifPay a b c d e f l)
theorem nat_of {z : Int} (h : Kp379Neutral.natural z = true) : z = (z.toNat : Int) := by
  unfold Kp379Neutral.natural at h
  rw [Bool.and_eq_true, decide_eq_true_iff] at h
  omega
theorem len1 {l : List Int} (h : l.length = 1) : ∃ a, l = [a] := by
  match l, h with
  | [a], _ => exact ⟨a, rfl⟩
theorem len2 {l : List Int} (h : l.length = 2) : ∃ a b, l = [a, b] := by
  match l, h with
  | [a, b], _ => exact ⟨a, b, rfl⟩
theorem len3 {l : List Int} (h : l.length = 3) : ∃ a b c, l = [a, b, c] := by
  match l, h with
  | [a, b, c], _ => exact ⟨a, b, c, rfl⟩
theorem len4 {l : List Int} (h : l.length = 4) : ∃ a b c d, l = [a, b, c, d] := by
  match l, h with
  | [a, b, c, d], _ => exact ⟨a, b, c, d, rfl⟩
theorem len5 {l : List Int} (h : l.length = 5) : ∃ a b c d e, l = [a, b, c, d, e] := by
  match l, h with
  | [a, b, c, d, e], _ => exact ⟨a, b, c, d, e, rfl⟩
theorem len6 {l : List Int} (h : l.length = 6) : ∃ a b c d e f, l = [a, b, c, d, e, f] := by
  match l, h with
  | [a, b, c, d, e, f], _ => exact ⟨a, b, c, d, e, f, rfl⟩
theorem means_of {x : Raw} (ok : RawOk x) (ha : Kp379Neutral.asked1 (PyKp379.whole x.list) = true) : ∃ kc, Means x kc ∧ Kp379Neutral.callOf (PyKp379.whole x.list) = some kc := by
  obtain ⟨p, g, r⟩ := x
  obtain ⟨j, hj, hm⟩ := ok.num
  have hj : p = (j : Int) := hj
  have hm : howMany[j]? = some g.length := hm
  have hn : ¬ (p = 1 ∨ p = 19) → r = [] := ok.none_
  have hj20 : j < 20 := (List.getElem?_eq_some_iff.mp hm).1
  subst hj
  match j, hj20 with
  | 0, _ =>
    obtain ⟨a, b, rfl⟩ := len2 (Option.some.inj (show some g.length = some 2 from hm.symm))
    have er := hn (by decide)
    subst er
    have ha : (Kp379Neutral.natural a && (Kp379Neutral.natural b)) = true := ha
    simp only [Bool.and_eq_true] at ha
    obtain ⟨ha, hb⟩ := ha
    rw [nat_of ha, nat_of hb]
    exact ⟨_, .begin_ _ _, rfl⟩
  | 1, _ =>
    obtain ⟨a, rfl⟩ := len1 (Option.some.inj (show some g.length = some 1 from hm.symm))
    have ha : (Kp379Neutral.natural a && (r.all Kp379Neutral.wide && decide (r.length ≤ 9))) = true := ha
    simp only [Bool.and_eq_true, decide_eq_true_iff] at ha
    obtain ⟨ha, _, hl⟩ := ha
    rw [nat_of ha]
    exact ⟨_, .act _ r (by omega), rfl⟩
  | 2, _ =>
    obtain ⟨a, b, rfl⟩ := len2 (Option.some.inj (show some g.length = some 2 from hm.symm))
    have er := hn (by decide)
    subst er
    have ha : (Kp379Neutral.natural a && (Kp379Neutral.natural b)) = true := ha
    simp only [Bool.and_eq_true] at ha
    obtain ⟨ha, hb⟩ := ha
    rw [nat_of ha, nat_of hb]
    exact ⟨_, .unact _ _, rfl⟩
  | 3, _ =>
    obtain ⟨a, b, c, rfl⟩ := len3 (Option.some.inj (show some g.length = some 3 from hm.symm))
    have er := hn (by decide)
    subst er
    have ha : (Kp379Neutral.natural a && (Kp379Neutral.natural b && (Kp379Neutral.natural c))) = true := ha
    simp only [Bool.and_eq_true] at ha
    obtain ⟨ha, hb, hc⟩ := ha
    rw [nat_of ha, nat_of hb, nat_of hc]
    exact ⟨_, .turn _ _ _, rfl⟩
  | 4, _ =>
    obtain ⟨a, b, c, rfl⟩ := len3 (Option.some.inj (show some g.length = some 3 from hm.symm))
    have er := hn (by decide)
    subst er
    have ha : (Kp379Neutral.natural a && (Kp379Neutral.natural b && (Kp379Neutral.natural c))) = true := ha
    simp only [Bool.and_eq_true] at ha
    obtain ⟨ha, hb, hc⟩ := ha
    rw [nat_of ha, nat_of hb, nat_of hc]
    exact ⟨_, .lock _ _ _, rfl⟩
  | 5, _ =>
    obtain ⟨a, b, rfl⟩ := len2 (Option.some.inj (show some g.length = some 2 from hm.symm))
    have er := hn (by decide)
    subst er
    have ha : (Kp379Neutral.natural a && (Kp379Neutral.natural b)) = true := ha
    simp only [Bool.and_eq_true] at ha
    obtain ⟨ha, hb⟩ := ha
    rw [nat_of ha, nat_of hb]
    exact ⟨_, .actIs _ _, rfl⟩
  | 6, _ =>
    obtain ⟨a, rfl⟩ := len1 (Option.some.inj (show some g.length = some 1 from hm.symm))
    have er := hn (by decide)
    subst er
    have ha : (Kp379Neutral.natural a) = true := ha
    have ha := ha
    have ha1 := ha
    rw [nat_of ha1]
    exact ⟨_, .acts _, rfl⟩
  | 7, _ =>
    obtain ⟨a, b, c, d, rfl⟩ := len4 (Option.some.inj (show some g.length = some 4 from hm.symm))
    have er := hn (by decide)
    subst er
    have ha : (Kp379Neutral.natural a && (Kp379Neutral.natural b && (Kp379Neutral.natural c && (Kp379Neutral.natural d)))) = true := ha
    simp only [Bool.and_eq_true] at ha
    obtain ⟨ha, hb, hc, hd⟩ := ha
    rw [nat_of ha, nat_of hb, nat_of hc, nat_of hd]
    exact ⟨_, .does _ _ _ _, rfl⟩
  | 8, _ =>
    obtain ⟨a, b, c, d, rfl⟩ := len4 (Option.some.inj (show some g.length = some 4 from hm.symm))
    have er := hn (by decide)
    subst er
    have ha : (Kp379Neutral.natural a && (Kp379Neutral.natural b && (Kp379Neutral.natural c && (Kp379Neutral.natural d)))) = true := ha
    simp only [Bool.and_eq_true] at ha
    obtain ⟨ha, hb, hc, hd⟩ := ha
    rw [nat_of ha, nat_of hb, nat_of hc, nat_of hd]
    exact ⟨_, .bests _ _ _ _, rfl⟩
  | 9, _ =>
    obtain ⟨a, b, c, d, e, rfl⟩ := len5 (Option.some.inj (show some g.length = some 5 from hm.symm))
    have er := hn (by decide)
    subst er
    have ha : (Kp379Neutral.natural a && (Kp379Neutral.natural b && (Kp379Neutral.natural c && (Kp379Neutral.natural d && (Kp379Neutral.natural e))))) = true := ha
    simp only [Bool.and_eq_true] at ha
    obtain ⟨ha, hb, hc, hd, he⟩ := ha
    rw [nat_of ha, nat_of hb, nat_of hc, nat_of hd, nat_of he]
    exact ⟨_, .worth _ _ _ _ _, rfl⟩
  | 10, _ =>
    obtain ⟨a, b, c, d, e, f, rfl⟩ := len6 (Option.some.inj (show some g.length = some 6 from hm.symm))
    have er := hn (by decide)
    subst er
    have ha : (Kp379Neutral.natural a && (Kp379Neutral.natural b && (Kp379Neutral.natural c && (Kp379Neutral.natural d && (Kp379Neutral.natural e && (Kp379Neutral.natural f)))))) = true := ha
    simp only [Bool.and_eq_true] at ha
    obtain ⟨ha, hb, hc, hd, he, hf⟩ := ha
    rw [nat_of ha, nat_of hb, nat_of hc, nat_of hd, nat_of he, nat_of hf]
    exact ⟨_, .brings _ _ _ _ _ _, rfl⟩
  | 11, _ =>
    obtain ⟨a, b, c, d, rfl⟩ := len4 (Option.some.inj (show some g.length = some 4 from hm.symm))
    have er := hn (by decide)
    subst er
    have ha : (Kp379Neutral.natural a && (Kp379Neutral.natural b && (Kp379Neutral.natural c && (Kp379Neutral.natural d)))) = true := ha
    simp only [Bool.and_eq_true] at ha
    obtain ⟨ha, hb, hc, hd⟩ := ha
    rw [nat_of ha, nat_of hb, nat_of hc, nat_of hd]
    exact ⟨_, .lights _ _ _ _, rfl⟩
  | 12, _ =>
    obtain ⟨a, b, c, rfl⟩ := len3 (Option.some.inj (show some g.length = some 3 from hm.symm))
    have er := hn (by decide)
    subst er
    have ha : (Kp379Neutral.natural a && (Kp379Neutral.natural b && (Kp379Neutral.natural c))) = true := ha
    simp only [Bool.and_eq_true] at ha
    obtain ⟨ha, hb, hc⟩ := ha
    rw [nat_of ha, nat_of hb, nat_of hc]
    exact ⟨_, .ideal _ _ _, rfl⟩
  | 13, _ =>
    obtain ⟨a, b, c, d, rfl⟩ := len4 (Option.some.inj (show some g.length = some 4 from hm.symm))
    have er := hn (by decide)
    subst er
    have ha : (Kp379Neutral.natural a && (Kp379Neutral.natural b && (Kp379Neutral.natural c && (Kp379Neutral.natural d)))) = true := ha
    simp only [Bool.and_eq_true] at ha
    obtain ⟨ha, hb, hc, hd⟩ := ha
    rw [nat_of ha, nat_of hb, nat_of hc, nat_of hd]
    exact ⟨_, .short _ _ _ _, rfl⟩
  | 14, _ =>
    obtain ⟨a, b, c, d, rfl⟩ := len4 (Option.some.inj (show some g.length = some 4 from hm.symm))
    have er := hn (by decide)
    subst er
    have ha : (Kp379Neutral.natural a && (Kp379Neutral.natural b && (Kp379Neutral.natural c && (Kp379Neutral.natural d)))) = true := ha
    simp only [Bool.and_eq_true] at ha
    obtain ⟨ha, hb, hc, hd⟩ := ha
    rw [nat_of ha, nat_of hb, nat_of hc, nat_of hd]
    exact ⟨_, .after _ _ _ _, rfl⟩
  | 15, _ =>
    obtain ⟨a, b, c, d, rfl⟩ := len4 (Option.some.inj (show some g.length = some 4 from hm.symm))
    have er := hn (by decide)
    subst er
    have ha : (Kp379Neutral.natural a && (Kp379Neutral.natural b && (Kp379Neutral.natural c && (Kp379Neutral.natural d)))) = true := ha
    simp only [Bool.and_eq_true] at ha
    obtain ⟨ha, hb, hc, hd⟩ := ha
    rw [nat_of ha, nat_of hb, nat_of hc, nat_of hd]
    exact ⟨_, .selves _ _ _ _, rfl⟩
  | 16, _ =>
    obtain ⟨a, b, rfl⟩ := len2 (Option.some.inj (show some g.length = some 2 from hm.symm))
    have er := hn (by decide)
    subst er
    have ha : (Kp379Neutral.natural a && (Kp379Neutral.natural b)) = true := ha
    simp only [Bool.and_eq_true] at ha
    obtain ⟨ha, hb⟩ := ha
    rw [nat_of ha, nat_of hb]
    exact ⟨_, .turns _ _, rfl⟩
  | 17, _ =>
    obtain ⟨a, b, rfl⟩ := len2 (Option.some.inj (show some g.length = some 2 from hm.symm))
    have er := hn (by decide)
    subst er
    have ha : (Kp379Neutral.natural a && (Kp379Neutral.natural b)) = true := ha
    simp only [Bool.and_eq_true] at ha
    obtain ⟨ha, hb⟩ := ha
    rw [nat_of ha, nat_of hb]
    exact ⟨_, .never _ _, rfl⟩
  | 18, _ =>
    obtain ⟨a, b, c, d, e, f, rfl⟩ := len6 (Option.some.inj (show some g.length = some 6 from hm.symm))
    have er := hn (by decide)
    subst er
    have ha : (Kp379Neutral.natural a && (Kp379Neutral.natural b && (Kp379Neutral.natural c && (Kp379Neutral.natural d && (Kp379Neutral.natural e && (Kp379Neutral.natural f)))))) = true := ha
    simp only [Bool.and_eq_true] at ha
    obtain ⟨ha, hb, hc, hd, he, hf⟩ := ha
    rw [nat_of ha, nat_of hb, nat_of hc, nat_of hd, nat_of he, nat_of hf]
    exact ⟨_, .ifTurn _ _ _ _ _ _, rfl⟩
  | 19, _ =>
    obtain ⟨a, b, c, d, e, f, rfl⟩ := len6 (Option.some.inj (show some g.length = some 6 from hm.symm))
    have ha : (Kp379Neutral.natural a && (Kp379Neutral.natural b && (Kp379Neutral.natural c && (Kp379Neutral.natural d && (Kp379Neutral.natural e && (Kp379Neutral.natural f && (r.all Kp379Neutral.wide && decide (r.length ≤ 4)))))))) = true := ha
    simp only [Bool.and_eq_true, decide_eq_true_iff] at ha
    obtain ⟨ha, hb, hc, hd, he, hf, _, hl⟩ := ha
    rw [nat_of ha, nat_of hb, nat_of hc, nat_of hd, nat_of he, nat_of hf]
    exact ⟨_, .ifPay _ _ _ _ _ _ r (by omega), rfl⟩
end Sel

set_option maxRecDepth 100000
set_option maxHeartbeats 2000000
namespace Sel
open PySem PySem.Spec PyProof.Rows L2
/-! ### the whole line -/
def ansI (a : Kp379.Ans) : List Int := a.num :: a.nums
theorem ansV_eq (a : Kp379.Ans) : ansV a = (ansI a).map V.int := rfl
/-- one call more: the state, what's told -/
def turn1 (s : Kp379.State × List Int) (c : Kp379.Call) : Kp379.State × List Int := ((Kp379.step s.1 c).1, s.2 ++ (((ansI (Kp379.step s.1 c).2).length : Int) :: ansI (Kp379.step s.1 c).2))
def runs (l : List Kp379.Call) : Kp379.State × List Int := l.foldl turn1 (none, [])
theorem runs_more {l : List Kp379.Call} {i : Nat} {c : Kp379.Call} (h : l[i]? = some c) : runs (l.take (i + 1)) = turn1 (runs (l.take i)) c := by
  unfold runs
  rw [take_more h, List.foldl_append]
  rfl
theorem turn_grows : ∀ (l : List Kp379.Call) (s : Kp379.State × List Int), ∃ m, (l.foldl turn1 s).2 = s.2 ++ m
  | [], s => ⟨[], by simp⟩
  | c :: l, s => by
    obtain ⟨m, e⟩ := turn_grows l (turn1 s c)
    refine ⟨(((ansI (Kp379.step s.1 c).2).length : Int) :: ansI (Kp379.step s.1 c).2) ++ m, ?_⟩
    rw [List.foldl_cons, e, ← List.append_assoc]
    rfl
theorem runs_le (l : List Kp379.Call) (i : Nat) : (runs (l.take i)).2.length ≤ (runs l).2.length := by
  obtain ⟨m, e⟩ := turn_grows (l.drop i) (runs (l.take i))
  have h : runs l = (l.drop i).foldl turn1 (runs (l.take i)) := by
    unfold runs
    rw [← List.foldl_append, List.take_append_drop]
  rw [h, e, List.length_append]
  omega
/-- pairwise -/
inductive Both {α β : Type} (R : α → β → Prop) : List α → List β → Prop
  | nil : Both R [] []
  | cons {a : α} {b : β} {l : List α} {m : List β} : R a b → Both R l m → Both R (a :: l) (b :: m)
theorem Both.len {α β : Type} {R : α → β → Prop} {l : List α} {m : List β} (h : Both R l m) : l.length = m.length := by
  induction h with
  | nil => rfl
  | cons _ _ ih => rw [List.length_cons, List.length_cons, ih]
theorem Both.get {α β : Type} {R : α → β → Prop} {l : List α} {m : List β} (h : Both R l m) : ∀ {i : Nat} {a : α}, l[i]? = some a → ∃ b, m[i]? = some b ∧ R a b := by
  induction h with
  | nil => intro i a e; simp at e
  | @cons a0 b0 l0 m0 r _ ih =>
    intro i a e
    cases i with
    | zero =>
      have this : a0 = a := by simpa using e
      subst this
      exact ⟨_, rfl, r⟩
    | succ i => exact ih (by simpa using e)
/-- a call of the specification's, and what it means -/
def Same2 (c : List (List Int)) (kc : Kp379.Call) : Prop := Kp379Neutral.callOf (PyKp379.whole c) = some kc
theorem told_runs : ∀ {cs : List (List (List Int))} {kcs : List Kp379.Call}, Both Same2 cs kcs → ∀ (s : Kp379.State × List Int), s.2 ++ PyFlat.told (PyFlat.played Kp379Neutral.step s.1 (cs.map PyKp379.whole)) = (kcs.foldl turn1 s).2 := by
  intro cs kcs h
  induction h with
  | nil => intro s; exact List.append_nil _
  | @cons c kc l m r _ ih =>
    intro s
    have e : Kp379Neutral.step s.1 (PyKp379.whole c) = ((Kp379.step s.1 kc).1, ansI (Kp379.step s.1 kc).2) := by
      unfold Kp379Neutral.step
      rw [show Kp379Neutral.callOf (PyKp379.whole c) = some kc from r]
      rfl
    rw [List.foldl_cons, ← ih (turn1 s kc), List.map_cons]
    show s.2 ++ PyFlat.told ((Kp379Neutral.step s.1 (PyKp379.whole c)).2 :: PyFlat.played Kp379Neutral.step (Kp379Neutral.step s.1 (PyKp379.whole c)).1 (l.map PyKp379.whole)) = _
    rw [e]
    show s.2 ++ ((((ansI (Kp379.step s.1 kc).2).length : Int) :: ansI (Kp379.step s.1 kc).2) ++ PyFlat.told (PyFlat.played Kp379Neutral.step (Kp379.step s.1 kc).1 (l.map PyKp379.whole))) = _
    rw [← List.append_assoc]
    rfl
theorem both_of : ∀ {xs : List Raw}, (∀ x ∈ xs, RawOk x) → ((xs.map Raw.list).map PyKp379.whole).all Kp379Neutral.asked1 = true → ∃ kcs, Both Means xs kcs ∧ Both Same2 (xs.map Raw.list) kcs
  | [], _, _ => ⟨[], .nil, .nil⟩
  | x :: xs, ok, h => by
    rw [List.map_cons, List.map_cons, List.all_cons, Bool.and_eq_true] at h
    obtain ⟨kc, m, e⟩ := means_of (ok x (List.Mem.head _)) h.1
    obtain ⟨kcs, a, b⟩ := both_of (xs := xs) (fun y hy => ok y (List.Mem.tail _ hy)) h.2
    exact ⟨kc :: kcs, .cons m a, .cons e b⟩
/-- what's asked, what's due -/
theorem asked_of {ns : List Int} (h : PyKp379.answers_asked ns = true) : ∃ (xs : List Raw) (kcs : List Kp379.Call), ns = flats xs ∧ (∀ x ∈ xs, RawOk x) ∧ xs.length ≤ 60 ∧ Both Means xs kcs ∧ PyKp379.answers ns = (runs kcs).2 ∧ (runs kcs).2.length ≤ 10000000 := by
  unfold PyKp379.answers_asked at h
  cases e : PyFlat.calls PyKp379.shape ns.length ns with
  | none => rw [e] at h; cases h
  | some raw =>
    rw [e] at h
    simp only [Bool.and_eq_true] at h
    obtain ⟨⟨⟨⟨_, h60⟩, _⟩, hask⟩, hshort⟩ := h
    obtain ⟨e1, okc⟩ := PyFlat.put_calls _ _ _ e
    obtain ⟨xs, ok, el, ef⟩ := raws_of okc
    have hall : ((xs.map Raw.list).map PyKp379.whole).all Kp379Neutral.asked1 = true := by
      rw [el]
      unfold Kp379Neutral.asked at hask
      rw [Bool.and_eq_true, Bool.and_eq_true] at hask
      exact hask.2.2
    obtain ⟨kcs, b1, b2⟩ := both_of ok hall
    have ea : PyKp379.answers ns = (runs kcs).2 := by
      have e2 : PyKp379.calls ns = some (raw.map PyKp379.whole) := by
        unfold PyKp379.calls
        rw [e]
      unfold PyKp379.answers
      rw [e2]
      have t := told_runs b2 (none, [])
      rw [el] at t
      exact t
    refine ⟨xs, kcs, by rw [ef]; exact e1, ok, ?_, b1, ea, ?_⟩
    · have : xs.length = raw.length := by rw [← el, List.length_map]
      unfold PyFlat.atMost at h60
      have := of_decide_eq_true h60
      omega
    · unfold PyFlat.short at hshort
      have := of_decide_eq_true hshort
      rw [ea] at this
      exact this
section
variable {P : Program} {w : PySem.World} {K : PySem.W.Frag} {mg : Str → Option Value} {base : Heap} {CB CA CO CC : Addr}
/-- how one call is answered -/
def spCall (CB CA CC : Addr) : Sp := fun vs H Q _ => ∃ (b : Addr) (t : Trip) (st : Kp379.State) (L : Addr) (ls : List Addr) (as : List (List Trip)) (c : Raw) (kc : Kp379.Call) (e : Int), vs = [.ref b, .ref t.1] ∧ StAt CB CA H b st L ls as ∧ CallAt CC H t c.p c.g c.r e ∧ Means c kc ∧
  (∀ z, Fp b L ls as z → z ≠ t.1 ∧ z ≠ t.2.1 ∧ z ≠ t.2.2) ∧ Said CB CA b st kc L ls as H Q
def spAnswers (K : PySem.W.Frag) : Sp := fun vs H Q _ => ∃ (a : Addr) (ns : List Int), vs = [.ref a] ∧ SqL K H a (ns.map V.int) ∧ PyKp379.answers_asked ns = true ∧ ∀ (H' : Hp) (p : Addr), H' p = some (.lst ((PyKp379.answers ns).map V.int)) → Q (.ref p) H'
/-- the state's own addresses are all tracked -/
theorem StAt.tracked {H : Hp} {b : Addr} {st : Kp379.State} {L : Addr} {ls : List Addr} {as : List (List Trip)} (h : StAt CB CA H b st L ls as) {z : Addr} (hz : Fp b L ls as z) : H z ≠ none := by
  cases st with
  | none =>
    obtain ⟨⟨dx, h1⟩, h2, rfl, rfl⟩ := h
    rcases hz with rfl | rfl | hz | ⟨p, i, t, ht, _⟩
    · rw [h1]; simp
    · rw [h2]; simp
    · cases hz
    · unfold at2 at ht
      simp at ht
  | some wd =>
    have B : BoardAt CB CA H b wd L ls as := h
    rcases hz with rfl | rfl | hz | ⟨p, i, t, ht, hz⟩
    · obtain ⟨dx, h1⟩ := B.bd
      rw [h1]; simp
    · rw [B.ll]; simp
    · obtain ⟨p, hp⟩ := List.getElem?_of_mem hz
      rw [(B.pl p z hp).lst]; simp
    · obtain ⟨_, _, _, _, ⟨⟨dx, h1⟩, h2, h3⟩, _⟩ := B.get ht
      rcases hz with rfl | rfl | rfl
      · rw [h1]; simp
      · rw [h2]; simp
      · rw [h3]; simp
/-- the state stands wherever its addresses do -/
theorem StAt.keep {H H' : Hp} {b : Addr} {st : Kp379.State} {L : Addr} {ls : List Addr} {as : List (List Trip)} (h : StAt CB CA H b st L ls as) (k : ∀ z o, Fp b L ls as z → H z = some o → H' z = some o) : StAt CB CA H' b st L ls as := by
  cases st with
  | none =>
    obtain ⟨⟨dx, h1⟩, h2, h3⟩ := h
    exact ⟨⟨dx, k _ _ (.inl rfl) h1⟩, k _ _ (.inr (.inl rfl)) h2, h3⟩
  | some wd =>
    have B : BoardAt CB CA H b wd L ls as := h
    obtain ⟨dx, h1⟩ := B.bd
    refine ⟨⟨dx, k _ _ (.inl rfl) h1⟩, k _ _ (.inr (.inl rfl)) B.ll, B.nl, B.na, fun p l hl => ?_, B.nd, B.nL, B.inj, B.wf⟩
    have LA := B.pl p l hl
    refine ⟨k _ _ (.inr (.inr (.inl (List.mem_of_getElem? hl)))) LA.lst, LA.len, fun i t x ht hx => ?_⟩
    obtain ⟨⟨dt, q1⟩, q2, q3⟩ := LA.act i t x ht hx
    have ht2 : at2 as p i = some t := ht
    exact ⟨⟨dt, k _ _ (.inr (.inr (.inr ⟨p, i, t, ht2, .inl rfl⟩))) q1⟩, k _ _ (.inr (.inr (.inr ⟨p, i, t, ht2, .inr (.inl rfl)⟩))) q2, k _ _ (.inr (.inr (.inr ⟨p, i, t, ht2, .inr (.inr rfl)⟩))) q3⟩
theorem ok_answers {n : Nat} {f : Addr} {fd : FuncData} (F : Fun K "answers" "answers" s_answers f fd) (hlen : mg "len" = none) (hn : 4 ≤ n)
    (OB : OwnC P w K mg base "Board" CB 1 ["self"] (spBoardInit CB)) (O1 : Own P w K mg base "split_calls" 4 ["calls"] (spSplit K CC)) (O2 : Own P w K mg base "answer_call" n ["board", "call"] (spCall CB CA CC)) : FnOk P w K mg base CX0 (n + 1) f fd ["calls"] (spAnswers K) := by
  refine F.ok sc_answers (fun vs H Q E h => ?_) (fun cdv A outer s H vs Q E hr h => ?_)
  · obtain ⟨a, ns, rfl, _⟩ := h
    rfl
  · obtain ⟨a, ns, rfl, hS, hask, k⟩ := h
    obtain ⟨xs, kcs, rfl, ok, few, both, ea, big⟩ := asked_of hask
    rw [ea] at k
    have nd := sc_answers.nd
    refine ⟨_, pss_cons (ps_set (i := 1) nd rfl (Or.inl rfl) (pe_ownC0 OB (hr.mono (by omega))))
      (pss_cons (ps_set (i := 2) nd rfl (Or.inl rfl) (pe_lst pa_nil))
      (pss_cons (ps_for PassesOwn.never rfl (pi_list (pe_own O1 (hr.mono hn) (pa_cons (pv 0) pa_nil))) (pg_name (i := 3) nd rfl (Or.inl rfl))
        (pss_cons (ps_set (i := 4) nd rfl (Or.inl rfl) (pe_own O2 hr (pa_cons (pv 1) (pa_cons (pv 3) pa_nil))))
        (pss_cons (ps_expr (pe_bm PySem.F.plainAttrs_list PySem.F.slot_list_append PySem.F.type_list_append mt_append (pv 2) (pa_cons (pe_callB call_len_seq (by rfl) hlen PySem.boot_len (pa_cons (pv 4) pa_nil)) pa_nil)))
        (pss_one (ps_expr (pe_bm PySem.F.plainAttrs_list PySem.F.slot_list_extend PySem.F.type_list_extend mt_extend (pv 2) (pa_cons (pv 4) pa_nil)))))))
      (pss_one (ps_ret (pv 2))))), ?_⟩
    -- board = Board()
    intro b dx nb ndx nebd
    refine ⟨b, dx, rfl, upd_same, fun H1 L hL0 hL1 hb1 kp1 => ⟨rfl, ?_⟩⟩
    have s1 : Same H H1 := Same.made nb ndx kp1
    -- told = []
    refine ⟨Nat.zero_le _, fun r hr0 => ?_⟩
    have s2 : Same H1 (upd H1 r (.lst [])) := same_new hr0
    have rb : r ≠ b := fun e => by rw [e, hb1] at hr0; cases hr0
    have rL : r ≠ L := fun e => by rw [e, hL1] at hr0; cases hr0
    refine ⟨_, rfl, a, xs, rfl, (s1.trans s2).seq hS, ok, by omega, fun H3 q ts s3 hq0 hq1 CS fr => ?_⟩
    have hqr : q ≠ r := fun e => by rw [e, upd_same] at hq0; cases hq0
    have st0 : StAt CB CA H3 b none L [] [] := ⟨⟨dx, s3 _ _ (s2 _ _ hb1)⟩, s3 _ _ (s2 _ _ hL1), rfl, rfl⟩
    have fp0 : ∀ z, Fp b L [] [] z → upd H1 r (.lst []) z ≠ none ∧ z ≠ r := fun z hz => by
      rcases hz with rfl | rfl | hz | ⟨p, i, t, ht, _⟩
      · exact ⟨by rw [s2 _ _ hb1]; simp, fun e => rb e.symm⟩
      · exact ⟨by rw [s2 _ _ hL1]; simp, fun e => rL e.symm⟩
      · cases hz
      · unfold at2 at ht
        simp at ht
    have lenB := both.len
    refine ⟨q, rfl, ⟨_, SqL.of hq1⟩, for_list (K := K) (a := q) (xs := ts.map fun t => V.ref t.1) (fun i σ H' => ∃ (L : Addr) (ls : List Addr) (as : List (List Trip)) (v3 v4 : Option V), σ = [some (.ref a), some (.ref b), some (.ref r), v3, v4] ∧ StAt CB CA H' b (runs (kcs.take i)).1 L ls as ∧
        H' r = some (.lst ((runs (kcs.take i)).2.map V.int)) ∧ ¬ Fp b L ls as r ∧ H' q = some (.lst (ts.map fun t => V.ref t.1)) ∧ ¬ Fp b L ls as q ∧ CallsAt CC H' ts xs ∧ ∀ t ∈ ts, ∀ z, Fp b L ls as z → z ≠ t.1 ∧ z ≠ t.2.1 ∧ z ≠ t.2.2)
      ⟨L, [], [], none, none, rfl, st0, s3 _ _ upd_same, fun hz => (fp0 r hz).2 rfl, hq1, fun hz => (fp0 q hz).1 hq0, CS, fun t ht z hz => ?_⟩ (fun i σ H' _ h => ?_) ?_ ?_⟩
    · have f := fr t ht
      have z0 := (fp0 z hz).1
      exact ⟨fun e => z0 (by rw [e]; exact f.1), fun e => z0 (by rw [e]; exact f.2.1), fun e => z0 (by rw [e]; exact f.2.2)⟩
    · obtain ⟨_, _, _, _, _, _, _, _, _, h5, _⟩ := h
      exact SqL.of h5
    · rintro i y σ H' hi ⟨L, ls, as, v3, v4, rfl, ST, hr', nfr, hq', nfq, CS', nt⟩
      obtain ⟨t, ht, rfl⟩ : ∃ t, ts[i]? = some t ∧ y = V.ref t.1 := by
        rw [List.getElem?_map] at hi
        cases e : ts[i]? with
        | none => rw [e] at hi; cases hi
        | some t => rw [e] at hi; exact ⟨t, rfl, (Option.some.inj hi).symm⟩
      have hix : i < xs.length := by
        rw [← CS.len]
        exact (List.getElem?_eq_some_iff.mp ht).1
      have hx := List.getElem?_eq_getElem hix
      obtain ⟨kc, hkc, mean⟩ := both.get hx
      obtain ⟨e, CA1⟩ := CS'.at_ i t _ ht hx
      have step := runs_more hkc
      have tin := List.mem_of_getElem? ht
      refine ⟨_, rfl, _, rfl, b, t, _, L, ls, as, _, kc, e, rfl, ST, CA1, mean, nt t tin, fun H4 r4 L4 ls4 as4 ST4 F4 hr4 hans => ?_⟩
      have hr5 : H4 r = some (.lst ((runs (kcs.take i)).2.map V.int)) := F4.keep r _ hr' nfr
      have nr4 : r ≠ r4 := fun z => by rw [← z, hr'] at hr4; cases hr4
      have nfr4 : ¬ Fp b L4 ls4 as4 r := fun hz => by
        rcases F4.new r hz with h | h
        · exact nfr h
        · rw [hr'] at h; cases h
      have nfq4 : ¬ Fp b L4 ls4 as4 q := fun hz => by
        rcases F4.new q hz with h | h
        · exact nfq h
        · rw [hq'] at h; cases h
      have e1 : (runs (kcs.take (i + 1))).1 = (Kp379.step (runs (kcs.take i)).1 kc).1 := by rw [step]; rfl
      have e2 : (runs (kcs.take (i + 1))).2 = (runs (kcs.take i)).2 ++ (((ansI (Kp379.step (runs (kcs.take i)).1 kc).2).length : Int) :: ansI (Kp379.step (runs (kcs.take i)).1 kc).2) := by rw [step]; rfl
      have lim := runs_le kcs (i + 1)
      rw [e2, List.length_append, List.length_cons] at lim
      have s24 : (10000000 : Nat) < sizeLine := by decide
      rw [ansV_eq] at hans
      generalize ansI (Kp379.step (runs (kcs.take i)).1 kc).2 = an at *
      refine ⟨_, rfl, .inl ⟨rfl, _, SqL.of hr5⟩, _, rfl, r4, _, rfl, .inl (SqL.of hans), r, _, _, rfl, rfl, hr5, (by rw [List.length_map]; omega), ?_⟩
      rw [List.length_map]
      refine ⟨_, rfl, .inl ⟨rfl, _, SqL.of upd_same⟩, _, rfl, r, r4, _, _, rfl, rfl, upd_same, by rw [upd_ne (fun z => nr4 z.symm)]; exact hans, (by simp only [List.length_append, List.length_map, List.length_cons, List.length_nil]; omega), ?_⟩
      rw [upd_upd]
      refine ⟨L4, ls4, as4, _, _, rfl, ?_, ?_, nfr4, ?_, nfq4, ?_, fun t' ht' z hz => ?_⟩
      · rw [e1]
        exact ST4.keep fun z o hz ez => by
          rw [upd_ne (fun w => nfr4 (by rw [← w]; exact hz))]
          exact ez
      · rw [upd_same, e2, List.map_append, List.map_cons, List.append_assoc]
        rfl
      · rw [upd_ne hqr]
        exact F4.keep q _ hq' nfq
      · refine ⟨CS'.len, fun j t' c' ht' hc' => ?_⟩
        obtain ⟨e', ⟨d', q1⟩, q2, q3⟩ := CS'.at_ j t' c' ht' hc'
        have hm := List.mem_of_getElem? ht'
        have f := fr t' hm
        have n1 : t'.1 ≠ r := fun w => by have := f.1; rw [w, upd_same] at this; cases this
        have n2 : t'.2.1 ≠ r := fun w => by have := f.2.1; rw [w, upd_same] at this; cases this
        have n3 : t'.2.2 ≠ r := fun w => by have := f.2.2; rw [w, upd_same] at this; cases this
        exact ⟨e', ⟨d', by rw [upd_ne n1]; exact F4.keep _ _ q1 fun w => (nt t' hm _ w).1 rfl⟩, by rw [upd_ne n2]; exact F4.keep _ _ q2 fun w => (nt t' hm _ w).2.1 rfl, by rw [upd_ne n3]; exact F4.keep _ _ q3 fun w => (nt t' hm _ w).2.2 rfl⟩
      · rcases F4.new z hz with h | h
        · exact nt t' ht' z h
        · obtain ⟨j, hj⟩ := List.getElem?_of_mem ht'
          have hjx : j < xs.length := by
            rw [← CS.len]
            exact (List.getElem?_eq_some_iff.mp hj).1
          obtain ⟨e', ⟨d', q1⟩, q2, q3⟩ := CS'.at_ j t' _ hj (List.getElem?_eq_getElem hjx)
          exact ⟨fun w => (by rw [w, q1] at h; cases h), fun w => (by rw [w, q2] at h; cases h), fun w => (by rw [w, q3] at h; cases h)⟩
    · rintro σ H' ⟨L, ls, as, v3, v4, rfl, ST, hr', nfr, hq', nfq, CS', nt⟩
      refine ⟨_, rfl, k H' r ?_⟩
      rw [hr', List.length_map, CS.len, lenB, List.take_length]
end
end Sel

set_option maxRecDepth 100000
set_option maxHeartbeats 2000000
namespace Sel
open PySem PySem.Spec PyProof.Rows L2
section
variable {P : Program} {w : PySem.World} {K : PySem.W.Frag} {mg : Str → Option Value} {base : Heap} {CB CA CO CC : Addr}
/-- if call.number == z: .. -/
abbrev tNum (K : PySem.W.Frag) (z : Int) : TT := tTest (tOp rEq (tFld K (tVar 1) "number") (tC (.int z)))
theorem if_num {σ : L2.St} {H : Hp} {D : Ends} {A B : TS} {x ga ra : Addr} {p z e : Int} {dx : Addr} (T : Txt K CB CA CO CC) (hσ : σ[1]? = some (some (.ref x))) (h1 : H x = some (.ins CC dx (cF p ga ra e))) (hz : p = z) (h : A D σ H) : tIfS (tNum K z) A B D σ H := by
  refine ⟨_, hσ, x, CC, dx, _, _, rfl, h1, T.clC, T.nNumber, cF_number _ _ _ _, rfl, _, rfl, ?_⟩
  rw [hz]
  exact ifT (by simp) h
theorem if_not {σ : L2.St} {H : Hp} {D : Ends} {A B : TS} {x ga ra : Addr} {p z e : Int} {dx : Addr} (T : Txt K CB CA CO CC) (hσ : σ[1]? = some (some (.ref x))) (h1 : H x = some (.ins CC dx (cF p ga ra e))) (hz : p ≠ z) (h : B D σ H) : tIfS (tNum K z) A B D σ H := by
  refine ⟨_, hσ, x, CC, dx, _, _, rfl, h1, T.clC, T.nNumber, cF_number _ _ _ _, rfl, _, rfl, ?_⟩
  exact ifF (decide_eq_false (by intro q; injection q with q; exact hz q)) h
/-- a call of the board's acts -/
def spAboutActs (CB CA CC : Addr) : Sp := fun vs H Q _ => ∃ (b : Addr) (t : Trip) (wd : Kp379.World) (L : Addr) (ls : List Addr) (as : List (List Trip)) (c : Raw) (kc : Kp379.Call) (e : Int), vs = [.ref b, .ref t.1] ∧ BoardAt CB CA H b wd L ls as ∧ CallAt CC H t c.p c.g c.r e ∧ Means c kc ∧
  1 ≤ c.p ∧ c.p ≤ 6 ∧ Said CB CA b (some wd) kc L ls as H Q
theorem given_at {ns : List Int} {j : Nat} {z : Int} (h : ns[j]? = some z) : atI (ns.map V.int) (j : Int) = some (V.int z) := at_of (j := j) rfl (by rw [List.getElem?_map, h]; rfl)
theorem ok_answer_about_acts {f : Addr} {fd : FuncData} (F : Fun K "answer_about_acts" "answer_about_acts" s_answer_about_acts f fd) (T : Txt K CB CA CO CC) (h1 : IntC mg "ACT" 1) (h2 : IntC mg "UNACT" 2) (h3 : IntC mg "TURN" 3) (h4 : IntC mg "LOCK" 4) (h5 : IntC mg "ACTIS" 5)
    (O1 : Own P w K mg base "answer_act" 3 ["board", "place", "row"] (spAct K CB CA)) (O2 : Own P w K mg base "answer_unact" 3 ["board", "place", "number"] (spA CB CA mkUnact)) (O3 : Own P w K mg base "answer_turn" 3 ["board", "place", "number", "into"] (spA CB CA mkTurn))
    (O4 : Own P w K mg base "answer_lock" 3 ["board", "place", "number", "locks"] (spA CB CA mkLock)) (O5 : Own P w K mg base "answer_actis" 3 ["board", "place", "number"] (spA CB CA mkActis)) (O6 : Own P w K mg base "answer_acts" 2 ["board", "place"] (spA CB CA mkActs)) :
    FnOk P w K mg base CX0 4 f fd ["board", "call"] (spAboutActs CB CA CC) := by
  refine F.ok sc_answer_about_acts (fun vs H Q E h => ?_) (fun cdv A outer s H vs Q E hr h => ?_)
  · obtain ⟨b, t, wd, L, ls, as, c, kc, e, rfl, _⟩ := h
    rfl
  · obtain ⟨b, t, wd, L, ls, as, c, kc, e, rfl, B, CL, mean, lo, hi, k⟩ := h
    have nd := sc_answer_about_acts.nd
    have hr2 : Room 2 _ := hr.mono (by decide)
    refine ⟨_, pss_cons (ps_set (i := 2) nd rfl (Or.inl rfl) (pe_fld (pv 1) rfl))
      (pss_cons (ps_if (pt_cmpR op_eq (pe_fld (pv 1) rfl) (pe_intC h1) (nomark _)) (pss_one (ps_ret (pe_own O1 hr (pa_cons (pv 0) (pa_cons (pe_ix ix_list (pv 2) pe_int (fun _ _ => rfl)) (pa_cons (pe_fld (pv 1) rfl) pa_nil)))))) pss_nil)
      (pss_cons (ps_if (pt_cmpR op_eq (pe_fld (pv 1) rfl) (pe_intC h2) (nomark _)) (pss_one (ps_ret (pe_own O2 hr (pa_cons (pv 0) (pa_cons (pe_ix ix_list (pv 2) pe_int (fun _ _ => rfl)) (pa_cons (pe_ix ix_list (pv 2) pe_int (fun _ _ => rfl)) pa_nil)))))) pss_nil)
      (pss_cons (ps_if (pt_cmpR op_eq (pe_fld (pv 1) rfl) (pe_intC h3) (nomark _)) (pss_one (ps_ret (pe_own O3 hr (pa_cons (pv 0) (pa_cons (pe_ix ix_list (pv 2) pe_int (fun _ _ => rfl)) (pa_cons (pe_ix ix_list (pv 2) pe_int (fun _ _ => rfl)) (pa_cons (pe_ix ix_list (pv 2) pe_int (fun _ _ => rfl)) pa_nil))))))) pss_nil)
      (pss_cons (ps_if (pt_cmpR op_eq (pe_fld (pv 1) rfl) (pe_intC h4) (nomark _)) (pss_one (ps_ret (pe_own O4 hr (pa_cons (pv 0) (pa_cons (pe_ix ix_list (pv 2) pe_int (fun _ _ => rfl)) (pa_cons (pe_ix ix_list (pv 2) pe_int (fun _ _ => rfl)) (pa_cons (pe_ix ix_list (pv 2) pe_int (fun _ _ => rfl)) pa_nil))))))) pss_nil)
      (pss_cons (ps_if (pt_cmpR op_eq (pe_fld (pv 1) rfl) (pe_intC h5) (nomark _)) (pss_one (ps_ret (pe_own O5 hr (pa_cons (pv 0) (pa_cons (pe_ix ix_list (pv 2) pe_int (fun _ _ => rfl)) (pa_cons (pe_ix ix_list (pv 2) pe_int (fun _ _ => rfl)) pa_nil)))))) pss_nil)
      (pss_one (ps_ret (pe_own O6 hr2 (pa_cons (pv 0) (pa_cons (pe_ix ix_list (pv 2) pe_int (fun _ _ => rfl)) pa_nil)))))))))), ?_⟩
    obtain ⟨⟨dx, c1⟩, c2, c3⟩ := CL
    refine ⟨_, rfl, t.1, CC, dx, _, _, rfl, c1, T.clC, T.nGiven, cF_given _ _ _ _, ?_⟩
    cases mean with
    | act a l hl =>
      refine if_num T rfl c1 rfl ?_
      exact ⟨_, rfl, _, rfl, t.2.1, _, _, _, rfl, rfl, SqL.of c2, given_at (j := 0) rfl, _, rfl, t.1, CC, dx, _, _, rfl, c1, T.clC, T.nRow, cF_row _ _ _ _, b, t.2.2, wd, L, ls, as, a, l, rfl, SqL.of c3, by omega, B, k⟩
    | unact a b' =>
      refine if_not T rfl c1 (by show (2 : Int) ≠ 1; decide) (if_num T rfl c1 rfl ?_)
      exact ⟨_, rfl, _, rfl, t.2.1, _, _, _, rfl, rfl, SqL.of c2, given_at (j := 0) rfl, _, rfl, t.2.1, _, _, _, rfl, rfl, SqL.of c2, given_at (j := 1) rfl, b, wd, L, ls, as, [a, b'], _, rfl, rfl, B, k⟩
    | turn a b' c' =>
      refine if_not T rfl c1 (by show (3 : Int) ≠ 1; decide) (if_not T rfl c1 (by show (3 : Int) ≠ 2; decide) (if_num T rfl c1 rfl ?_))
      exact ⟨_, rfl, _, rfl, t.2.1, _, _, _, rfl, rfl, SqL.of c2, given_at (j := 0) rfl, _, rfl, t.2.1, _, _, _, rfl, rfl, SqL.of c2, given_at (j := 1) rfl, _, rfl, t.2.1, _, _, _, rfl, rfl, SqL.of c2, given_at (j := 2) rfl, b, wd, L, ls, as, [a, b', c'], _, rfl, rfl, B, k⟩
    | lock a b' c' =>
      refine if_not T rfl c1 (by show (4 : Int) ≠ 1; decide) (if_not T rfl c1 (by show (4 : Int) ≠ 2; decide) (if_not T rfl c1 (by show (4 : Int) ≠ 3; decide) (if_num T rfl c1 rfl ?_)))
      exact ⟨_, rfl, _, rfl, t.2.1, _, _, _, rfl, rfl, SqL.of c2, given_at (j := 0) rfl, _, rfl, t.2.1, _, _, _, rfl, rfl, SqL.of c2, given_at (j := 1) rfl, _, rfl, t.2.1, _, _, _, rfl, rfl, SqL.of c2, given_at (j := 2) rfl, b, wd, L, ls, as, [a, b', c'], _, rfl, rfl, B, k⟩
    | actIs a b' =>
      refine if_not T rfl c1 (by show (5 : Int) ≠ 1; decide) (if_not T rfl c1 (by show (5 : Int) ≠ 2; decide) (if_not T rfl c1 (by show (5 : Int) ≠ 3; decide) (if_not T rfl c1 (by show (5 : Int) ≠ 4; decide) (if_num T rfl c1 rfl ?_))))
      exact ⟨_, rfl, _, rfl, t.2.1, _, _, _, rfl, rfl, SqL.of c2, given_at (j := 0) rfl, _, rfl, t.2.1, _, _, _, rfl, rfl, SqL.of c2, given_at (j := 1) rfl, b, wd, L, ls, as, [a, b'], _, rfl, rfl, B, k⟩
    | acts a =>
      refine if_not T rfl c1 (by show (6 : Int) ≠ 1; decide) (if_not T rfl c1 (by show (6 : Int) ≠ 2; decide) (if_not T rfl c1 (by show (6 : Int) ≠ 3; decide) (if_not T rfl c1 (by show (6 : Int) ≠ 4; decide) (if_not T rfl c1 (by show (6 : Int) ≠ 5; decide) ?_))))
      exact ⟨_, rfl, _, rfl, t.2.1, _, _, _, rfl, rfl, SqL.of c2, given_at (j := 0) rfl, b, wd, L, ls, as, [a], _, rfl, rfl, B, k⟩
    | begin_ _ _ => exact absurd lo (by show ¬ ((1 : Int) ≤ 0); decide)
    | does _ _ _ _ => exact absurd hi (by show ¬ ((7 : Int) ≤ 6); decide)
    | bests _ _ _ _ => exact absurd hi (by show ¬ ((8 : Int) ≤ 6); decide)
    | worth _ _ _ _ _ => exact absurd hi (by show ¬ ((9 : Int) ≤ 6); decide)
    | brings _ _ _ _ _ _ => exact absurd hi (by show ¬ ((10 : Int) ≤ 6); decide)
    | lights _ _ _ _ => exact absurd hi (by show ¬ ((11 : Int) ≤ 6); decide)
    | ideal _ _ _ => exact absurd hi (by show ¬ ((12 : Int) ≤ 6); decide)
    | short _ _ _ _ => exact absurd hi (by show ¬ ((13 : Int) ≤ 6); decide)
    | after _ _ _ _ => exact absurd hi (by show ¬ ((14 : Int) ≤ 6); decide)
    | selves _ _ _ _ => exact absurd hi (by show ¬ ((15 : Int) ≤ 6); decide)
    | turns _ _ => exact absurd hi (by show ¬ ((16 : Int) ≤ 6); decide)
    | never _ _ => exact absurd hi (by show ¬ ((17 : Int) ≤ 6); decide)
    | ifTurn _ _ _ _ _ _ => exact absurd hi (by show ¬ ((18 : Int) ≤ 6); decide)
    | ifPay _ _ _ _ _ _ _ _ => exact absurd hi (by show ¬ ((19 : Int) ≤ 6); decide)
end
end Sel

set_option maxRecDepth 100000
set_option maxHeartbeats 2000000
/-! What the top has written, def by def. -/
namespace Sel
open PySem PySem.Spec PyProof.Rows L2
structure FunOf (K : PySem.W.Frag) (mg : Str → Option Value) (x : Str) (st : Stmt) : Prop where
  ex : ∃ f fd, mg x = some (.ref f) ∧ Fun K x x st f fd
theorem funOf_mk {K : PySem.W.Frag} {h : Heap} {mg : Str → Option Value} {x : Str} {st : Stmt} {f : Addr} {od an : Option Addr} {sl : Array (Option Value)} {oc kV dc pm cd ct : Value} (X : K.In h) (G : h.Ns mainGlobals mg) (a : PySem.W.nsIn K mainGlobals x = some (some (.ref f)))
    (l : K.lookup f = some ⟨oc, od, .func (PySem.W.fnOf x x (defArgs st) (defBody st) (defScope st) .none kV dc pm an cd ct), sl⟩) (c : PySem.W.codeIn K cd x = true) (k : PySem.W.keepIn K (.ref f) = true) : FunOf K mg x st :=
  ⟨f, _, PySem.W.mg_of X G a, fun_mk (st := st) l c k⟩
theorem FunOf.own {P : Program} {w : PySem.World} {K : PySem.W.Frag} {mg : Str → Option Value} {base : Heap} {x : Str} {st : Stmt} {k : Nat} {ps : List Str} {sp : Sp} (F : FunOf K mg x st)
    (h : ∀ (kV doc pm : Value) (an : Option Addr) (cdv ct : Value) (us : List Value), us.length = ps.length → bindArgs (PySem.W.fnOf x x (defArgs st) (defBody st) (defScope st) .none kV doc pm an cdv ct) ⟨us, []⟩ = pure (ps.zip us))
    (ok : ∀ f fd, Fun K x x st f fd → FnOk P w K mg base CX0 k f fd ps sp) : Own P w K mg base x k ps sp := by
  obtain ⟨f, fd, hm, F⟩ := F.ex
  exact ⟨f, fd, hm, ok f fd F, F.kp, F.binds h⟩
/-- a class: its place, its __init__ -/
structure ClsOf (K : PySem.W.Frag) (mg : Str → Option Value) (x q : Str) (st : Stmt) (C : Addr) : Prop where
  cl : Cls K C
  ex : ∃ f fd, Mk K C f ∧ mg x = some (.ref C) ∧ Fun K "__init__" q st f fd
theorem clsOf_mk {K : PySem.W.Frag} {h : Heap} {mg : Str → Option Value} {x q : Str} {st : Stmt} {f C : Addr} {od an : Option Addr} {sl : Array (Option Value)} {oc kV dc pm cd ct : Value} (X : K.In h) (G : h.Ns mainGlobals mg) (aC : PySem.W.nsIn K mainGlobals x = some (some (.ref C)))
    (a : PySem.W.findIn K (.ref C) "__init__" = some (some (.ref f))) (i : PySem.W.isFn K (.ref f) = true) (l : K.lookup f = some ⟨oc, od, .func (PySem.W.fnOf "__init__" q (defArgs st) (defBody st) (defScope st) .none kV dc pm an cd ct), sl⟩) (c : PySem.W.codeIn K cd q = true) (k : PySem.W.keepIn K (.ref f) = true)
    (pg : PySem.W.plainGet K C Str.empty = true) (hd : PySem.W.hasDictIn K C = true) (po : PySem.W.plainOver K C = true) (sa : PySem.W.findIn K (.ref C) "__setattr__" = some (some (.builtin "object.__setattr__"))) (mk : PySem.W.makesIn K C = true) (kc : PySem.W.keepIn K (.ref C) = true) : ClsOf K mg x q st C :=
  ⟨⟨pg, hd, po, sa⟩, f, _, ⟨mk, a, i, kc⟩, PySem.W.mg_of X G aC, fun_mk (st := st) l c k⟩
theorem ClsOf.own {P : Program} {w : PySem.World} {K : PySem.W.Frag} {mg : Str → Option Value} {base : Heap} {x q : Str} {st : Stmt} {C : Addr} {k : Nat} {ps : List Str} {sp : Sp} (F : ClsOf K mg x q st C)
    (h : ∀ (kV doc pm : Value) (an : Option Addr) (cdv ct : Value) (us : List Value), us.length = ps.length → bindArgs (PySem.W.fnOf "__init__" q (defArgs st) (defBody st) (defScope st) .none kV doc pm an cdv ct) ⟨us, []⟩ = pure (ps.zip us))
    (ok : ∀ f fd, Fun K "__init__" q st f fd → FnOk P w K mg base CX0 k f fd ps sp) : OwnC P w K mg base x C k ps sp := by
  obtain ⟨f, fd, M, hm, F⟩ := F.ex
  exact ⟨f, fd, M, hm, ok f fd F, F.binds h⟩
theorem intC_mk {K : PySem.W.Frag} {h : Heap} {mg : Str → Option Value} {x : Str} {z : Int} {t : Tok} (X : K.In h) (G : h.Ns mainGlobals mg) (a : PySem.W.nsIn K mainGlobals x = some (some (.int z t))) : IntC mg x z := ⟨t, PySem.W.mg_of X G a⟩
theorem tupC_mk {K : PySem.W.Frag} {h : Heap} {mg : Str → Option Value} {x : Str} {ns : List Nat} {q : Addr} {o : Obj} {its : Array Value} {n : Nat} (X : K.In h) (G : h.Ns mainGlobals mg) (a : PySem.W.nsIn K mainGlobals x = some (some (.ref q))) (l : K.lookup q = some o) (h1 : o.cls = .type "tuple") (h2 : o.data = .seq its n)
    (h3 : its.size ≤ sizeLine) (h4 : Vals (nums ns) its.toList) : TupC K mg x ns := ⟨q, PySem.W.mg_of X G a, fun _ => .inr ⟨o, its, n, l, h1, h2, h3, h4⟩⟩
theorem finish {K : PySem.W.Frag} {mg : Str → Option Value} {P : Program} {w : PySem.World} {fa : Addr} {k : Nat} (hfa : mg "answers" = some (.ref fa)) (F : FunOf K mg "answers" s_answers)
    (ok : ∀ (base : Heap) f fd, Fun K "answers" "answers" s_answers f fd → FnOk P w K mg base CX0 k f fd ["calls"] (spAnswers K)) :
    ∃ fd : FuncData, (∀ (s : Shared) (us : List Value), us.length = (["calls"] : List Str).length → BindsTo s fd ⟨us, []⟩ ((["calls"] : List Str).zip us)) ∧ ∀ base : Heap, K.In base → base.Ns mainGlobals mg → FnOk P w K mg base CX0 k fa fd ["calls"] (spAnswers K) := by
  obtain ⟨f, fd, hm, F⟩ := F.ex
  have e := hfa.symm.trans hm
  cases e
  refine ⟨fd, fun s us hu => ?_, fun base _ _ => ok base fa fd F⟩
  obtain ⟨_, _, _, _, _, _, _, _, _, rfl, _, _⟩ := F.ex
  match us, hu with
  | [_], _ => exact .of_eq rfl
end Sel

set_option maxRecDepth 100000
set_option maxHeartbeats 2000000
namespace Sel
open PySem PySem.Spec PyProof.Rows L2
open Kp379 (actsAt actAt Stand stands setActs setAct ofStand)
/-! ### ideals -/
structure TxtI (K : PySem.W.Frag) (CI : Addr) : Prop where
  cl : Cls K CI
  nScale : NoAttr K CI "scale"
  nAmounts : NoAttr K CI "amounts"
def iF (S : Int) (D : Addr) : List (Str × V) := [("scale", .int S), ("amounts", .ref D)]
theorem iF_scale (S : Int) (D : Addr) : (iF S D).lookup ("scale" : Str) = some (.int S) := lk_here
theorem iF_amounts (S : Int) (D : Addr) : (iF S D).lookup ("amounts" : Str) = some (.ref D) := (lk_past (by decide +kernel)).trans lk_here
theorem iF_new (S : Int) (D : Addr) : putF "amounts" (.ref D) (putF "scale" (.int S) []) = iF S D := (put_past (by decide +kernel)).trans rfl
def IdlAt (CI : Addr) (H : Hp) (o : Addr) (S : Int) (xs : List Int) : Prop := ∃ dx D, H o = some (.ins CI dx (iF S D)) ∧ H D = some (.lst (xs.map V.int))
theorem IdlAt.same {CI : Addr} {H H' : Hp} {o : Addr} {S : Int} {xs : List Int} (s : Same H H') (h : IdlAt CI H o S xs) : IdlAt CI H' o S xs := by
  obtain ⟨dx, D, a, b⟩ := h
  exact ⟨dx, D, s _ _ a, s _ _ b⟩
section
variable {P : Program} {w : PySem.World} {K : PySem.W.Frag} {mg : Str → Option Value} {base : Heap} {CB CA CO CC CI : Addr}
def spIdlInit (CI : Addr) : Sp := fun vs H Q _ => ∃ (p dx D : Addr) (S : Int), vs = [.ref p, .int S, .ref D] ∧ H p = some (.ins CI dx []) ∧
  ∀ H' : Hp, H' p = some (.ins CI dx (iF S D)) → (∀ b o, H b = some o → b ≠ p → H' b = some o) → Q .non H'
theorem ok_Ideals_init {f : Addr} {fd : FuncData} (F : Fun K "__init__" "Ideals.__init__" s_Ideals_init f fd) (TI : TxtI K CI) : FnOk P w K mg base CX0 1 f fd ["self", "scale", "amounts"] (spIdlInit CI) := by
  refine F.ok sc_Ideals_init (fun vs H Q E h => ?_) (fun cdv A outer s H vs Q E hr h => ?_)
  · obtain ⟨p, dx, D, S, rfl, _⟩ := h
    rfl
  · obtain ⟨p, dx, D, S, rfl, hp, k⟩ := h
    refine ⟨_, pss_cons (ps_fld (pv 0) (pv 1) rfl) (pss_one (ps_fld (pv 0) (pv 2) rfl)), ?_⟩
    refine ⟨_, rfl, _, rfl, p, CI, dx, [], rfl, hp, TI.cl, TI.nScale, (by show 0 < 1000; decide), ?_⟩
    refine ⟨_, rfl, _, rfl, p, CI, dx, _, rfl, upd_same, TI.cl, TI.nAmounts, (by show 1 < 1000; decide), ?_⟩
    exact k _ (Eq.trans upd_same (congrArg (fun q => some (HO.ins CI dx q)) (iF_new S D))) fun b o e hb => by
      rw [upd_ne hb, upd_ne hb]
      exact e
def spIdealB (CA CI : Addr) : Sp := fun vs H Q _ => ∃ (t : Trip) (x : Kp379.Act) (o : Addr) (n v u : Nat) (S : Int) (Y : Nat → Int), vs = [.ref t.1, .int (u : Int), .ref o] ∧ ActAt CA H t x ∧ IdlAt CI H o S ((List.range n).map Y) ∧ ActOk n v x ∧ n ≤ 4 ∧ u < v ∧
  ∀ H', Same H H' → Q (.int (x.pays.getD u 0 * PARTS * S + meanI n x Y)) H'
theorem ok_ideally_brought {f : Addr} {fd : FuncData} (F : Fun K "ideally_brought" "ideally_brought" s_ideally_brought f fd) (T : Txt K CB CA CO CC) (TI : TxtI K CI) (hsum : mg "sum" = none) (henum : mg "enumerate" = none) (hP : IntC mg "PARTS" PARTS) :
    FnOk P w K mg base CX0 1 f fd ["act", "light", "later"] (spIdealB CA CI) := by
  refine F.ok sc_ideally_brought (fun vs H Q E h => ?_) (fun cdv A outer s H vs Q E hr h => ?_)
  · obtain ⟨t, x, o, n, v, u, S, Y, rfl, _⟩ := h
    rfl
  · obtain ⟨t, x, o, n, v, u, S, Y, rfl, HA, HI, ok, hn, hu, k⟩ := h
    have nd := sc_ideally_brought.nd
    refine ⟨_, pss_cons (ps_set (i := 3) nd rfl (Or.inl rfl) (pe_op op_fdivN (pe_intC hP) (pe_callB (cr_sum rfl) (by rfl) hsum (by decide +kernel) (pa_cons (pe_fld (pv 0) rfl) pa_nil))))
      (pss_cons (ps_set (i := 4) nd rfl (Or.inl rfl) (pe_op op_mul (pe_op op_mul (pe_ix ix_list (pe_fld (pv 0) rfl) (pv 1) (fun _ _ => rfl)) (pe_intC hP)) (pe_fld (pv 2) rfl)))
      (pss_cons (ps_for PassesOwn.never rfl (pi_enum (by rfl) henum (pa_cons (pe_fld (pv 0) rfl) pa_nil)) (pg_tup rfl (pgs_cons (pg_name (i := 5) nd rfl (Or.inl rfl)) (pgs_cons (pg_name (i := 6) nd rfl (Or.inl rfl)) pgs_nil)))
        (pss_one (ps_aug (i := 4) nd rfl (Or.inl rfl) (pe_op op_mul (pe_op op_mul (pv 6) (pv 3)) (pe_ix ix_list (pe_fld (pv 2) rfl) (pv 5) (fun _ _ => rfl))) ip_add)))
      (pss_one (ps_ret (pv 4))))), ?_⟩
    obtain ⟨⟨dx, h1⟩, hpa, hwa⟩ := id HA
    obtain ⟨dxo, D, ho, hD⟩ := id HI
    have hsumE : (x.to.map fun (n : Nat) => (n : Int)).sum = (Kp346.total x.to : Int) := (total_sum x.to).symm
    have t0 := ok.t0
    have t36 := ok.tot hn
    refine ⟨_, rfl, t.1, CA, dx, _, _, rfl, h1, T.clA, T.nWeights, aF_weights _ _ _ _, t.2.2, _, rfl, SqL.of (by rw [hwa, nums_eq]), _, _, rfl, rfl, ?_, ?_⟩
    · rw [hsumE]
      exact ⟨by omega, by omega⟩
    have eS : PARTS.fdiv (x.to.map fun (n : Nat) => (n : Int)).sum = shareI x := by
      rw [hsumE, Int.fdiv_eq_ediv_of_nonneg _ (by omega)]
      rfl
    have hpl : u < x.pays.length := by rw [ok.pl]; exact hu
    have epay : (x.pays.map V.int)[u]? = some (V.int (x.pays.getD u 0)) := by
      rw [List.getElem?_map, List.getD_eq_getElem?_getD, List.getElem?_eq_getElem hpl]
      rfl
    have pb : -9 ≤ x.pays.getD u 0 ∧ x.pays.getD u 0 ≤ 9 := by
      rw [List.getD_eq_getElem?_getD, List.getElem?_eq_getElem hpl]
      exact ok.pb _ (List.getElem_mem _)
    refine ⟨_, rfl, t.1, CA, dx, _, _, rfl, h1, T.clA, T.nPays, aF_pays _ _ _ _, _, rfl, t.2.1, _, _, _, rfl, rfl, SqL.of hpa, at_of (j := u) rfl epay, _, _, rfl, rfl, .inl ⟨by omega, by omega⟩,
      _, rfl, o, CI, dxo, _, _, rfl, ho, TI.cl, TI.nScale, iF_scale _ _, _, _, rfl, rfl, .inl (small_mul pb.1 pb.2), ?_⟩
    refine ⟨_, rfl, t.1, CA, dx, _, _, rfl, h1, T.clA, T.nWeights, aF_weights _ _ _ _, t.2.2, _, rfl, SqL.of hwa, ?_⟩
    have nl : (nums x.to).length = n := by
      unfold nums
      rw [List.length_map, ok.tl]
    refine for_it (walk_enum (K := K) (a := t.2.2) (xs := nums x.to)) (fun i σ H' => Same H H' ∧ ∃ v5 v6 : Option V, σ = [some (.ref t.1), some (.int (u : Int)), some (.ref o), some (.int (shareI x)),
        some (.int (x.pays.getD u 0 * PARTS * S + ((List.range i).map fun q => ((x.to.getD q 0 : Nat) : Int) * shareI x * Y q).sum)), v5, v6])
      ⟨Same.refl _, none, none, by rw [← eS, List.range_zero, List.map_nil, List.sum_nil, Int.add_zero]; rfl⟩ (fun i σ H' _ h => SqL.of (h.1 _ _ hwa)) ?_ ?_
    · rintro i y σ H1 H2 hi ⟨s1, v5, v6, rfl⟩ ⟨tp, a1, b1, rfl, ntp, rfl, ea, eb⟩
      have ea' : V.int (i : Int) = a1 := Option.some.inj ea
      subst ea'
      have hi' : i < n := by rw [← nl]; exact hi
      have hil : i < x.to.length := by rw [ok.tl]; exact hi'
      have eb' : b1 = V.int ((x.to.getD i 0 : Nat) : Int) := Option.some.inj (eb.symm.trans (nums_get hil))
      subst eb'
      have s2 : Same H (upd H1 tp (.tup [V.int (i : Int), V.int ((x.to.getD i 0 : Nat) : Int)])) := s1.trans (same_new ntp)
      obtain ⟨b0, b1, b9⟩ := share_bound ok hi'
      refine ⟨tp, _, rfl, SqT.of upd_same, rfl, _, _, rfl, _, _, rfl, rfl, ?_⟩
      refine ⟨_, rfl, _, rfl, _, rfl, _, _, rfl, rfl, .inl ⟨by omega, by omega⟩, ?_⟩
      refine ⟨_, rfl, o, CI, dxo, _, _, rfl, s2 _ _ ho, TI.cl, TI.nAmounts, iF_amounts _ _, _, rfl, D, _, _, _, rfl, rfl, SqL.of (s2 _ _ hD), at_of (j := i) (v := V.int (Y i)) rfl (by rw [List.getElem?_map, List.getElem?_map, range_get hi']; rfl), _, _, rfl, rfl, .inl ⟨by omega, b1⟩, _, _, rfl, rfl, s2, some (.int (i : Int)), some (.int ((x.to.getD i 0 : Nat) : Int)), ?_⟩
      rw [List.range_succ, List.map_append, List.map_cons, List.map_nil, sum_snoc, ← Int.add_assoc]
      rfl
    · rintro σ H1 ⟨s1, v5, v6, rfl⟩
      rw [nl]
      exact ⟨_, rfl, k H1 s1⟩
def spMost (CA CI : Addr) : Sp := fun vs H Q _ => ∃ (l : Addr) (ts : List Trip) (xs : List Kp379.Act) (o : Addr) (n v u : Nat) (S : Int) (Y : Nat → Int), vs = [.ref l, .int (u : Int), .ref o] ∧ ListAt CA H l ts xs ∧ xs.length ≤ 3 ∧ (∀ x ∈ xs, ActOk n v x) ∧ IdlAt CI H o S ((List.range n).map Y) ∧ n ≤ 4 ∧ u < v ∧
  ∀ H', Same H H' → Q (.int (mostI n S u Y xs)) H'
theorem ok_most_brought {f : Addr} {fd : FuncData} (F : Fun K "most_brought" "most_brought" s_most_brought f fd) (hmax : mg "max" = none)
    (O1 : Own P w K mg base "ideally_brought" 1 ["act", "light", "later"] (spIdealB CA CI)) : FnOk P w K mg base CX0 2 f fd ["acts", "light", "later"] (spMost CA CI) := by
  refine F.ok sc_most_brought (fun vs H Q E h => ?_) (fun cdv A outer s H vs Q E hr h => ?_)
  · obtain ⟨l, ts, xs, o, n, v, u, S, Y, rfl, _⟩ := h
    rfl
  · obtain ⟨l, ts, xs, o, n, v, u, S, Y, rfl, LA, few, ok, HI, hn, hu, k⟩ := h
    have nd := sc_most_brought.nd
    refine ⟨_, pss_one (ps_ret (pe_callBK (cr_maxD (hu_of hr) rfl) (by rfl) hmax (by decide +kernel) (pa_cons (pe_lc (own := [("act", 3)]) (g := gName 3) (tt := tYes) rfl nd (pi_list (pv 0))
      (blkOk_by (N := n_most_brought) (sc := defScope s_most_brought) (by decide +kernel)) (fun _ _ _ _ _ => pg_name (i := 3) nd rfl (Or.inl rfl)) (fun _ _ _ _ _ => pts_nil)
      (fun _ _ _ _ _ => pe_own O1 hr (pa_cons (pv 3) (pa_cons (pv 1) (pa_cons (pv 2) pa_nil))))) pa_nil) (pk_cons pe_int pk_nil))), ?_⟩
    refine ⟨_, rfl, l, rfl, ⟨_, SqL.of LA.lst⟩, fun D hD => ?_⟩
    have rl : (idealRow n S u Y xs).length = xs.length := by
      unfold idealRow
      rw [List.length_map]
    refine lc_list (K := K) (a := l) (xs := ts.map fun t => V.ref t.1) (fun i H' => Same H H' ∧ H' D = some (.lst (((idealRow n S u Y xs).take i).map V.int))) ⟨same_new hD, upd_same⟩ (fun i H' _ h => SqL.of (h.1 _ _ LA.lst)) ?_ ?_
    · rintro i y H' hi ⟨s1, hD1⟩
      obtain ⟨t, ht, rfl⟩ := map_ref hi
      have hil : i < xs.length := by
        rw [← LA.len]
        exact (List.getElem?_eq_some_iff.mp ht).1
      have hx := List.getElem?_eq_getElem hil
      refine ⟨rfl, yesT ?_⟩
      refine ⟨_, rfl, _, rfl, _, rfl, t, _, o, n, v, u, S, Y, rfl, (LA.act i t _ ht hx).same s1, HI.same s1, ok _ (List.getElem_mem hil), hn, hu, fun H2 s2 => ?_⟩
      refine ⟨_, s2 _ _ hD1, (by rw [List.length_map, List.length_take]; exact Nat.lt_of_le_of_lt (Nat.le_trans (Nat.min_le_right _ _) (show _ ≤ 3 by omega)) (by decide)), ?_, ?_⟩
      · intro c u e
        rw [upd_ne (ne_of_none e hD)]
        exact s2 _ _ (s1 _ _ e)
      · have hx2 : (idealRow n S u Y xs)[i]? = some (xs[i].pays.getD u 0 * PARTS * S + meanI n xs[i] Y) := by
          unfold idealRow
          rw [List.getElem?_map, hx]
          rfl
        rw [upd_same, take_more hx2, List.map_append]
        rfl
    · rintro H' ⟨s1, hD1⟩
      rw [List.length_map, LA.len, List.take_of_length_le (by omega)] at hD1
      have k' := k H' s1
      unfold mostI at k'
      refine ⟨D, _, _, rfl, rfl, SqL.of hD1, fun hnil => ?_, fun m hne hm hle => ?_⟩
      · have : xs = [] := by
          unfold idealRow at hnil
          exact List.map_eq_nil_iff.mp hnil
        rw [this, if_pos (show ([] : List Kp379.Act).isEmpty = true from rfl)] at k'
        exact k'
      · have hx : xs ≠ [] := fun e => hne (by rw [e]; rfl)
        rw [if_neg (by rw [List.isEmpty_iff]; exact hx)] at k'
        have fm := firstMax_ok _ hne
        obtain ⟨j, hj⟩ := List.getElem?_of_mem hm
        have h1 := fm.le j m hj
        have h2 := hle _ (List.mem_of_getElem? fm.get)
        have em : m = (idealRow n S u Y xs).getD (firstMax (idealRow n S u Y xs)) 0 := by omega
        rw [em]
        exact k'
def spIdeals (CB CA CI : Addr) : Sp := fun vs H Q _ => ∃ (b : Addr) (wd : Kp379.World) (L : Addr) (ls : List Addr) (as : List (List Trip)) (u k : Nat), vs = [.ref b, .int (u : Int), .int (k : Int)] ∧ BoardAt CB CA H b wd L ls as ∧ u < wd.v ∧ k ≤ 4 ∧
  ∀ (H' : Hp) (o : Addr), Same H H' → IdlAt CI H' o (PARTS ^ k) ((List.range wd.n).map (idealI wd u k)) → Q (.ref o) H'
theorem ok_ideals_with {f : Addr} {fd : FuncData} (F : Fun K "ideals_with" "ideals_with" s_ideals_with f fd) (T : Txt K CB CA CO CC) (TI : TxtI K CI) (hrange : mg "range" = none) (hP : IntC mg "PARTS" PARTS)
    (OI : OwnC P w K mg base "Ideals" CI 1 ["self", "scale", "amounts"] (spIdlInit CI)) (O1 : Own P w K mg base "most_brought" 2 ["acts", "light", "later"] (spMost CA CI)) : FnOk P w K mg base CX0 3 f fd ["board", "light", "steps"] (spIdeals CB CA CI) := by
  refine F.ok sc_ideals_with (fun vs H Q E h => ?_) (fun cdv A outer s H vs Q E hr h => ?_)
  · obtain ⟨b, wd, L, ls, as, u, k, rfl, _⟩ := h
    rfl
  · obtain ⟨b, wd, L, ls, as, u, n, rfl, B, hu, hn, k⟩ := h
    have nd := sc_ideals_with.nd
    refine ⟨_, pss_cons (ps_set (i := 3) nd rfl (Or.inr rfl) (pe_ownC OI hr (pa_cons pe_int (pa_cons (pe_op op_rep (pe_lst (pa_cons pe_int pa_nil)) (pe_fld (pv 0) rfl)) pa_nil))))
      (pss_cons (ps_for PassesOwn.never rfl (pi_range1 rfl hrange (pa_cons (pv 2) pa_nil)) (pg_name (i := 4) nd rfl (Or.inl rfl))
        (pss_cons (ps_setLc (i := 5) (own := [("acts", 6)]) (g := gName 6) (tt := tYes) rfl nd rfl rfl (sw_true rfl rfl rfl (by decide +kernel)) (pi_list (pe_fld (pv 0) rfl))
          (blkOk_by (N := n_ideals_with) (sc := defScope s_ideals_with) (by decide +kernel)) (fun _ _ _ _ _ => pg_name (i := 6) nd rfl (Or.inl rfl)) (fun _ _ _ _ _ => pts_nil)
          (fun _ _ _ _ _ => pe_own O1 hr (pa_cons (pv 6) (pa_cons (pv 1) (pa_cons (pv 3) pa_nil)))))
        (pss_one (ps_set (i := 3) nd rfl (Or.inr rfl) (pe_ownC OI hr (pa_cons (pe_op op_mul (pe_intC hP) (pe_fld (pv 3) rfl)) (pa_cons (pv 5) pa_nil)))))))
      (pss_one (ps_ret (pv 3)))), ?_⟩
    obtain ⟨dx, hb⟩ := B.bd
    have n4 := B.wf.n4
    refine ⟨by decide, fun q hq => ?_⟩
    have s0 : Same H (upd H q (.lst [V.int 0])) := same_new hq
    refine ⟨_, rfl, b, CB, dx, _, _, rfl, s0 _ _ hb, T.clB, T.nPlaces, bF_places _ _ _, q, _, _, rfl, rfl, upd_same, by omega, by omega, ?_, fun r2 hr2 => ?_⟩
    · show 1 * ((wd.n : Int)).toNat ≤ sizeLine
      exact Nat.le_trans (show 1 * ((wd.n : Int)).toNat ≤ 4 by omega) (by decide)
    have s1 := s0.trans (same_new (o := .lst (List.replicate ((wd.n : Int)).toNat [V.int 0]).flatten) hr2)
    intro x dx' hx hdx ne
    refine ⟨x, dx', r2, 1, rfl, upd_same, fun H2 h1 h2 => ⟨rfl, ?_⟩⟩
    have s2 := Same.made hx hdx h2
    have hr3 := s2 _ _ (upd_same (H := upd H q (.lst [V.int 0])) (a := r2) (o := .lst (List.replicate ((wd.n : Int)).toNat [V.int 0]).flatten))
    refine ⟨_, rfl, (n : Int), rfl, by omega, by omega, ?_⟩
    refine for_range (n := ((n : Int) - 0).toNat) (fun i σ H' => Same H H' ∧ ∃ (o : Addr) (v4 v5 : Option V), σ = [some (.ref b), some (.int (u : Int)), some (.int (n : Int)), some (.ref o), v4, v5, none] ∧ IdlAt CI H' o (PARTS ^ i) ((List.range wd.n).map (idealI wd u i)))
      ⟨s1.trans s2, x, none, none, rfl, dx', r2, h1, ?_⟩ ?_ ?_
    · rw [hr3, rep_zeros wd.n (fun _ _ _ _ => 0) 0 0 false (fun _ => rfl), List.map_map]
      rfl
    · rintro i σ H' hi ⟨s3, o, v4, v5, rfl, HI⟩
      refine ⟨_, rfl, b, CB, dx, _, _, rfl, s3 _ _ hb, T.clB, T.nActs, bF_acts _ _ _, L, rfl, ⟨_, SqL.of (s3 _ _ B.ll)⟩, fun D hD => ?_⟩
      refine lc_list (K := K) (a := L) (xs := ls.map V.ref) (fun j H4 => Same H' H4 ∧ H4 D = some (.lst ((((List.range wd.n).map (idealI wd u (i + 1))).take j).map V.int))) ⟨same_new hD, upd_same⟩ (fun j H4 _ h => SqL.of (h.1 _ _ (s3 _ _ B.ll))) ?_ ?_
      · rintro j y H4 hj ⟨s4, hD1⟩
        obtain ⟨lp, hlp, rfl⟩ := map_ref hj
        have hjn : j < wd.n := by
          rw [← B.nl]
          exact (List.getElem?_eq_some_iff.mp hlp).1
        refine ⟨rfl, yesT ?_⟩
        refine ⟨_, rfl, _, rfl, _, rfl, lp, _, _, o, wd.n, wd.v, u, _, _, rfl, (B.pl j lp hlp).same (s3.trans s4), B.wf.few _ (actsAt_mem B.wf hjn), fun x hx => B.wf.act hjn hx, HI.same s4, n4, hu, fun H5 s5 => ?_⟩
        refine ⟨_, s5 _ _ hD1, (by rw [List.length_map, List.length_take, List.length_map, List.length_range]; exact Nat.lt_of_le_of_lt (Nat.le_trans (Nat.min_le_right _ _) n4) (by decide)), ?_, ?_⟩
        · intro c u e
          rw [upd_ne (ne_of_none e hD)]
          exact s5 _ _ (s4 _ _ e)
        · have hx2 : ((List.range wd.n).map (idealI wd u (i + 1)))[j]? = some (mostI wd.n (PARTS ^ i) u (idealI wd u i) (actsAt wd j)) := by
            rw [List.getElem?_map, range_get hjn]
            rfl
          rw [upd_same, take_more hx2, List.map_append]
          rfl
      · rintro H4 ⟨s4, hD1⟩
        rw [List.length_map, B.nl, List.take_of_length_le (by simp)] at hD1
        obtain ⟨dxo, Do, ho, _⟩ := HI.same s4
        refine ⟨_, rfl, o, CI, dxo, _, _, rfl, ho, TI.cl, TI.nScale, iF_scale _ _, _, _, rfl, rfl, .inl (by decide), _, rfl, ?_⟩
        intro x5 dx5 hx5 hdx5 ne5
        refine ⟨x5, dx5, D, PARTS * PARTS ^ i, rfl, upd_same, fun H6 h5 h6 => ⟨rfl, ?_⟩⟩
        have s6 := Same.made hx5 hdx5 h6
        refine ⟨(s3.trans s4).trans s6, x5, _, _, rfl, dx5, D, ?_, s6 _ _ hD1⟩
        rw [Int.pow_succ, Int.mul_comm]
        exact h5
    · rintro σ H' ⟨s3, o, v4, v5, rfl, HI⟩
      have e : ((n : Int) - 0).toNat = n := by omega
      rw [e] at HI
      exact ⟨_, rfl, k H' o s3 HI⟩
end
end Sel

set_option maxRecDepth 100000
set_option maxHeartbeats 2000000
namespace Sel
open PySem PySem.Spec PyProof.Rows L2
open Kp379 (actsAt actAt Stand stands setActs setAct ofStand)
section
variable {P : Program} {w : PySem.World} {K : PySem.W.Frag} {mg : Str → Option Value} {base : Heap} {CB CA CO CC CI : Addr}
/-- [0] + a fraction -/
theorem Said.fr {b L : Addr} {ls : List Addr} {as : List (List Trip)} {wd : Kp379.World} {H H1 : Hp} {c : Kp379.Call} {f : Kp340.Fr} {Q : VK} {r r2 : Addr} (h : Said CB CA b (some wd) c L ls as H Q) (B : BoardAt CB CA H b wd L ls as) (e : Kp379.step (some wd) c = (some wd, Kp379.frRow f)) (s : Same H H1) (hr0 : H1 r = none)
    (hr2 : upd H1 r (.lst (frV f)) r2 = none) : Q (.ref r2) (upd (upd H1 r (.lst (frV f))) r2 (.lst ([V.int 0] ++ frV f))) :=
  h.query B e ((s.trans (same_new hr0)).trans (same_new hr2)) ((s.trans (same_new hr0)).free hr2) (by rw [upd_same]; rfl)
theorem lows_ans (xs : List Int) (d : Int) : V.int (xs.length : Int) :: xs.flatMap (fun x => frV (Kp340.fr x d)) = ansV (Kp379.frs (xs.map fun x => Kp340.fr x d)) := by
  unfold ansV Kp379.frs
  rw [List.map_cons, List.length_map]
  congr 1
  induction xs with
  | nil => rfl
  | cons x r ih =>
    rw [List.flatMap_cons, List.map_cons, List.flatMap_cons, List.map_append, ih]
    rfl
def spBrings (CB CA : Addr) : Sp := fun vs H Q _ => ∃ (b st : Addr) (wd : Kp379.World) (L : Addr) (ls : List Addr) (as : List (List Trip)) (u p s l a k : Nat), vs = [.ref b, .int (u : Int), .ref st, .int (a : Int), .int (k : Int)] ∧ H st = some (.tup (stN p s l)) ∧
  BoardAt CB CA H b wd L ls as ∧ Said CB CA b (some wd) (.brings u p s l a k) L ls as H Q
theorem ok_answer_brings {f : Addr} {fd : FuncData} (F : Fun K "answer_brings" "answer_brings" s_answer_brings f fd) (T : Txt K CB CA CO CC) (hN : IntC mg "NO_SUCH" (-2)) (hP : IntC mg "PARTS" PARTS) (O0 : Own P w K mg base "has_self" 1 ["board", "who"] (spHasSelf CB)) (OA : Own P w K mg base "has_act" 2 ["board", "place", "number"] (spHasAct CB CA))
    (O1 : Own P w K mg base "refusal_of_stand" 3 ["board", "stand", "steps", "least_steps"] (spRefuse CB)) (O2 : Own P w K mg base "lowest_terms" 2 ["top", "bottom"] spLow) (O3 : Own P w K mg base "brought_by" 3 ["act", "stand", "light", "later"] (spBrought CA CO))
    (O4 : Own P w K mg base "outlook_with" 9 ["board", "steps"] (spOutlook CB CA CO)) : FnOk P w K mg base CX0 10 f fd ["board", "light", "stand", "number", "steps"] (spBrings CB CA) := by
  refine F.ok sc_answer_brings (fun vs H Q E h => ?_) (fun cdv A outer s H vs Q E hr h => ?_)
  · obtain ⟨b, st, wd, L, ls, as, u, p, s, l, a, k, rfl, _⟩ := h
    rfl
  · obtain ⟨b, st, wd, L, ls, as, u, p, s, l, a, n, rfl, hst, B, k⟩ := h
    have nd := sc_answer_brings.nd
    refine ⟨_, pss_cons (ps_if (PW.pt (pw_or (pt_not (pt_val (pe_own O0 (hr.mono (by decide)) (pa_cons (pv 0) (pa_cons (pv 1) pa_nil))))) (pw_or1 (pt_not (pt_val (pe_own OA (hr.mono (by decide)) (pa_cons (pv 0) (pa_cons (pe_ix ix_tup (pv 2) pe_int (fun _ _ => rfl)) (pa_cons (pv 3) pa_nil))))))))) (pss_one (ps_ret (pe_lst (pa_cons (pe_intC hN) pa_nil)))) pss_nil)
      (pss_cons (ps_set (i := 5) nd rfl (Or.inl rfl) (pe_own O1 (hr.mono (by decide)) (pa_cons (pv 0) (pa_cons (pv 2) (pa_cons (pv 4) (pa_cons pe_int pa_nil))))))
      (pss_cons (ps_if (pt_cmpR op_lt (pv 5) pe_int (nomark _)) (pss_one (ps_ret (pe_lst (pa_cons (pv 5) pa_nil)))) pss_nil)
      (pss_cons (ps_set (i := 6) nd rfl (Or.inl rfl) (pe_own O4 hr (pa_cons (pv 0) (pa_cons (pe_op op_sub (pv 4) pe_int) pa_nil))))
      (pss_cons (ps_set (i := 7) nd rfl (Or.inl rfl) (pe_own O3 (hr.mono (by decide)) (pa_cons (pe_ix ix_list (pe_ix ix_list (pe_fld (pv 0) rfl) (pe_ix ix_tup (pv 2) pe_int (fun _ _ => rfl)) (fun _ _ => rfl)) (pv 3) (fun _ _ => rfl)) (pa_cons (pv 2) (pa_cons (pv 1) (pa_cons (pv 6) pa_nil))))))
      (pss_one (ps_ret (pe_op op_cat (pe_lst (pa_cons pe_int pa_nil)) (pe_own O2 (hr.mono (by decide)) (pa_cons (pv 7) (pa_cons (pe_op op_mul (pe_intC hP) (pe_fld (pv 6) rfl)) pa_nil)))))))))), ?_⟩
    have stp : Kp379.step (some wd) (.brings u p s l a n) = if Kp379.isSelf wd u = false ∨ Kp379.isAct wd p a = false then (some wd, Kp379.say (-2)) else ofStand (some wd) wd p s l n 1 (fun x => Kp379.frRow (Kp379.brings wd u x a n)) := rfl
    have eu : Kp379.isSelf wd u = decide (u < wd.v) := rfl
    refine ⟨_, rfl, _, rfl, b, _, _, _, (u : Int), rfl, B.b, _, rfl, ?_⟩
    by_cases hu : u < wd.v
    · refine ifF (by rw [dec_nat, decide_eq_true hu]; rfl) ?_
      refine ⟨_, rfl, _, rfl, st, _, _, _, rfl, rfl, SqT.of hst, stN_at (j := 0) rfl, _, rfl, b, wd, L, ls, as, p, a, rfl, B, _, rfl, ?_⟩
      cases ha : Kp379.isAct wd p a with
      | false =>
        refine ifT rfl ?_
        refine ⟨(by show 1 ≤ sizeLine; decide), fun r hr0 => k.no B ?_ (Same.refl _) hr0⟩
        rw [stp, if_pos (.inr ha)]
      | true =>
        refine ifF rfl ?_
        rw [if_neg (by rw [eu, decide_eq_true hu, ha]; simp)] at stp
        refine ⟨_, rfl, _, rfl, _, rfl, b, st, wd, L, p, s, l, n, 1, rfl, B.b, hst, ?_⟩
        refine ⟨_, rfl, _, _, rfl, rfl, _, rfl, ?_⟩
        rcases refuse_cases wd p s l n 1 (some wd) (fun x => Kp379.frRow (Kp379.brings wd u x a n)) with ⟨c, e⟩ | ⟨c, hp, hs, hl, h4, h1, e⟩
        · refine ifT (decide_eq_true c) ?_
          exact ⟨_, rfl, (by show 1 ≤ sizeLine; decide), fun r hr0 => k.no B (stp.trans e) (Same.refl _) hr0⟩
        · rw [c]
          refine ifF rfl ?_
          rw [stN_stV p s hl] at hst
          obtain ⟨n', rfl⟩ : ∃ n', n = n' + 1 := ⟨n - 1, by omega⟩
          refine ⟨_, rfl, _, rfl, _, _, rfl, rfl, b, wd, L, ls, as, n', (by show _ = [V.ref b, V.int (n' : Int)]; simp), B, by omega, fun H1 o s1 HO => ?_⟩
          obtain ⟨lp, t, x, hlp, ht, hx, HA, LA⟩ := B.at ha
          obtain ⟨dx, hb⟩ := B.bd
          refine ⟨_, rfl, b, CB, dx, _, _, rfl, s1 _ _ hb, T.clB, T.nActs, bF_acts _ _ _, _, rfl, st, _, _, _, rfl, rfl, SqT.of (s1 _ _ hst), at_of (j := 0) (v := V.int (p : Int)) rfl rfl, L, _, _, _, rfl, rfl, SqL.of (s1 _ _ B.ll), at_of (j := p) (v := V.ref lp) rfl (by rw [List.getElem?_map, hlp]; rfl), _, rfl, lp, _, _, _, rfl, rfl, SqL.of (s1 _ _ LA.lst),
            at_of (j := a) (v := V.ref t.1) rfl (by rw [List.getElem?_map, show (as.getD p [])[a]? = some t from ht]; rfl), ?_⟩
          refine ⟨_, rfl, _, rfl, _, rfl, t, x, st, o, wd.n, wd.v, p, s, u, l == 1, _, _, rfl, HA.same s1, s1 _ _ hst, HO, B.wf.act hp (List.mem_of_getElem? hx), B.wf.n4, hs, hu, fun H2 s2 => ?_⟩
          refine ⟨(by show 1 ≤ sizeLine; decide), fun q hq => ?_⟩
          have s3 := (s1.trans s2).trans (same_new (o := .lst [V.int 0]) hq)
          obtain ⟨dxo, D, m, ho, HD⟩ := (HO.same s2).same (same_new (o := .lst [V.int 0]) hq)
          refine ⟨_, rfl, _, rfl, o, CO, dxo, _, _, rfl, ho, T.clO, T.nScale, oF_scale _ _, _, _, rfl, rfl, .inl (by decide), _, PARTS * PARTS ^ n', rfl, ?_, ?_, fun r hr0 => ?_⟩
          · rw [Int.mul_comm, ← Int.pow_succ]; exact powPos _
          · rw [Int.mul_comm, ← Int.pow_succ]; exact pow_small h4
          have ntr : q ≠ r := ne_of_none upd_same hr0
          refine ⟨q, r, _, _, rfl, rfl, by rw [upd_ne ntr]; exact upd_same, upd_same, (by show 1 + 2 ≤ sizeLine; decide), fun r2 hr2 => ?_⟩
          refine k.fr B ?_ s3 hr0 hr2
          rw [stp, e]
          show _ = (some wd, Kp379.frRow (Kp340.fr _ (PARTS * PARTS ^ n')))
          rw [brings_rep B.wf hp hs hu hx, Int.mul_comm PARTS, ← Int.pow_succ]
    · refine ifT (by rw [dec_nat, decide_eq_false hu]; rfl) ?_
      refine ifT rfl ?_
      refine ⟨(by show 1 ≤ sizeLine; decide), fun r hr0 => k.no B ?_ (Same.refl _) hr0⟩
      rw [stp, if_pos (.inl (by rw [eu, decide_eq_false hu]))]
theorem ok_answer_lights {f : Addr} {fd : FuncData} (F : Fun K "answer_lights" "answer_lights" s_answer_lights f fd) (T : Txt K CB CA CO CC)
    (O1 : Own P w K mg base "refusal_of_stand" 3 ["board", "stand", "steps", "least_steps"] (spRefuse CB)) (O2 : Own P w K mg base "all_lowest_terms" 3 ["tops", "bottom"] (spLows K))
    (O4 : Own P w K mg base "outlook_with" 9 ["board", "steps"] (spOutlook CB CA CO)) : FnOk P w K mg base CX0 10 f fd ["board", "stand", "steps"] (spQ CB CA .lights) := by
  refine F.ok sc_answer_lights (fun vs H Q E h => ?_) (fun cdv A outer s H vs Q E hr h => ?_)
  · obtain ⟨b, st, wd, L, ls, as, p, s, l, k, rfl, _⟩ := h
    rfl
  · obtain ⟨b, st, wd, L, ls, as, p, s, l, n, rfl, hst, B, k⟩ := h
    have nd := sc_answer_lights.nd
    have hU := hu_of hr
    refine ⟨_, pss_cons (ps_set (i := 3) nd rfl (Or.inl rfl) (pe_own O1 (hr.mono (by decide)) (pa_cons (pv 0) (pa_cons (pv 1) (pa_cons (pv 2) (pa_cons pe_int pa_nil))))))
      (pss_cons (ps_if (pt_cmpR op_lt (pv 3) pe_int (nomark _)) (pss_one (ps_ret (pe_lst (pa_cons (pv 3) pa_nil)))) pss_nil)
      (pss_cons (ps_set (i := 4) nd rfl (Or.inl rfl) (pe_own O4 hr (pa_cons (pv 0) (pa_cons (pv 2) pa_nil))))
      (pss_one (ps_ret (pe_own O2 (hr.mono (by decide)) (pa_cons (pe_dget hU (pe_fld (pv 4) rfl) (pv 1) (fun _ _ => rfl)) (pa_cons (pe_fld (pv 4) rfl) pa_nil))))))), ?_⟩
    have stp : Kp379.step (some wd) (.lights p s l n) = ofStand (some wd) wd p s l n 0 (fun x => Kp379.frs ((List.range wd.v).map fun u => Kp379.worth wd u x n)) := rfl
    refine ⟨_, rfl, _, rfl, _, rfl, b, st, wd, L, p, s, l, n, 0, rfl, B.b, hst, ?_⟩
    refine ⟨_, rfl, _, _, rfl, rfl, _, rfl, ?_⟩
    rcases refuse_cases wd p s l n 0 (some wd) (fun x => Kp379.frs ((List.range wd.v).map fun u => Kp379.worth wd u x n)) with ⟨c, e⟩ | ⟨c, hp, hs, hl, h4, h1, e⟩
    · refine ifT (decide_eq_true c) ?_
      exact ⟨_, rfl, (by show 1 ≤ sizeLine; decide), fun r hr0 => k.no B (stp.trans e) (Same.refl _) hr0⟩
    · rw [c]
      refine ifF rfl ?_
      rw [stN_stV p s hl] at hst
      refine ⟨_, rfl, _, rfl, b, wd, L, ls, as, n, rfl, B, h4, fun H1 o s1 HO => ?_⟩
      obtain ⟨dxo, D, m, ho, HD⟩ := id HO
      obtain ⟨kvs, hD, _, hall⟩ := HD.ex
      obtain ⟨q, hq1, hq2⟩ := hall p s (l == 1) ⟨hp, hs⟩
      have v3 := B.wf.v3
      refine ⟨_, rfl, o, CO, dxo, _, _, rfl, ho, T.clO, T.nWorths, oF_worths _ _, _, rfl, D, _, rfl, hq1 ▸ DGet.t hD (by rw [keyOf_kV]; exact s1 _ _ hst), _, rfl, o, CO, dxo, _, _, rfl, ho, T.clO, T.nScale, oF_scale _ _,
        q, (List.range wd.v).map fun u => later wd n p s (l == 1) u, _, rfl, SqL.of (by rw [hq2, List.map_map]; rfl), by rw [List.length_map, List.length_range]; omega, powPos n, pow_small h4, fun H2 r s2 hr0 hr1 => ?_⟩
      rw [lows_ans, List.map_map] at hr1
      refine k.query B ?_ (s1.trans s2) (s1.free hr0) hr1
      rw [stp, e]
      have e2 : ((List.range wd.v).map fun u => Kp379.worth wd u ⟨p, s, l == 1⟩ n) = (List.range wd.v).map ((fun x => Kp340.fr x (PARTS ^ n)) ∘ fun u => later wd n p s (l == 1) u) := by
        apply List.map_congr_left
        intro u hu
        exact worth_rep B.wf hp hs (List.mem_range.mp hu)
      rw [e2]
theorem refuseS_cases (wd : Kp379.World) (s k least : Nat) : (¬ s < wd.v ∧ refuseS wd s k least = -2) ∨ (s < wd.v ∧ (4 < k ∨ k < least) ∧ refuseS wd s k least = -22) ∨ (s < wd.v ∧ k ≤ 4 ∧ least ≤ k ∧ refuseS wd s k least = 0) := by
  unfold refuseS
  by_cases c1 : s < wd.v
  · rw [if_neg (by omega)]
    by_cases c2 : 4 < k ∨ k < least
    · rw [if_pos c2]
      exact .inr (.inl ⟨c1, c2, rfl⟩)
    · rw [if_neg c2]
      exact .inr (.inr ⟨c1, by omega, by omega, rfl⟩)
  · rw [if_pos c1]
    exact .inl ⟨c1, rfl⟩
def spIdeal (CB CA : Addr) : Sp := fun vs H Q _ => ∃ (b : Addr) (wd : Kp379.World) (L : Addr) (ls : List Addr) (as : List (List Trip)) (u p k : Nat), vs = [.ref b, .int (u : Int), .int (p : Int), .int (k : Int)] ∧
  BoardAt CB CA H b wd L ls as ∧ Said CB CA b (some wd) (.ideal u p k) L ls as H Q
theorem ok_answer_ideal {f : Addr} {fd : FuncData} (F : Fun K "answer_ideal" "answer_ideal" s_answer_ideal f fd) (TI : TxtI K CI) (hN : IntC mg "NO_SUCH" (-2)) (O0 : Own P w K mg base "has_place" 1 ["board", "place"] (spHasPlace CB))
    (O1 : Own P w K mg base "refusal_of_self" 2 ["board", "who", "steps", "least_steps"] (spRefuseS CB)) (O2 : Own P w K mg base "lowest_terms" 2 ["top", "bottom"] spLow)
    (O4 : Own P w K mg base "ideals_with" 3 ["board", "light", "steps"] (spIdeals CB CA CI)) : FnOk P w K mg base CX0 4 f fd ["board", "light", "place", "steps"] (spIdeal CB CA) := by
  refine F.ok sc_answer_ideal (fun vs H Q E h => ?_) (fun cdv A outer s H vs Q E hr h => ?_)
  · obtain ⟨b, wd, L, ls, as, u, p, k, rfl, _⟩ := h
    rfl
  · obtain ⟨b, wd, L, ls, as, u, p, n, rfl, B, k⟩ := h
    have nd := sc_answer_ideal.nd
    refine ⟨_, pss_cons (ps_if (pt_not (pt_val (pe_own O0 (hr.mono (by decide)) (pa_cons (pv 0) (pa_cons (pv 2) pa_nil))))) (pss_one (ps_ret (pe_lst (pa_cons (pe_intC hN) pa_nil)))) pss_nil)
      (pss_cons (ps_set (i := 4) nd rfl (Or.inl rfl) (pe_own O1 (hr.mono (by decide)) (pa_cons (pv 0) (pa_cons (pv 1) (pa_cons (pv 3) (pa_cons pe_int pa_nil))))))
      (pss_cons (ps_if (pt_cmpR op_lt (pv 4) pe_int (nomark _)) (pss_one (ps_ret (pe_lst (pa_cons (pv 4) pa_nil)))) pss_nil)
      (pss_cons (ps_set (i := 5) nd rfl (Or.inl rfl) (pe_own O4 hr (pa_cons (pv 0) (pa_cons (pv 1) (pa_cons (pv 3) pa_nil)))))
      (pss_one (ps_ret (pe_op op_cat (pe_lst (pa_cons pe_int pa_nil)) (pe_own O2 (hr.mono (by decide)) (pa_cons (pe_ix ix_list (pe_fld (pv 5) rfl) (pv 2) (fun _ _ => rfl)) (pa_cons (pe_fld (pv 5) rfl) pa_nil))))))))), ?_⟩
    have stp : Kp379.step (some wd) (.ideal u p n) = (some wd, if Kp379.isPlace wd p = false ∨ Kp379.isSelf wd u = false then Kp379.say (-2) else if 4 < n then Kp379.say (-22) else Kp379.frRow (Kp379.ideal wd u p n)) := rfl
    unfold Kp379.isPlace Kp379.isSelf at stp
    simp only [decide_eq_false_iff_not] at stp
    refine ⟨_, rfl, _, rfl, b, _, _, _, (p : Int), rfl, B.b, _, rfl, ?_⟩
    by_cases hp : p < wd.n
    · refine ifF (by rw [dec_nat, decide_eq_true hp]; rfl) ?_
      refine ⟨_, rfl, _, rfl, _, rfl, b, wd, L, u, n, 0, rfl, B.b, ?_⟩
      refine ⟨_, rfl, _, _, rfl, rfl, _, rfl, ?_⟩
      rcases refuseS_cases wd u n 0 with ⟨hu, c⟩ | ⟨hu, h4, c⟩ | ⟨hu, h4, _, c⟩
      · rw [c]
        refine ifT rfl ?_
        exact ⟨_, rfl, (by show 1 ≤ sizeLine; decide), fun r hr0 => k.no B (by rw [stp, if_pos (.inr hu)]) (Same.refl _) hr0⟩
      · rw [c]
        refine ifT rfl ?_
        exact ⟨_, rfl, (by show 1 ≤ sizeLine; decide), fun r hr0 => k.no B (by rw [stp, if_neg (by omega), if_pos (by omega)]) (Same.refl _) hr0⟩
      · rw [c]
        refine ifF rfl ?_
        rw [if_neg (by omega), if_neg (by omega)] at stp
        refine ⟨_, rfl, _, rfl, _, rfl, b, wd, L, ls, as, u, n, rfl, B, hu, h4, fun H1 o s1 HI => ?_⟩
        refine ⟨(by show 1 ≤ sizeLine; decide), fun t ht => ?_⟩
        have s2 := s1.trans (same_new (o := .lst [V.int 0]) ht)
        obtain ⟨dxo, D, ho, hD⟩ := HI.same (same_new (o := .lst [V.int 0]) ht)
        refine ⟨_, rfl, o, CI, dxo, _, _, rfl, ho, TI.cl, TI.nAmounts, iF_amounts _ _, _, rfl, D, _, _, _, rfl, rfl, SqL.of hD, at_of (j := p) (v := V.int (idealI wd u n p)) rfl (by rw [List.getElem?_map, List.getElem?_map, range_get hp]; rfl), _, rfl, o, CI, dxo, _, _, rfl, ho, TI.cl, TI.nScale, iF_scale _ _, _, _, rfl, powPos n, pow_small h4, fun r hr0 => ?_⟩
        have ntr : t ≠ r := ne_of_none upd_same hr0
        refine ⟨t, r, _, _, rfl, rfl, by rw [upd_ne ntr]; exact upd_same, upd_same, (by show 1 + 2 ≤ sizeLine; decide), fun r2 hr2 => ?_⟩
        exact k.fr B (by rw [stp, ideal_is B.wf hp]) s2 hr0 hr2
    · refine ifT (by rw [dec_nat, decide_eq_false hp]; rfl) ?_
      refine ⟨(by show 1 ≤ sizeLine; decide), fun r hr0 => k.no B ?_ (Same.refl _) hr0⟩
      rw [stp, if_pos (.inl hp)]
theorem ok_answer_short {f : Addr} {fd : FuncData} (F : Fun K "answer_short" "answer_short" s_answer_short f fd) (T : Txt K CB CA CO CC) (TI : TxtI K CI)
    (O1 : Own P w K mg base "refusal_of_stand" 3 ["board", "stand", "steps", "least_steps"] (spRefuse CB)) (O2 : Own P w K mg base "lowest_terms" 2 ["top", "bottom"] spLow)
    (O3 : Own P w K mg base "ideals_with" 3 ["board", "light", "steps"] (spIdeals CB CA CI)) (O4 : Own P w K mg base "outlook_with" 9 ["board", "steps"] (spOutlook CB CA CO)) : FnOk P w K mg base CX0 10 f fd ["board", "stand", "steps"] (spQ CB CA .short) := by
  refine F.ok sc_answer_short (fun vs H Q E h => ?_) (fun cdv A outer s H vs Q E hr h => ?_)
  · obtain ⟨b, st, wd, L, ls, as, p, s, l, k, rfl, _⟩ := h
    rfl
  · obtain ⟨b, st, wd, L, ls, as, p, s, l, n, rfl, hst, B, k⟩ := h
    have nd := sc_answer_short.nd
    have hU := hu_of hr
    refine ⟨_, pss_cons (ps_set (i := 3) nd rfl (Or.inl rfl) (pe_own O1 (hr.mono (by decide)) (pa_cons (pv 0) (pa_cons (pv 1) (pa_cons (pv 2) (pa_cons pe_int pa_nil))))))
      (pss_cons (ps_if (pt_cmpR op_lt (pv 3) pe_int (nomark _)) (pss_one (ps_ret (pe_lst (pa_cons (pv 3) pa_nil)))) pss_nil)
      (pss_cons (ps_set (i := 4) nd rfl (Or.inl rfl) (pe_own O4 hr (pa_cons (pv 0) (pa_cons (pv 2) pa_nil))))
      (pss_cons (ps_set (i := 5) nd rfl (Or.inl rfl) (pe_own O3 (hr.mono (by decide)) (pa_cons (pv 0) (pa_cons (pe_ix ix_tup (pv 1) pe_int (fun _ _ => rfl)) (pa_cons (pv 2) pa_nil)))))
      (pss_one (ps_ret (pe_op op_cat (pe_lst (pa_cons pe_int pa_nil)) (pe_own O2 (hr.mono (by decide)) (pa_cons (pe_op op_sub (pe_ix ix_list (pe_fld (pv 5) rfl) (pe_ix ix_tup (pv 1) pe_int (fun _ _ => rfl)) (fun _ _ => rfl))
        (pe_ix ix_list (pe_dget hU (pe_fld (pv 4) rfl) (pv 1) (fun _ _ => rfl)) (pe_ix ix_tup (pv 1) pe_int (fun _ _ => rfl)) (fun _ _ => rfl))) (pa_cons (pe_fld (pv 4) rfl) pa_nil))))))))), ?_⟩
    have stp : Kp379.step (some wd) (.short p s l n) = ofStand (some wd) wd p s l n 0 (fun x => Kp379.frRow (Kp346.sub (Kp379.ideal wd s p n) (Kp379.worth wd s x n))) := rfl
    refine ⟨_, rfl, _, rfl, _, rfl, b, st, wd, L, p, s, l, n, 0, rfl, B.b, hst, ?_⟩
    refine ⟨_, rfl, _, _, rfl, rfl, _, rfl, ?_⟩
    rcases refuse_cases wd p s l n 0 (some wd) (fun x => Kp379.frRow (Kp346.sub (Kp379.ideal wd s p n) (Kp379.worth wd s x n))) with ⟨c, e⟩ | ⟨c, hp, hs, hl, h4, h1, e⟩
    · refine ifT (decide_eq_true c) ?_
      exact ⟨_, rfl, (by show 1 ≤ sizeLine; decide), fun r hr0 => k.no B (stp.trans e) (Same.refl _) hr0⟩
    · rw [c]
      refine ifF rfl ?_
      rw [stN_stV p s hl] at hst
      have at1 : ∀ (j : Nat) (y : V), (stV p s (l == 1))[j]? = some y → atI (stV p s (l == 1)) (j : Int) = some y := fun j y e => at_of (j := j) rfl e
      refine ⟨_, rfl, _, rfl, b, wd, L, ls, as, n, rfl, B, h4, fun H1 o s1 HO => ?_⟩
      refine ⟨_, rfl, _, rfl, st, _, _, _, rfl, rfl, SqT.of (s1 _ _ hst), at1 1 _ rfl, _, rfl, b, wd, L, ls, as, s, n, rfl, B.same s1, hs, h4, fun H2 oi s2 HI => ?_⟩
      refine ⟨(by show 1 ≤ sizeLine; decide), fun t ht => ?_⟩
      have s3 := s2.trans (same_new (o := .lst [V.int 0]) ht)
      have s13 := s1.trans s3
      obtain ⟨dxi, Di, hoi, hDi⟩ := HI.same (same_new (o := .lst [V.int 0]) ht)
      obtain ⟨dxo, D, m, ho, HD⟩ := HO.same s3
      obtain ⟨kvs, hD, _, hall⟩ := HD.ex
      obtain ⟨q, hq1, hq2⟩ := hall p s (l == 1) ⟨hp, hs⟩
      refine ⟨_, rfl, oi, CI, dxi, _, _, rfl, hoi, TI.cl, TI.nAmounts, iF_amounts _ _, _, rfl, st, _, _, _, rfl, rfl, SqT.of (s13 _ _ hst), at1 0 _ rfl, Di, _, _, _, rfl, rfl, SqL.of hDi, at_of (j := p) (v := V.int (idealI wd s n p)) rfl (by rw [List.getElem?_map, List.getElem?_map, range_get hp]; rfl), ?_⟩
      refine ⟨_, rfl, o, CO, dxo, _, _, rfl, ho, T.clO, T.nWorths, oF_worths _ _, _, rfl, D, _, rfl, hq1 ▸ DGet.t hD (by rw [keyOf_kV]; exact s13 _ _ hst), _, rfl, st, _, _, _, rfl, rfl, SqT.of (s13 _ _ hst), at1 1 _ rfl, q, _, _, _, rfl, rfl, SqL.of hq2, at_of (j := s) (v := V.int (later wd n p s (l == 1) s)) rfl (by rw [List.getElem?_map, range_get hs]; rfl), _, _, rfl, rfl, ?_⟩
      refine ⟨_, rfl, o, CO, dxo, _, _, rfl, ho, T.clO, T.nScale, oF_scale _ _, idealI wd s n p - later wd n p s (l == 1) s, _, rfl, powPos n, pow_small h4, fun r hr0 => ?_⟩
      have ntr : t ≠ r := ne_of_none upd_same hr0
      refine ⟨t, r, _, _, rfl, rfl, by rw [upd_ne ntr]; exact upd_same, upd_same, (by show 1 + 2 ≤ sizeLine; decide), fun r2 hr2 => ?_⟩
      exact k.fr B (by rw [stp, e, short_is B.wf hp hs]) s13 hr0 hr2
end
end Sel

set_option maxRecDepth 100000
set_option maxHeartbeats 2000000
namespace Sel
open PySem PySem.Spec PyProof.Rows L2
open Kp379 (actsAt actAt Stand stands setActs setAct ofStand)
/-! ### parts by stands -/
def keyS (z : Stand) : List Key := keyOf z.p z.s z.locked
theorem keyS_inj {z y : Stand} (h : keyS z = keyS y) : z = y := by
  obtain ⟨p, s, l⟩ := z
  obtain ⟨q, u, m⟩ := y
  obtain ⟨rfl, rfl, rfl⟩ := keyOf_inj h
  rfl
def partsOf (zs : List Stand) (f : Stand → Int) : List (List Key × V) := zs.map fun z => (keyS z, V.int (f z))
theorem partsOf_congr {zs : List Stand} {f g : Stand → Int} (h : ∀ z ∈ zs, f z = g z) : partsOf zs f = partsOf zs g := by
  unfold partsOf
  apply List.map_congr_left
  intro z hz
  rw [h z hz]
theorem partsOf_len (zs : List Stand) (f : Stand → Int) : (partsOf zs f).length = zs.length := by
  unfold partsOf
  rw [List.length_map]
theorem partsOf_get {zs : List Stand} {f : Stand → Int} {i : Nat} {k : List Key} {v : V} (h : (partsOf zs f)[i]? = some (k, v)) : ∃ z, zs[i]? = some z ∧ k = keyS z ∧ v = V.int (f z) := by
  unfold partsOf at h
  rw [List.getElem?_map] at h
  cases e : zs[i]? with
  | none => rw [e] at h; cases h
  | some z =>
    rw [e] at h
    have h := Option.some.inj h
    injection h with h1 h2
    exact ⟨z, rfl, h1.symm, h2.symm⟩
theorem valV_parts {f : Stand → Int} {y : Stand} : ∀ {zs : List Stand}, y ∈ zs → valV (partsOf zs f) (keyS y) = some (V.int (f y))
  | z :: zs, h => by
    show valV ((keyS z, V.int (f z)) :: partsOf zs f) (keyS y) = _
    by_cases e : z = y
    · subst e
      exact valV_pos rfl
    · rw [valV_neg (fun q => e (keyS_inj q))]
      rcases List.mem_cons.mp h with h | h
      · exact absurd h.symm e
      · exact valV_parts h
theorem valV_int {f : Stand → Int} {k : List Key} {v : V} : ∀ {zs : List Stand}, valV (partsOf zs f) k = some v → ∃ c, v = V.int c
  | [], h => by cases h
  | z :: zs, h => by
    have h : valV ((keyS z, V.int (f z)) :: partsOf zs f) k = some v := h
    by_cases e : keyS z = k
    · rw [valV_pos (p := (keyS z, V.int (f z))) e] at h
      exact ⟨_, (Option.some.inj h).symm⟩
    · rw [valV_neg (p := (keyS z, V.int (f z))) e] at h
      exact valV_int h
theorem any_parts {zs : List Stand} {f : Stand → Int} {y : Stand} : ((partsOf zs f).any fun kv => decide (kv.1 = keyS y)) = true ↔ y ∈ zs := by
  unfold partsOf
  rw [List.any_map, List.any_eq_true]
  constructor
  · rintro ⟨z, hz, h⟩
    have h : keyS z = keyS y := of_decide_eq_true h
    rw [← keyS_inj h]
    exact hz
  · intro h
    exact ⟨y, h, decide_eq_true rfl⟩
theorem putK_new {zs : List Stand} {f : Stand → Int} {y : Stand} (h : y ∉ zs) : putK (partsOf zs f) (keyS y) (V.int (f y)) = partsOf (zs ++ [y]) f := by
  unfold putK
  rw [if_neg (fun q => h (any_parts.mp q))]
  unfold partsOf
  rw [List.map_append]
  rfl
theorem putK_old {zs : List Stand} {f : Stand → Int} {y : Stand} {c : Int} (h : y ∈ zs) : putK (partsOf zs f) (keyS y) (V.int c) = partsOf zs (fun z => if z = y then c else f z) := by
  unfold putK
  rw [if_pos (any_parts.mpr h)]
  unfold partsOf
  rw [List.map_map]
  apply List.map_congr_left
  intro z _
  show (if keyS z = keyS y then (keyS z, V.int c) else (keyS z, V.int (f z))) = (keyS z, V.int (if z = y then c else f z))
  by_cases e : z = y
  · subst e
    rw [if_pos rfl, if_pos rfl]
  · rw [if_neg (fun q => e (keyS_inj q)), if_neg e]
theorem nodup_take {α : Type} {l : List α} (h : l.Nodup) {i : Nat} {y : α} (hi : l[i]? = some y) : y ∉ l.take i := by
  intro hm
  obtain ⟨j, hj⟩ := List.getElem?_of_mem hm
  have hji : j < i := by
    have := (List.getElem?_eq_some_iff.mp hj).1
    rw [List.length_take] at this
    omega
  rw [List.getElem?_take_of_lt hji] at hj
  obtain ⟨a1, a2⟩ := List.getElem?_eq_some_iff.mp hi
  obtain ⟨b1, b2⟩ := List.getElem?_eq_some_iff.mp hj
  have := (List.getElem_inj h).mp (b2.trans a2.symm)
  omega
/-! ### ways -/
theorem wsum_snoc (l : List (Stand × Int)) (c : Stand × Int) (y : Stand) : wsum (l ++ [c]) y = wsum l y + if c.1 = y then c.2 else 0 := by
  unfold wsum
  rw [List.map_append, List.map_cons, List.map_nil, sum_snoc]
theorem done_act {wd : Kp379.World} {S : Int} {X : Later} {p s : Nat} {l : Bool} (h : actsAt wd p ≠ []) : ∃ x, (actsAt wd p)[firstMax (amounts wd S X p s l)]? = some x := by
  have fm := firstMax_ok _ (amounts_ne (S := S) (X := X) (s := s) (l := l) h)
  have hl := fm.lt
  unfold amounts at hl
  rw [List.length_map] at hl
  exact ⟨_, List.getElem?_eq_getElem hl⟩
theorem ways_nil {wd : Kp379.World} {S : Int} {X : Later} {z : Stand} (h : actsAt wd z.p = []) : waysI wd S X z = [(z, PARTS)] := by
  unfold waysI
  rw [if_pos (by rw [h]; rfl)]
theorem ways_act {wd : Kp379.World} {S : Int} {X : Later} {z : Stand} {x : Kp379.Act} (h : actsAt wd z.p ≠ []) (hx : (actsAt wd z.p)[firstMax (amounts wd S X z.p z.s z.locked)]? = some x) : waysI wd S X z = waysA wd.n x z := by
  unfold waysI
  rw [if_neg (by rw [List.isEmpty_iff]; exact h), actAt_of hx]
theorem ways_ok {wd : Kp379.World} (hw : Wf wd) {S : Int} {X : Later} {z : Stand} (hp : z.p < wd.n) (hs : z.s < wd.v) {j : Nat} {c : Stand × Int} (h : (waysI wd S X z)[j]? = some c) : c.1 ∈ stands wd ∧ 0 ≤ c.2 ∧ c.2 < 2 ^ 64 := by
  by_cases e : actsAt wd z.p = []
  · rw [ways_nil e] at h
    have hj : j = 0 := by
      have := (List.getElem?_eq_some_iff.mp h).1
      simpa using this
    subst hj
    have ec : (z, PARTS) = c := by simpa using h
    subst ec
    exact ⟨stands_mem.mpr ⟨hp, hs⟩, by show (0 : Int) ≤ PARTS; decide, by show PARTS < 2 ^ 64; decide⟩
  · obtain ⟨x, hx⟩ := done_act (S := S) (X := X) (s := z.s) (l := z.locked) e
    rw [ways_act e hx] at h
    have ok := hw.act hp (List.mem_of_getElem? hx)
    have hj : j < wd.n := by
      have := (List.getElem?_eq_some_iff.mp h).1
      rw [waysA_len] at this
      exact this
    rw [waysA_get hj] at h
    have ec := Option.some.inj h
    subst ec
    obtain ⟨b0, b1, _⟩ := share_bound ok hj
    exact ⟨stands_mem.mpr ⟨hj, selfB_lt ok hs⟩, b0, b1⟩
theorem ways_few {wd : Kp379.World} (hw : Wf wd) {S : Int} {X : Later} {z : Stand} : (waysI wd S X z).length ≤ 4 := by
  unfold waysI
  split
  · show 1 ≤ 4
    decide
  · rw [waysA_len]
    exact hw.n4
/-! ### chances in the heap -/
structure TxtH (K : PySem.W.Frag) (CH : Addr) : Prop where
  cl : Cls K CH
  nScale : NoAttr K CH "scale"
  nParts : NoAttr K CH "parts"
def hF (S : Int) (D : Addr) : List (Str × V) := [("scale", .int S), ("parts", .ref D)]
theorem hF_scale (S : Int) (D : Addr) : (hF S D).lookup ("scale" : Str) = some (.int S) := lk_here
theorem hF_parts (S : Int) (D : Addr) : (hF S D).lookup ("parts" : Str) = some (.ref D) := (lk_past (by decide +kernel)).trans lk_here
theorem hF_new (S : Int) (D : Addr) : putF "parts" (.ref D) (putF "scale" (.int S) []) = hF S D := (put_past (by decide +kernel)).trans rfl
def ChAt (CH : Addr) (H : Hp) (o : Addr) (wd : Kp379.World) (S : Int) (f : Stand → Int) : Prop := ∃ dx D, H o = some (.ins CH dx (hF S D)) ∧ H D = some (.dT (partsOf (stands wd) f))
theorem ChAt.same {CH : Addr} {H H' : Hp} {o : Addr} {wd : Kp379.World} {S : Int} {f : Stand → Int} (s : Same H H') (h : ChAt CH H o wd S f) : ChAt CH H' o wd S f := by
  obtain ⟨dx, D, a, b⟩ := h
  exact ⟨dx, D, s _ _ a, s _ _ b⟩
theorem ChAt.congr {CH : Addr} {H : Hp} {o : Addr} {wd : Kp379.World} {S : Int} {f g : Stand → Int} (e : ∀ z ∈ stands wd, f z = g z) (h : ChAt CH H o wd S f) : ChAt CH H o wd S g := by
  obtain ⟨dx, D, a, b⟩ := h
  exact ⟨dx, D, a, by rw [← partsOf_congr e]; exact b⟩
theorem walk_itemsT {d : Addr} {o : Obj} {kvs : List (List Key × V)} : Walk (IttT d o kvs) kvs.length (fun H => H d = some (.frz o (.dT kvs)))
    (fun i H x H' => ∃ (T : Addr) (k : List Key) (v : V) (q : Addr), kvs[i]? = some (k, v) ∧ x = .ref T ∧ H T = none ∧ H q = some (.tup (k.map kV)) ∧ H' = upd H T (.tup [.ref q, v])) :=
  { goes := fun _ _ below held => ⟨held, below⟩, stops := fun _ held => ⟨held, Nat.le_refl _⟩, yields := fun _ _ _ _ _ _ given => given }
section
variable {P : Program} {w : PySem.World} {K : PySem.W.Frag} {mg : Str → Option Value} {base : Heap} {CB CA CO CC CI CH : Addr}
/-- the board stands where all but dicts of tuple keys do -/
theorem BoardAt.keepD {H H' : Hp} {b : Addr} {wd : Kp379.World} {L : Addr} {ls : List Addr} {as : List (List Trip)} (h : BoardAt CB CA H b wd L ls as) (k : ∀ c o, H c = some o → (∀ kvs, o ≠ .dT kvs) → H' c = some o) : BoardAt CB CA H' b wd L ls as := by
  obtain ⟨dx, h1⟩ := h.bd
  refine ⟨⟨dx, k _ _ h1 (by intro kvs z; cases z)⟩, k _ _ h.ll (by intro kvs z; cases z), h.nl, h.na, fun p l hl => ?_, h.nd, h.nL, h.inj, h.wf⟩
  have LA := h.pl p l hl
  refine ⟨k _ _ LA.lst (by intro kvs z; cases z), LA.len, fun i t x ht hx => ?_⟩
  obtain ⟨⟨dt, q1⟩, q2, q3⟩ := LA.act i t x ht hx
  exact ⟨⟨dt, k _ _ q1 (by intro kvs z; cases z)⟩, k _ _ q2 (by intro kvs z; cases z), k _ _ q3 (by intro kvs z; cases z)⟩
/-- an outlook stands where all but the chances' dict does -/
theorem OutAt.but {H H' : Hp} {o c : Addr} {n v : Nat} {S : Int} {X : Later} {zs : List Stand} {f : Stand → Int} (h : OutAt CO H o n v S X) (hn : 0 < n) (hv : 0 < v) (hc : H c = some (.dT (partsOf zs f))) (k : ∀ a u, a ≠ c → H a = some u → H' a = some u) : OutAt CO H' o n v S X := by
  obtain ⟨dx, D, m, a, b⟩ := h
  obtain ⟨kvs, e1, e2, e3⟩ := b.ex
  have nD : D ≠ c := by
    intro e
    subst e
    have e4 : HO.dT kvs = .dT (partsOf zs f) := Option.some.inj (e1.symm.trans hc)
    injection e4 with e4
    obtain ⟨q, q1, _⟩ := e3 0 0 false ⟨hn, hv⟩
    rw [e4] at q1
    obtain ⟨z, hz⟩ := valV_int q1
    cases hz
  refine ⟨dx, D, m, k _ _ (ne_of a hc (by intro z; cases z)) a, ⟨kvs, k _ _ nD e1, e2, fun p s l g => ?_⟩⟩
  obtain ⟨q, c1, c2⟩ := e3 p s l g
  exact ⟨q, c1, k _ _ (ne_of c2 hc (by intro z; cases z)) c2⟩
def spChInit (CH : Addr) : Sp := fun vs H Q _ => ∃ (p dx D : Addr) (S : Int), vs = [.ref p, .int S, .ref D] ∧ H p = some (.ins CH dx []) ∧
  ∀ H' : Hp, H' p = some (.ins CH dx (hF S D)) → (∀ b o, H b = some o → b ≠ p → H' b = some o) → Q .non H'
theorem ok_Chances_init {f : Addr} {fd : FuncData} (F : Fun K "__init__" "Chances.__init__" s_Chances_init f fd) (TH : TxtH K CH) : FnOk P w K mg base CX0 1 f fd ["self", "scale", "parts"] (spChInit CH) := by
  refine F.ok sc_Chances_init (fun vs H Q E h => ?_) (fun cdv A outer s H vs Q E hr h => ?_)
  · obtain ⟨p, dx, D, S, rfl, _⟩ := h
    rfl
  · obtain ⟨p, dx, D, S, rfl, hp, k⟩ := h
    refine ⟨_, pss_cons (ps_fld (pv 0) (pv 1) rfl) (pss_one (ps_fld (pv 0) (pv 2) rfl)), ?_⟩
    refine ⟨_, rfl, _, rfl, p, CH, dx, [], rfl, hp, TH.cl, TH.nScale, (by show 0 < 1000; decide), ?_⟩
    refine ⟨_, rfl, _, rfl, p, CH, dx, _, rfl, upd_same, TH.cl, TH.nParts, (by show 1 < 1000; decide), ?_⟩
    exact k _ (Eq.trans upd_same (congrArg (fun q => some (HO.ins CH dx q)) (hF_new S D))) fun b o e hb => by
      rw [upd_ne hb, upd_ne hb]
      exact e
def spNone (CB : Addr) : Sp := fun vs H Q _ => ∃ (b : Addr) (wd : Kp379.World) (L : Addr), vs = [.ref b] ∧ Bd CB H b wd.n wd.v L ∧ wd.n ≤ 4 ∧ wd.v ≤ 3 ∧
  ∀ (H' : Hp) (D : Addr), Same H H' → H D = none → H' D = some (.dT (partsOf (stands wd) fun _ => 0)) → Q (.ref D) H'
theorem ok_none_likely {f : Addr} {fd : FuncData} (F : Fun K "none_likely" "none_likely" s_none_likely f fd) (O1 : Own P w K mg base "all_stands" 1 ["board"] (spStands CB)) : FnOk P w K mg base CX0 2 f fd ["board"] (spNone CB) := by
  refine F.ok sc_none_likely (fun vs H Q E h => ?_) (fun cdv A outer s H vs Q E hr h => ?_)
  · obtain ⟨b, wd, L, rfl, _⟩ := h
    rfl
  · obtain ⟨b, wd, L, rfl, ⟨dx, hb⟩, n4, v3, k⟩ := h
    have nd := sc_none_likely.nd
    have hU := hu_of hr
    refine ⟨_, pss_cons (ps_set (i := 1) nd rfl (Or.inl rfl) pe_dnewT)
      (pss_cons (ps_for PassesOwn.never rfl (pi_list (pe_own O1 hr (pa_cons (pv 0) pa_nil))) (pg_name (i := 2) nd rfl (Or.inl rfl))
        (pss_one (ps_dput hU (pv 1) (pv 2) pe_int rfl)))
      (pss_one (ps_ret (pv 1)))), ?_⟩
    intro D hD
    have s0 : Same H (upd H D (.dT [])) := same_new hD
    have few := stands_few n4 v3
    refine ⟨_, rfl, b, wd, L, rfl, ⟨dx, s0 _ _ hb⟩, n4, v3, fun H1 r ts s1 hr0 hr1 tt => ?_⟩
    have hrD : r ≠ D := fun e => by
      rw [e, upd_same] at hr0
      cases hr0
    refine ⟨r, rfl, ⟨_, SqL.of hr1⟩, for_list (K := K) (a := r) (xs := ts.map V.ref) (fun i σ H' => (∀ c o, c ≠ D → H1 c = some o → H' c = some o) ∧ (∃ v2 : Option V, σ = [some (.ref b), some (.ref D), v2]) ∧ H' D = some (.dT (partsOf ((stands wd).take i) fun _ => 0)))
      ⟨fun c o _ e => e, ⟨none, rfl⟩, s1 _ _ upd_same⟩ (fun i σ H' _ h => SqL.of (h.1 _ _ hrD hr1)) ?_ ?_⟩
    · rintro i y σ H' hi ⟨kp, ⟨v2, rfl⟩, hD1⟩
      obtain ⟨t, ht, rfl⟩ := map_ref hi
      have hil : i < (stands wd).length := by
        rw [← tt.1]
        exact (List.getElem?_eq_some_iff.mp ht).1
      have hx := List.getElem?_eq_getElem hil
      have htt := tt.2 i t _ ht hx
      have ntD : t ≠ D := ne_of htt (s1 _ _ upd_same) (by intro z; cases z)
      refine ⟨_, rfl, _, rfl, D, _, rfl, DPut.t (k := keyS (stands wd)[i]) hD1 (kp _ _ ntD htt) ?_, ?_, ⟨_, rfl⟩, ?_⟩
      · rw [partsOf_len, List.length_take]
        exact Nat.lt_of_le_of_lt (Nat.le_trans (Nat.min_le_right _ _) few) (by decide)
      · intro c o hc e
        rw [upd_ne hc]
        exact kp _ _ hc e
      · rw [upd_same, take_more hx, ← putK_new (f := fun _ => 0) (nodup_take (stands_nodup wd) hx)]
    · rintro σ H' ⟨kp, ⟨v2, rfl⟩, hD1⟩
      rw [List.length_map, tt.1, List.take_length] at hD1
      exact ⟨_, rfl, k H' D (fun c o e => kp _ _ (ne_of_none e hD) (s1 _ _ (s0 _ _ e))) hD hD1⟩
def spSurely (CB CA CH : Addr) : Sp := fun vs H Q _ => ∃ (b st : Addr) (wd : Kp379.World) (L : Addr) (ls : List Addr) (as : List (List Trip)) (p s : Nat) (l : Bool), vs = [.ref b, .ref st] ∧ BoardAt CB CA H b wd L ls as ∧ H st = some (.tup (stV p s l)) ∧ p < wd.n ∧ s < wd.v ∧
  ∀ (H' : Hp) (o : Addr), Same H H' → ChAt CH H' o wd 1 (startI ⟨p, s, l⟩) → Q (.ref o) H'
theorem ok_surely_at {f : Addr} {fd : FuncData} (F : Fun K "surely_at" "surely_at" s_surely_at f fd) (O1 : Own P w K mg base "none_likely" 2 ["board"] (spNone CB)) (OC : OwnC P w K mg base "Chances" CH 1 ["self", "scale", "parts"] (spChInit CH)) :
    FnOk P w K mg base CX0 3 f fd ["board", "stand"] (spSurely CB CA CH) := by
  refine F.ok sc_surely_at (fun vs H Q E h => ?_) (fun cdv A outer s H vs Q E hr h => ?_)
  · obtain ⟨b, st, wd, L, ls, as, p, s, l, rfl, _⟩ := h
    rfl
  · obtain ⟨b, st, wd, L, ls, as, p, s, l, rfl, B, hst, hp, hs, k⟩ := h
    have nd := sc_surely_at.nd
    have hU := hu_of hr
    refine ⟨_, pss_cons (ps_set (i := 2) nd rfl (Or.inl rfl) (pe_own O1 hr (pa_cons (pv 0) pa_nil)))
      (pss_cons (ps_dput hU (pv 2) (pv 1) pe_int rfl)
      (pss_one (ps_ret (pe_ownC OC hr (pa_cons pe_int (pa_cons (pv 2) pa_nil)))))), ?_⟩
    refine ⟨_, rfl, b, wd, L, rfl, B.b, B.wf.n4, B.wf.v3, fun H1 D s1 hD hD1 => ?_⟩
    have few := stands_few B.wf.n4 B.wf.v3
    refine ⟨_, rfl, _, rfl, D, _, rfl, DPut.t (k := keyS ⟨p, s, l⟩) hD1 (s1 _ _ hst) (by rw [partsOf_len]; exact Nat.lt_of_le_of_lt few (by decide)), _, rfl, ?_⟩
    intro x dx' hx hdx ne
    refine ⟨x, dx', D, 1, rfl, upd_same, fun H2 h1 h2 => ⟨rfl, ?_⟩⟩
    have s3 := Same.made hx hdx h2
    refine k H2 x (fun c o e => s3 _ _ (by rw [upd_ne (ne_of_none e hD)]; exact s1 _ _ e)) ⟨dx', D, h1, s3 _ _ ?_⟩
    rw [upd_same, putK_old (stands_mem.mpr ⟨hp, hs⟩)]
    rfl
def spWays (CB CA CO : Addr) : Sp := fun vs H Q _ => ∃ (b st o : Addr) (wd : Kp379.World) (L : Addr) (ls : List Addr) (as : List (List Trip)) (z : Stand) (S : Int) (X : Later), vs = [.ref b, .ref st, .ref o] ∧ BoardAt CB CA H b wd L ls as ∧
  H st = some (.tup (stV z.p z.s z.locked)) ∧ z.p < wd.n ∧ z.s < wd.v ∧ OutAt CO H o wd.n wd.v S X ∧ ∀ (H' : Hp) (r : Addr), Same H H' → WaysAt H' r (waysI wd S X z) → Q (.ref r) H'
theorem ok_ways_from {f : Addr} {fd : FuncData} (F : Fun K "ways_from" "ways_from" s_ways_from f fd) (hP : IntC mg "PARTS" PARTS)
    (O1 : Own P w K mg base "act_done" 5 ["board", "stand", "later"] (spDone CB CA CO)) (O2 : Own P w K mg base "stands_behind" 2 ["act", "stand"] (spBehind CA)) : FnOk P w K mg base CX0 6 f fd ["board", "stand", "later"] (spWays CB CA CO) := by
  refine F.ok sc_ways_from (fun vs H Q E h => ?_) (fun cdv A outer s H vs Q E hr h => ?_)
  · obtain ⟨b, st, o, wd, L, ls, as, z, S, X, rfl, _⟩ := h
    rfl
  · obtain ⟨b, st, o, wd, L, ls, as, z, S, X, rfl, B, hst, hp, hs, HO, k⟩ := h
    have nd := sc_ways_from.nd
    refine ⟨_, pss_cons (ps_set (i := 3) nd rfl (Or.inl rfl) (pe_own O1 hr (pa_cons (pv 0) (pa_cons (pv 1) (pa_cons (pv 2) pa_nil)))))
      (pss_cons (ps_if (pt_cmpR op_isN (pv 3) pe_non (nomark _)) (pss_one (ps_ret (pe_lst (pa_cons (pe_tup (pa_cons (pv 1) (pa_cons (pe_intC hP) pa_nil))) pa_nil)))) pss_nil)
      (pss_one (ps_ret (pe_own O2 (hr.mono (by decide)) (pa_cons (pv 3) (pa_cons (pv 1) pa_nil)))))), ?_⟩
    refine ⟨_, rfl, _, rfl, _, rfl, b, st, o, wd, L, ls, as, z.p, z.s, z.locked, S, X, rfl, B, hst, hp, hs, HO, fun H1 s1 c => ?_, fun H1 t x s1 c hx HA => ?_⟩
    · refine ⟨_, rfl, rfl, _, rfl, ?_⟩
      refine iteT (A := _) (B := _) ?_
      refine ⟨_, rfl, (by show 2 ≤ sizeLine; decide), fun t ht => ⟨(by show 1 ≤ sizeLine; decide), fun r hr0 => ?_⟩⟩
      have s2 : Same H1 (upd H1 t (.tup [V.ref st, V.int PARTS])) := same_new ht
      have s3 := s2.trans (same_new (o := .lst [V.ref t]) hr0)
      refine k _ r (s1.trans s3) ⟨[(t, st)], upd_same, ?_⟩
      rw [ways_nil c]
      have ntr : t ≠ r := ne_of_none upd_same hr0
      have hst3 := (s1.trans s3) _ _ hst
      refine ⟨rfl, fun i q y h1 h2 => ?_⟩
      have hi : i = 0 := by
        have := (List.getElem?_eq_some_iff.mp h1).1
        simpa using this
      subst hi
      have e1 : (t, st) = q := by simpa using h1
      have e2 : (z, PARTS) = y := by simpa using h2
      subst e1 e2
      exact ⟨by show upd _ r _ t = _; rw [upd_ne ntr]; exact upd_same, hst3⟩
    · refine ⟨_, rfl, rfl, _, rfl, ?_⟩
      refine iteF (A := _) (B := _) ?_
      refine ⟨_, rfl, _, rfl, t, x, st, wd.n, wd.v, z.p, z.s, z.locked, rfl, HA.same s1, s1 _ _ hst, B.wf.act hp (List.mem_of_getElem? hx), B.wf.n4, fun H2 r s2 hr0 WA => ?_⟩
      refine k H2 r (s1.trans s2) ?_
      rw [ways_act c hx]
      exact WA
def spOnce (CB CA CO CH : Addr) : Sp := fun vs H Q _ => ∃ (b oc ol : Addr) (wd : Kp379.World) (L : Addr) (ls : List Addr) (as : List (List Trip)) (S : Int) (X : Later) (Sc : Int) (d : Stand → Int), vs = [.ref b, .ref oc, .ref ol] ∧ BoardAt CB CA H b wd L ls as ∧ ChAt CH H oc wd Sc d ∧ OutAt CO H ol wd.n wd.v S X ∧
  ∀ (H' : Hp) (o : Addr), Same H H' → ChAt CH H' o wd (PARTS * Sc) (stepX wd S X d) → Q (.ref o) H'
theorem ok_one_step_on {f : Addr} {fd : FuncData} (F : Fun K "one_step_on" "one_step_on" s_one_step_on f fd) (TH : TxtH K CH) (hP : IntC mg "PARTS" PARTS) (O1 : Own P w K mg base "none_likely" 2 ["board"] (spNone CB))
    (O2 : Own P w K mg base "ways_from" 6 ["board", "stand", "later"] (spWays CB CA CO)) (OC : OwnC P w K mg base "Chances" CH 1 ["self", "scale", "parts"] (spChInit CH)) : FnOk P w K mg base CX0 7 f fd ["board", "chances", "later"] (spOnce CB CA CO CH) := by
  refine F.ok sc_one_step_on (fun vs H Q E h => ?_) (fun cdv A outer s H vs Q E hr h => ?_)
  · obtain ⟨b, oc, ol, wd, L, ls, as, S, X, Sc, d, rfl, _⟩ := h
    rfl
  · obtain ⟨b, oc, ol, wd, L, ls, as, S, X, Sc, d, rfl, B, CHH, HO, k⟩ := h
    have nd := sc_one_step_on.nd
    have hU := hu_of hr
    have hr2 : Room 2 _ := hr.mono (by decide)
    refine ⟨_, pss_cons (ps_set (i := 3) nd rfl (Or.inl rfl) (pe_own O1 hr2 (pa_cons (pv 0) pa_nil)))
      (pss_cons (ps_lock (ps_for PassesOwn.never rfl (pi_itemsT (pe_fld (pv 1) rfl)) (pg_tup rfl (pgs_cons (pg_name (i := 4) nd rfl (Or.inl rfl)) (pgs_cons (pg_name (i := 5) nd rfl (Or.inl rfl)) pgs_nil)))
        (pss_one (ps_for PassesOwn.never rfl (pi_list (pe_own O2 hr (pa_cons (pv 0) (pa_cons (pv 4) (pa_cons (pv 2) pa_nil))))) (pg_tup rfl (pgs_cons (pg_name (i := 6) nd rfl (Or.inl rfl)) (pgs_cons (pg_name (i := 7) nd rfl (Or.inl rfl)) pgs_nil)))
          (pss_one (ps_daug hU (pv 3) (pv 6) (pe_op op_mul (pv 5) (pv 7)) in_add (fun _ _ _ => rfl)))))))
      (pss_one (ps_ret (pe_ownC OC hr2 (pa_cons (pe_op op_mul (pe_intC hP) (pe_fld (pv 1) rfl)) (pa_cons (pv 3) pa_nil)))))), ?_⟩
    obtain ⟨dxc, Dc, hoc, hDc⟩ := id CHH
    have few := stands_few B.wf.n4 B.wf.v3
    have n2 := B.wf.n2
    have v1 := B.wf.v1
    refine ⟨_, rfl, b, wd, L, rfl, B.b, B.wf.n4, B.wf.v3, fun H1 Dm s1 hDm0 hDm1 => ?_⟩
    have nmc : Dm ≠ Dc := fun e => by rw [e, hDc] at hDm0; cases hDm0
    refine ⟨Dc, _, s1 _ _ hDc, trivial, fun od => ?_⟩
    have noc : oc ≠ Dc := ne_of hoc hDc (by intro z; cases z)
    refine ⟨_, rfl, oc, CH, dxc, _, _, rfl, by rw [upd_ne noc]; exact s1 _ _ hoc, TH.cl, TH.nParts, hF_parts _ _, Dc, od, _, rfl, upd_same, ?_⟩
    refine for_it (walk_itemsT (d := Dc) (o := od) (kvs := partsOf (stands wd) d)) (fun i σ H' => (∀ c o, c ≠ Dc → H c = some o → H' c = some o) ∧ H' Dc = some (.frz od (.dT (partsOf (stands wd) d))) ∧
        (∃ g : Stand → Int, H' Dm = some (.dT (partsOf (stands wd) g)) ∧ ∀ y ∈ stands wd, g y = (((stands wd).take i).map fun z => d z * wsum (waysI wd S X z) y).sum) ∧ ∃ v4 v5 v6 v7 : Option V, σ = [some (.ref b), some (.ref oc), some (.ref ol), some (.ref Dm), v4, v5, v6, v7])
      ⟨fun c o hc e => by rw [upd_ne hc]; exact s1 _ _ e, upd_same, ⟨fun _ => 0, by rw [upd_ne nmc]; exact hDm1, fun y _ => rfl⟩, none, none, none, none, rfl⟩ (fun i σ H' _ h => h.2.1) ?_ ?_
    · rintro i y σ H2 H3 hi ⟨kp, hDc2, ⟨g, hDm2, hg⟩, v4, v5, v6, v7, rfl⟩ ⟨T, ky, vl, q, hkv, rfl, hT, hq, rfl⟩
      obtain ⟨z, hz, rfl, rfl⟩ := partsOf_get hkv
      obtain ⟨zp, zs⟩ := stands_mem.mp (List.mem_of_getElem? hz)
      have sT : Same H2 (upd H2 T (.tup [V.ref q, V.int (d z)])) := same_new hT
      refine ⟨T, _, rfl, SqT.of upd_same, rfl, _, _, rfl, _, _, rfl, rfl, ?_⟩
      have kpT : ∀ c o, c ≠ Dc → H c = some o → upd H2 T (.tup [V.ref q, V.int (d z)]) c = some o := fun c o hc e => sT _ _ (kp _ _ hc e)
      refine ⟨_, rfl, _, rfl, _, rfl, b, q, ol, wd, L, ls, as, z, S, X, rfl, B.keepD (fun c o e hn => kpT c o (fun w => by rw [w, hDc] at e; exact hn _ (Option.some.inj e).symm) e), sT _ _ hq, zp, zs, HO.but (by omega) (by omega) hDc kpT, fun H4 r s4 ⟨prs, hr1, pr⟩ => ?_⟩
      have s24 := sT.trans s4
      refine ⟨r, rfl, ⟨_, SqL.of hr1⟩, for_list (K := K) (a := r) (xs := prs.map fun q => V.ref q.1) (fun j σ H5 => (∀ c o, c ≠ Dm → H4 c = some o → H5 c = some o) ∧
          (∃ g' : Stand → Int, H5 Dm = some (.dT (partsOf (stands wd) g')) ∧ ∀ y ∈ stands wd, g' y = g y + d z * wsum ((waysI wd S X z).take j) y) ∧ ∃ v6 v7 : Option V, σ = [some (.ref b), some (.ref oc), some (.ref ol), some (.ref Dm), some (.ref q), some (.int (d z)), v6, v7])
        ⟨fun c o _ e => e, ⟨g, s24 _ _ hDm2, fun y _ => ?_⟩, _, _, rfl⟩ (fun j σ H5 _ h => SqL.of (h.1 _ _ (ne_of hr1 (s24 _ _ hDm2) (by intro z; cases z)) hr1)) ?_ ?_⟩
      · rw [List.take_zero]
        show g y = g y + d z * 0
        rw [Int.mul_zero, Int.add_zero]
      · rintro j y σ H5 hj ⟨kp5, ⟨g', hDm5, hg'⟩, v6, v7, rfl⟩
        obtain ⟨pq, hpq, rfl⟩ := map_ref hj
        have hjl : j < (waysI wd S X z).length := by
          rw [← pr.1]
          exact (List.getElem?_eq_some_iff.mp hpq).1
        have hc := List.getElem?_eq_getElem hjl
        obtain ⟨h1, h2⟩ := pr.2 j pq _ hpq hc
        obtain ⟨cm, c0, c1⟩ := ways_ok B.wf zp zs hc
        generalize (waysI wd S X z)[j] = cw at *
        have h1' := kp5 _ _ (ne_of h1 (s24 _ _ hDm2) (by intro z; cases z)) h1
        have h2' := kp5 _ _ (ne_of h2 (s24 _ _ hDm2) (by intro z; cases z)) h2
        refine ⟨pq.1, _, rfl, SqT.of h1', rfl, _, _, rfl, _, _, rfl, rfl, ?_⟩
        have dg : DGet H5 Dm (.ref pq.2) (some (V.int (g' cw.1))) := by
          have := DGet.t (k := keyS cw.1) hDm5 h2'
          rw [valV_parts cm] at this
          exact this
        refine ⟨_, rfl, _, rfl, Dm, _, rfl, dg, _, rfl, _, rfl, _, _, rfl, rfl, .inr ⟨by omega, by omega⟩, _, _, rfl, rfl, _, DPut.t (k := keyS cw.1) hDm5 h2' (by rw [partsOf_len]; exact Nat.lt_of_le_of_lt few (by decide)), ?_, ⟨fun y => if y = cw.1 then g' cw.1 + d z * cw.2 else g' y, ?_, fun y hy => ?_⟩, _, _, rfl⟩
        · intro c o hc e
          rw [upd_ne hc]
          exact kp5 _ _ hc e
        · rw [upd_same, ← putK_old cm]
        · rw [take_more hc, wsum_snoc, Int.mul_add, ← Int.add_assoc]
          show (if y = cw.1 then g' cw.1 + d z * cw.2 else g' y) = _
          by_cases e : y = cw.1
          · rw [if_pos e, if_pos e.symm, e, hg' _ cm]
          · rw [if_neg e, if_neg (fun q => e q.symm), Int.mul_zero, Int.add_zero]
            exact hg' y hy
      · rintro σ H5 ⟨kp5, ⟨g', hDm5, hg'⟩, v6, v7, rfl⟩
        rw [List.length_map, pr.1, List.take_length] at hg'
        refine ⟨fun c o hc e => kp5 _ _ (ne_of_none e hDm0) (s24 _ _ (kp _ _ hc e)), kp5 _ _ (fun q => nmc q.symm) (s24 _ _ hDc2), ⟨g', hDm5, fun y hy => ?_⟩, _, _, _, _, rfl⟩
        rw [hg' y hy, hg y hy, take_more hz, List.map_append, List.map_cons, List.map_nil, sum_snoc]
    · rintro σ H2 ⟨kp, hDc2, ⟨g, hDm2, hg⟩, v4, v5, v6, v7, rfl⟩
      rw [partsOf_len, List.take_length] at hg
      refine ⟨hDc2, ?_⟩
      have sE : Same H (upd H2 Dc (.dT (partsOf (stands wd) d))) := fun c o e => by
        by_cases hc : c = Dc
        · subst hc
          rw [upd_same, ← e, hDc]
        · rw [upd_ne hc]
          exact kp _ _ hc e
      refine ⟨_, rfl, oc, CH, dxc, _, _, rfl, sE _ _ hoc, TH.cl, TH.nScale, hF_scale _ _, _, _, rfl, rfl, .inl (by decide), _, rfl, ?_⟩
      intro x dx' hx hdx ne
      refine ⟨x, dx', Dm, PARTS * Sc, rfl, upd_same, fun H3 h1 h2 => ⟨rfl, ?_⟩⟩
      have s3 := Same.made hx hdx h2
      refine k H3 x (sE.trans s3) (ChAt.congr hg ⟨dx', Dm, h1, s3 _ _ ?_⟩)
      rw [upd_ne nmc]
      exact hDm2
end
end Sel

set_option maxRecDepth 100000
set_option maxHeartbeats 2000000
namespace Sel
open PySem PySem.Spec PyProof.Rows L2
open Kp379 (actsAt actAt Stand stands setActs setAct ofStand)
section
variable {P : Program} {w : PySem.World} {K : PySem.W.Frag} {mg : Str → Option Value} {base : Heap} {CB CA CO CC CI CH : Addr}
def spChances (CB CA CH : Addr) : Sp := fun vs H Q _ => ∃ (b st : Addr) (wd : Kp379.World) (L : Addr) (ls : List Addr) (as : List (List Trip)) (z : Stand) (k : Nat), vs = [.ref b, .ref st, .int (k : Int)] ∧ BoardAt CB CA H b wd L ls as ∧ H st = some (.tup (stV z.p z.s z.locked)) ∧ z.p < wd.n ∧ z.s < wd.v ∧ k ≤ 4 ∧
  ∀ (H' : Hp) (o : Addr), Same H H' → ChAt CH H' o wd (PARTS ^ k) (afterI wd z k k) → Q (.ref o) H'
theorem ok_chances_behind {f : Addr} {fd : FuncData} (F : Fun K "chances_behind" "chances_behind" s_chances_behind f fd) (hrev : mg "reversed" = none) (O1 : Own P w K mg base "outlooks_up_to" 8 ["board", "steps"] (spOutlooks CB CA CO))
    (O2 : Own P w K mg base "surely_at" 3 ["board", "stand"] (spSurely CB CA CH)) (O3 : Own P w K mg base "one_step_on" 7 ["board", "chances", "later"] (spOnce CB CA CO CH)) : FnOk P w K mg base CX0 9 f fd ["board", "stand", "steps"] (spChances CB CA CH) := by
  refine F.ok sc_chances_behind (fun vs H Q E h => ?_) (fun cdv A outer s H vs Q E hr h => ?_)
  · obtain ⟨b, st, wd, L, ls, as, z, k, rfl, _⟩ := h
    rfl
  · obtain ⟨b, st, wd, L, ls, as, z, n, rfl, B, hst, hp, hs, h4, k⟩ := h
    have nd := sc_chances_behind.nd
    refine ⟨_, pss_cons (ps_set (i := 3) nd rfl (Or.inl rfl) (pe_own O1 hr (pa_cons (pv 0) (pa_cons (pv 2) pa_nil))))
      (pss_cons (ps_set (i := 4) nd rfl (Or.inl rfl) (pe_own O2 (hr.mono (by decide)) (pa_cons (pv 0) (pa_cons (pv 1) pa_nil))))
      (pss_cons (ps_for PassesOwn.never rfl (pi_reversed (by rfl) hrev (pa_cons (pe_slice sl_list (pv 3) po_none (po_some (pv 2))) pa_nil)) (pg_name (i := 5) nd rfl (Or.inl rfl))
        (pss_one (ps_set (i := 4) nd rfl (Or.inl rfl) (pe_own O3 (hr.mono (by decide)) (pa_cons (pv 0) (pa_cons (pv 4) (pa_cons (pv 5) pa_nil)))))))
      (pss_one (ps_ret (pv 4))))), ?_⟩
    refine ⟨_, rfl, _, rfl, b, wd, L, ls, as, n, rfl, B, h4, fun H1 r os s1 hr0 hr1 hl OS => ?_⟩
    refine ⟨_, rfl, _, rfl, b, st, wd, L, ls, as, z.p, z.s, z.locked, rfl, B.same s1, s1 _ _ hst, hp, hs, fun H2 o s2 CHH => ?_⟩
    have s12 := s1.trans s2
    refine ⟨_, rfl, _, rfl, _, rfl, r, _, rfl, SqL.of (s2 _ _ hr1), fun p hp0 => ?_⟩
    rw [cut_hi, ← List.map_take]
    have s3 : Same H2 (upd H2 p (.lst ((os.take n).map V.ref))) := same_new hp0
    have tl : ((os.take n).map V.ref).length = n := by
      rw [List.length_map, List.length_take]
      omega
    refine ⟨p, _, rfl, SqL.of upd_same, ?_⟩
    refine for_it (walk_rev (K := K) (a := p) (xs := (os.take n).map V.ref)) (fun i σ H' => Same (upd H2 p (.lst ((os.take n).map V.ref))) H' ∧ ∃ (o : Addr) (v5 : Option V), σ = [some (.ref b), some (.ref st), some (.int (n : Int)), some (.ref r), some (.ref o), v5] ∧ ChAt CH H' o wd (PARTS ^ i) (afterI wd z n i))
      ⟨Same.refl _, o, none, rfl, CHH.same s3⟩ (fun i σ H' _ h => SqL.of (h.1 _ _ upd_same)) ?_ ?_
    · rintro i y σ H4 H5 hi ⟨s4, o4, v5, rfl, CH4⟩ ⟨rfl, hy⟩
      rw [tl] at hi hy
      obtain ⟨ol, hol, rfl⟩ := map_ref hy
      rw [List.getElem?_take_of_lt (by omega)] at hol
      have s04 := (s12.trans s3).trans s4
      refine ⟨_, rfl, _, rfl, _, rfl, b, o4, ol, wd, L, ls, as, _, _, _, _, rfl, B.same s04, CH4, (OS _ ol hol).same ((s2.trans s3).trans s4), fun H6 o6 s6 CH6 => ?_⟩
      refine ⟨s4.trans s6, o6, _, rfl, ?_⟩
      have e1 : PARTS ^ (i + 1) = PARTS * PARTS ^ i := by rw [Int.pow_succ, Int.mul_comm]
      rw [e1]
      refine ChAt.congr (fun y hy => ?_) CH6
      have e2 : n - 1 - i = n - i - 1 := by omega
      rw [e2, stepX_is (stands_mem.mp hy).1]
      rfl
    · rintro σ H4 ⟨s4, o4, v5, rfl, CH4⟩
      rw [tl] at CH4
      exact ⟨_, rfl, k H4 o4 ((s12.trans s3).trans s4) CH4⟩
def spTurning (CB CA CO : Addr) : Sp := fun vs H Q _ => ∃ (b o : Addr) (wd : Kp379.World) (L : Addr) (ls : List Addr) (as : List (List Trip)) (s : Nat) (S : Int) (X : Later), vs = [.ref b, .int (s : Int), .ref o] ∧ BoardAt CB CA H b wd L ls as ∧ s < wd.v ∧ OutAt CO H o wd.n wd.v S X ∧
  ∀ (H' : Hp) (r : Addr), Same H H' → H r = none → H' r = some (.lst (nums (turnX wd S X s))) → Q (.ref r) H'
theorem ok_turning_places {f : Addr} {fd : FuncData} (F : Fun K "turning_places" "turning_places" s_turning_places f fd) (T : Txt K CB CA CO CC) (hrange : mg "range" = none)
    (O1 : Own P w K mg base "act_done" 5 ["board", "stand", "later"] (spDone CB CA CO)) (O2 : Own P w K mg base "self_behind" 1 ["act", "who", "locked"] (spSelfB CA)) : FnOk P w K mg base CX0 6 f fd ["board", "who", "later"] (spTurning CB CA CO) := by
  refine F.ok sc_turning_places (fun vs H Q E h => ?_) (fun cdv A outer s H vs Q E hr h => ?_)
  · obtain ⟨b, o, wd, L, ls, as, s, S, X, rfl, _⟩ := h
    rfl
  · obtain ⟨b, o, wd, L, ls, as, s, S, X, rfl, B, hs, HO, k⟩ := h
    have nd := sc_turning_places.nd
    refine ⟨_, pss_cons (ps_set (i := 3) nd rfl (Or.inl rfl) (pe_lst pa_nil))
      (pss_cons (ps_for PassesOwn.never rfl (pi_range1 rfl hrange (pa_cons (pe_fld (pv 0) rfl) pa_nil)) (pg_name (i := 4) nd rfl (Or.inl rfl))
        (pss_cons (ps_set (i := 5) nd rfl (Or.inl rfl) (pe_own O1 hr (pa_cons (pv 0) (pa_cons (pe_tup (pa_cons (pv 4) (pa_cons (pv 1) (pa_cons pe_int pa_nil)))) (pa_cons (pv 2) pa_nil)))))
        (pss_one (ps_if (PW.pt (pw_and (pt_cmpR op_notN (pv 5) pe_non (nomark _)) (pw_and1 (pt_cmpR op_ne (pe_own O2 (hr.mono (by decide)) (pa_cons (pv 5) (pa_cons (pv 1) (pa_cons pe_int pa_nil)))) (pv 1) (nomark _)))))
          (pss_one (ps_expr (pe_bm PySem.F.plainAttrs_list PySem.F.slot_list_append PySem.F.type_list_append mt_append (pv 3) (pa_cons (pv 4) pa_nil)))) pss_nil))))
      (pss_one (ps_ret (pv 3)))), ?_⟩
    obtain ⟨dx, hb⟩ := B.bd
    have n4 := B.wf.n4
    refine ⟨Nat.zero_le _, fun r hr0 => ?_⟩
    have s0 : Same H (upd H r (.lst [])) := same_new hr0
    refine ⟨_, rfl, b, CB, dx, _, _, rfl, s0 _ _ hb, T.clB, T.nPlaces, bF_places _ _ _, (wd.n : Int), rfl, by omega, by omega, ?_⟩
    let tst : Nat → Bool := fun p => match doneX wd S X ⟨p, s, false⟩ with
      | none => false
      | some a => selfB (actAt wd p a) s false != s
    refine for_range (n := ((wd.n : Int) - 0).toNat) (fun i σ H' => Same H H' ∧ (∃ v4 v5 : Option V, σ = [some (.ref b), some (.int (s : Int)), some (.ref o), some (.ref r), v4, v5]) ∧ H' r = some (.lst (nums ((List.range i).filter tst))))
      ⟨s0, ⟨none, none, rfl⟩, upd_same⟩ ?_ ?_
    · rintro i σ H' hi ⟨s1, ⟨v4, v5, rfl⟩, hr1⟩
      have hi' : i < wd.n := by omega
      have ei : (0 + (i : Int)) = (i : Int) := by omega
      have no : ∀ (H2 : Hp) (v4 v5 : Option V), Same H' H2 → tst i = false → Same H H2 ∧ (∃ v4' v5' : Option V, [some (.ref b), some (.int (s : Int)), some (.ref o), some (.ref r), v4, v5] = [some (.ref b), some (.int (s : Int)), some (.ref o), some (.ref r), v4', v5']) ∧ H2 r = some (.lst (nums ((List.range (i + 1)).filter tst))) := fun H2 v4 v5 s2 ht => by
        refine ⟨s1.trans s2, ⟨_, _, rfl⟩, ?_⟩
        rw [List.range_succ, List.filter_append, List.filter_cons, if_neg (by rw [ht]; decide), List.filter_nil, List.append_nil]
        exact s2 _ _ hr1
      refine ⟨_, rfl, _, rfl, _, rfl, (by show 3 ≤ sizeLine; decide), fun t ht => ?_⟩
      rw [ei]
      have st : Same H' (upd H' t (.tup (stV i s false))) := same_new ht
      have s1t := s1.trans st
      refine ⟨_, rfl, b, t, o, wd, L, ls, as, i, s, false, S, X, rfl, B.same s1t, upd_same, hi', hs, HO.same s1t, fun H2 s2 c => ?_, fun H2 tr x s2 c hx HA => ?_⟩
      · refine ⟨_, rfl, rfl, _, rfl, ?_⟩
        refine iteF (A := _) (B := _) ?_
        refine iteF (A := _) (B := _) ?_
        refine no H2 _ _ (st.trans s2) ?_
        show (match doneX wd S X ⟨i, s, false⟩ with
          | none => false
          | some a => selfB (actAt wd i a) s false != s) = false
        unfold doneX
        rw [if_pos (by show (actsAt wd i).isEmpty = true; rw [c]; rfl)]
      · refine ⟨_, rfl, rfl, _, rfl, ?_⟩
        refine iteT (A := _) (B := _) ?_
        refine ⟨_, rfl, _, rfl, tr, x, s, false, rfl, HA.same s2, _, rfl, rfl, _, rfl, ?_⟩
        have et : tst i = (selfB x s false != s) := by
          show (match doneX wd S X ⟨i, s, false⟩ with
            | none => false
            | some a => selfB (actAt wd i a) s false != s) = _
          unfold doneX
          rw [if_neg (by show ¬ (actsAt wd i).isEmpty = true; rw [List.isEmpty_iff]; exact c)]
          simp only
          rw [actAt_of hx]
        have s12 := s1.trans (st.trans s2)
        by_cases e : selfB x s false = s
        · refine ifF (by rw [e]; simp) ?_
          refine no H2 _ _ (st.trans s2) ?_
          rw [et, e]
          simp
        · refine ifT (by rw [decide_eq_false (by intro z; injection z with z; omega)]; rfl) ?_
          refine ⟨_, rfl, .inl ⟨rfl, _, SqL.of ((st.trans s2) _ _ hr1)⟩, _, rfl, r, _, _, rfl, rfl, (st.trans s2) _ _ hr1, ?_, ?_, ⟨_, _, rfl⟩, ?_⟩
          · unfold nums
            rw [List.length_map]
            exact Nat.lt_of_le_of_lt (List.length_filter_le _ _) (Nat.lt_of_le_of_lt (by rw [List.length_range]; omega) (show 4 < sizeLine by decide))
          · intro c' u e'
            rw [upd_ne (ne_of_none e' hr0)]
            exact s12 _ _ e'
          · rw [upd_same, List.range_succ, List.filter_append, List.filter_cons, if_pos (by rw [et]; simp [e]), List.filter_nil]
            unfold nums
            rw [List.map_append]
            rfl
    · rintro σ H' ⟨s1, ⟨v4, v5, rfl⟩, hr1⟩
      have e : ((wd.n : Int) - 0).toNat = wd.n := by omega
      rw [e] at hr1
      exact ⟨_, rfl, k H' r s1 hr0 hr1⟩
end
end Sel

set_option maxRecDepth 100000
set_option maxHeartbeats 2000000
namespace Sel
open PySem PySem.Spec PyProof.Rows L2
open Kp379 (actsAt actAt Stand stands setActs setAct ofStand)
section
variable {P : Program} {w : PySem.World} {K : PySem.W.Frag} {mg : Str → Option Value} {base : Heap} {CB CA CO CC CI CH : Addr}
def mkTurns : List Nat → Option Kp379.Call
  | [s, k] => some (.turns s k)
  | _ => none
def mkNever : List Nat → Option Kp379.Call
  | [s, k] => some (.never s k)
  | _ => none
theorem ok_answer_after {f : Addr} {fd : FuncData} (F : Fun K "answer_after" "answer_after" s_answer_after f fd) (TH : TxtH K CH)
    (O1 : Own P w K mg base "refusal_of_stand" 3 ["board", "stand", "steps", "least_steps"] (spRefuse CB)) (O2 : Own P w K mg base "all_lowest_terms" 3 ["tops", "bottom"] (spLows K)) (O3 : Own P w K mg base "all_stands" 1 ["board"] (spStands CB))
    (O4 : Own P w K mg base "chances_behind" 9 ["board", "stand", "steps"] (spChances CB CA CH)) : FnOk P w K mg base CX0 10 f fd ["board", "stand", "steps"] (spQ CB CA .after) := by
  refine F.ok sc_answer_after (fun vs H Q E h => ?_) (fun cdv A outer s H vs Q E hr h => ?_)
  · obtain ⟨b, st, wd, L, ls, as, p, s, l, k, rfl, _⟩ := h
    rfl
  · obtain ⟨b, st, wd, L, ls, as, p, s, l, n, rfl, hst, B, k⟩ := h
    have nd := sc_answer_after.nd
    have hU := hu_of hr
    have hr1 : Room 1 _ := hr.mono (by decide)
    refine ⟨_, pss_cons (ps_set (i := 3) nd rfl (Or.inl rfl) (pe_own O1 (hr.mono (by decide)) (pa_cons (pv 0) (pa_cons (pv 1) (pa_cons (pv 2) (pa_cons pe_int pa_nil))))))
      (pss_cons (ps_if (pt_cmpR op_lt (pv 3) pe_int (nomark _)) (pss_one (ps_ret (pe_lst (pa_cons (pv 3) pa_nil)))) pss_nil)
      (pss_cons (ps_set (i := 4) nd rfl (Or.inr rfl) (pe_own O4 hr (pa_cons (pv 0) (pa_cons (pv 1) (pa_cons (pv 2) pa_nil)))))
      (pss_one (ps_ret (pe_own O2 (hr.mono (by decide)) (pa_cons (pe_lc (own := [("other", 5)]) (g := gName 5) (tt := tYes) (te := tDGet (tFld K (tVar 4) "parts") (tVar 5)) rfl nd (pi_list (pe_own O3 hr1 (pa_cons (pv 0) pa_nil)))
        (blkOk_by (N := n_answer_after) (sc := defScope s_answer_after) (by decide +kernel)) (fun _ _ _ _ _ => pg_name (i := 5) nd rfl (Or.inl rfl)) (fun _ _ _ _ _ => pts_nil)
        (fun _ _ _ _ _ => pe_dget hU (pe_fld (pv 4) rfl) (pv 5) (fun _ _ => rfl))) (pa_cons (pe_fld (pv 4) rfl) pa_nil))))))), ?_⟩
    have stp : Kp379.step (some wd) (.after p s l n) = ofStand (some wd) wd p s l n 0 (fun x => Kp379.frs (Kp379.after wd x n)) := rfl
    refine ⟨_, rfl, _, rfl, _, rfl, b, st, wd, L, p, s, l, n, 0, rfl, B.b, hst, ?_⟩
    refine ⟨_, rfl, _, _, rfl, rfl, _, rfl, ?_⟩
    rcases refuse_cases wd p s l n 0 (some wd) (fun x => Kp379.frs (Kp379.after wd x n)) with ⟨c, e⟩ | ⟨c, hp, hs, hl, h4, h1, e⟩
    · refine ifT (decide_eq_true c) ?_
      exact ⟨_, rfl, (by show 1 ≤ sizeLine; decide), fun r hr0 => k.no B (stp.trans e) (Same.refl _) hr0⟩
    · rw [c]
      refine ifF rfl ?_
      rw [stN_stV p s hl] at hst
      have few := stands_few B.wf.n4 B.wf.v3
      refine ⟨_, rfl, _, rfl, _, rfl, b, st, wd, L, ls, as, ⟨p, s, l == 1⟩, n, rfl, B, hst, hp, hs, h4, fun H1 o s1 CHH => ?_⟩
      refine ⟨_, rfl, b, wd, L, rfl, (B.same s1).b, B.wf.n4, B.wf.v3, fun H2 r ts s2 hr0 hr2 tt => ?_⟩
      refine ⟨r, rfl, ⟨_, SqL.of hr2⟩, fun D hD => ?_⟩
      obtain ⟨dxc, Dc, hoc, hDc⟩ := CHH.same s2
      refine lc_list (K := K) (a := r) (xs := ts.map V.ref) (fun i H' => Same H2 H' ∧ H' D = some (.lst ((((stands wd).map fun y => afterI wd ⟨p, s, l == 1⟩ n n y).take i).map V.int))) ⟨same_new hD, upd_same⟩ (fun i H' _ h => SqL.of (h.1 _ _ hr2)) ?_ ?_
      · rintro i y H' hi ⟨s3, hD1⟩
        obtain ⟨t, ht, rfl⟩ := map_ref hi
        have hil : i < (stands wd).length := by
          rw [← tt.1]
          exact (List.getElem?_eq_some_iff.mp ht).1
        have hx := List.getElem?_eq_getElem hil
        have htt := s3 _ _ (tt.2 i t _ ht hx)
        have dg : DGet H' Dc (.ref t) (some (V.int (afterI wd ⟨p, s, l == 1⟩ n n (stands wd)[i]))) := by
          have := DGet.t (k := keyS (stands wd)[i]) (s3 _ _ hDc) htt
          rw [valV_parts (List.getElem_mem hil)] at this
          exact this
        refine ⟨rfl, yesT ?_⟩
        refine ⟨_, rfl, o, CH, dxc, _, _, rfl, s3 _ _ hoc, TH.cl, TH.nParts, hF_parts _ _, _, rfl, Dc, _, rfl, dg, ?_⟩
        refine ⟨_, hD1, (by rw [List.length_map, List.length_take, List.length_map]; exact Nat.lt_of_le_of_lt (Nat.le_trans (Nat.min_le_right _ _) few) (by decide)), ?_, ?_⟩
        · intro c u e
          rw [upd_ne (ne_of_none e hD)]
          exact s3 _ _ e
        · have hx2 : ((stands wd).map fun y => afterI wd ⟨p, s, l == 1⟩ n n y)[i]? = some (afterI wd ⟨p, s, l == 1⟩ n n (stands wd)[i]) := by
            rw [List.getElem?_map, hx]
            rfl
          rw [upd_same, take_more hx2, List.map_append]
          rfl
      · rintro H' ⟨s3, hD1⟩
        rw [List.length_map, tt.1, List.take_of_length_le (by simp)] at hD1
        refine ⟨_, rfl, o, CH, dxc, _, _, rfl, s3 _ _ hoc, TH.cl, TH.nScale, hF_scale _ _, D, _, _, rfl, SqL.of hD1, by rw [List.length_map]; omega, powPos n, pow_small h4, fun H4 r4 s4 hr4 hr5 => ?_⟩
        rw [lows_ans, List.map_map] at hr5
        have s04 := (s1.trans s2).trans s3
        refine k.query B ?_ (s04.trans s4) (s04.free hr4) hr5
        rw [stp, e, after_is B.wf]
        rfl
/-- how likely it's who, of the first i stands -/
def selfSum (zs : List Stand) (f : Stand → Int) (s : Nat) : Int := (zs.map fun y => if y.s = s then f y else 0).sum
theorem ok_answer_selves {f : Addr} {fd : FuncData} (F : Fun K "answer_selves" "answer_selves" s_answer_selves f fd) (T : Txt K CB CA CO CC) (TH : TxtH K CH)
    (O1 : Own P w K mg base "refusal_of_stand" 3 ["board", "stand", "steps", "least_steps"] (spRefuse CB)) (O2 : Own P w K mg base "all_lowest_terms" 3 ["tops", "bottom"] (spLows K))
    (O4 : Own P w K mg base "chances_behind" 9 ["board", "stand", "steps"] (spChances CB CA CH)) : FnOk P w K mg base CX0 10 f fd ["board", "stand", "steps"] (spQ CB CA .selves) := by
  refine F.ok sc_answer_selves (fun vs H Q E h => ?_) (fun cdv A outer s H vs Q E hr h => ?_)
  · obtain ⟨b, st, wd, L, ls, as, p, s, l, k, rfl, _⟩ := h
    rfl
  · obtain ⟨b, st, wd, L, ls, as, p, s, l, n, rfl, hst, B, k⟩ := h
    have nd := sc_answer_selves.nd
    refine ⟨_, pss_cons (ps_set (i := 3) nd rfl (Or.inl rfl) (pe_own O1 (hr.mono (by decide)) (pa_cons (pv 0) (pa_cons (pv 1) (pa_cons (pv 2) (pa_cons pe_int pa_nil))))))
      (pss_cons (ps_if (pt_cmpR op_lt (pv 3) pe_int (nomark _)) (pss_one (ps_ret (pe_lst (pa_cons (pv 3) pa_nil)))) pss_nil)
      (pss_cons (ps_set (i := 4) nd rfl (Or.inl rfl) (pe_own O4 hr (pa_cons (pv 0) (pa_cons (pv 1) (pa_cons (pv 2) pa_nil)))))
      (pss_cons (ps_set (i := 5) nd rfl (Or.inl rfl) (pe_op op_rep (pe_lst (pa_cons pe_int pa_nil)) (pe_fld (pv 0) rfl)))
      (pss_cons (ps_lock (ps_for PassesOwn.never rfl (pi_itemsT (pe_fld (pv 4) rfl)) (pg_tup rfl (pgs_cons (pg_name (i := 6) nd rfl (Or.inl rfl)) (pgs_cons (pg_name (i := 7) nd rfl (Or.inl rfl)) pgs_nil)))
        (pss_one (ps_augS (pv 5) (pe_ix ix_tup (pv 6) pe_int (fun _ _ => rfl)) get_list (pv 7) ip_add set_list))))
      (pss_one (ps_ret (pe_own O2 (hr.mono (by decide)) (pa_cons (pv 5) (pa_cons (pe_fld (pv 4) rfl) pa_nil))))))))), ?_⟩
    have stp : Kp379.step (some wd) (.selves p s l n) = ofStand (some wd) wd p s l n 0 (fun x => Kp379.frs (Kp379.selves wd x n)) := rfl
    refine ⟨_, rfl, _, rfl, _, rfl, b, st, wd, L, p, s, l, n, 0, rfl, B.b, hst, ?_⟩
    refine ⟨_, rfl, _, _, rfl, rfl, _, rfl, ?_⟩
    rcases refuse_cases wd p s l n 0 (some wd) (fun x => Kp379.frs (Kp379.selves wd x n)) with ⟨c, e⟩ | ⟨c, hp, hs, hl, h4, h1, e⟩
    · refine ifT (decide_eq_true c) ?_
      exact ⟨_, rfl, (by show 1 ≤ sizeLine; decide), fun r hr0 => k.no B (stp.trans e) (Same.refl _) hr0⟩
    · rw [c]
      refine ifF rfl ?_
      rw [stN_stV p s hl] at hst
      have v3 := B.wf.v3
      obtain ⟨dx, hb⟩ := B.bd
      refine ⟨_, rfl, _, rfl, _, rfl, b, st, wd, L, ls, as, ⟨p, s, l == 1⟩, n, rfl, B, hst, hp, hs, h4, fun H1 o s1 CHH => ?_⟩
      have fin : ((List.range wd.v).map ((fun x => Kp340.fr x (PARTS ^ n)) ∘ selfSum (stands wd) (afterI wd ⟨p, s, l == 1⟩ n n))) = Kp379.selves wd ⟨p, s, l == 1⟩ n := by
        rw [selves_is B.wf]
        rfl
      generalize afterI wd ⟨p, s, l == 1⟩ n n = af at *
      obtain ⟨dxc, Dc, hoc, hDc⟩ := id CHH
      refine ⟨by decide, fun q hq => ?_⟩
      have s2 : Same H1 (upd H1 q (.lst [V.int 0])) := same_new hq
      refine ⟨_, rfl, b, CB, dx, _, _, rfl, s2 _ _ (s1 _ _ hb), T.clB, T.nSelves, bF_selves _ _ _, q, _, _, rfl, rfl, upd_same, by omega, by omega, ?_, fun r hr0 => ?_⟩
      · show 1 * ((wd.v : Int)).toNat ≤ sizeLine
        exact Nat.le_trans (show 1 * ((wd.v : Int)).toNat ≤ 3 by omega) (by decide)
      have s3 := s2.trans (same_new (o := .lst (List.replicate ((wd.v : Int)).toNat [V.int 0]).flatten) hr0)
      have hr1 : upd (upd H1 q (.lst [V.int 0])) r (.lst (List.replicate ((wd.v : Int)).toNat [V.int 0]).flatten) r = some (.lst (((List.range wd.v).map (selfSum [] af)).map V.int)) := by
        rw [upd_same, rep_zeros wd.v (fun _ _ _ _ => 0) 0 0 false (fun _ => rfl), List.map_map]
        rfl
      have hrH1 : H1 r = none := s2.free hr0
      show tLock _ _ _ (upd (upd H1 q (.lst [V.int 0])) r (.lst (List.replicate ((wd.v : Int)).toNat [V.int 0]).flatten))
      generalize upd (upd H1 q (.lst [V.int 0])) r (.lst (List.replicate ((wd.v : Int)).toNat [V.int 0]).flatten) = H3 at *
      refine ⟨Dc, _, s3 _ _ hDc, trivial, fun od => ?_⟩
      have noc : o ≠ Dc := ne_of hoc hDc (by intro z; cases z)
      have nrc : r ≠ Dc := ne_of hr1 (s3 _ _ hDc) (by intro z; cases z)
      refine ⟨_, rfl, o, CH, dxc, _, _, rfl, by rw [upd_ne noc]; exact s3 _ _ hoc, TH.cl, TH.nParts, hF_parts _ _, Dc, od, _, rfl, upd_same, ?_⟩
      refine for_it (walk_itemsT (d := Dc) (o := od) (kvs := partsOf (stands wd) af)) (fun i σ H' => (∀ c u, c ≠ Dc → H1 c = some u → H' c = some u) ∧ H' Dc = some (.frz od (.dT (partsOf (stands wd) af))) ∧
          H' r = some (.lst (((List.range wd.v).map (selfSum ((stands wd).take i) af)).map V.int)) ∧ ∃ v6 v7 : Option V, σ = [some (.ref b), some (.ref st), some (.int (n : Int)), some (.int 0), some (.ref o), some (.ref r), v6, v7])
        ⟨fun c u hc e => by rw [upd_ne hc]; exact s3 _ _ e, upd_same, by rw [upd_ne nrc]; exact hr1, none, none, rfl⟩ (fun i σ H' _ h => h.2.1) ?_ ?_
      · rintro i y σ H4 H5 hi ⟨kp, hDc4, hr4, v6, v7, rfl⟩ ⟨T1, ky, vl, q1, hkv, rfl, hT, hq1, rfl⟩
        obtain ⟨z, hz, rfl, rfl⟩ := partsOf_get hkv
        obtain ⟨zp, zs⟩ := stands_mem.mp (List.mem_of_getElem? hz)
        have sT : Same H4 (upd H4 T1 (.tup [V.ref q1, V.int (af z)])) := same_new hT
        refine ⟨T1, _, rfl, SqT.of upd_same, rfl, _, _, rfl, _, _, rfl, rfl, ?_⟩
        have hr5 := sT _ _ hr4
        have hz5 := sT _ _ hq1
        have hDc5 := sT _ _ hDc4
        have kp5 : ∀ c u, c ≠ Dc → H1 c = some u → upd H4 T1 (.tup [V.ref q1, V.int (af z)]) c = some u := fun c u hc e => sT _ _ (kp _ _ hc e)
        show tAugS _ _ _ _ _ _ _ _ (upd H4 T1 (.tup [V.ref q1, V.int (af z)]))
        generalize upd H4 T1 (.tup [V.ref q1, V.int (af z)]) = H6 at *
        refine ⟨_, rfl, _, rfl, q1, _, _, _, rfl, rfl, SqT.of hz5, at_of (j := 1) (v := V.int (z.s : Int)) rfl rfl, r, _, z.s, V.int (selfSum ((stands wd).take i) af z.s), rfl, rfl, SqL.of hr5, by rw [List.getElem?_map, List.getElem?_map, range_get zs]; rfl, _, rfl, _, _, rfl, rfl, r, _, (z.s : Int), z.s, rfl, rfl, hr5, ?_, ?_, ?_, ?_, _, _, rfl⟩
        · unfold ixN
          rw [if_pos (by omega), if_pos (by rw [List.length_map, List.length_map, List.length_range]; omega), Int.toNat_natCast]
        · intro c u hc e
          rw [upd_ne (ne_of_none e hrH1)]
          exact kp5 c u hc e
        · rw [upd_ne (fun q => nrc q.symm)]
          exact hDc5
        · rw [upd_same]
          congr 2
          apply List.ext_getElem?
          intro j
          by_cases hj : j < wd.v
          · rw [List.getElem?_map, List.getElem?_map, range_get hj]
            have em : selfSum ((stands wd).take (i + 1)) af j = selfSum ((stands wd).take i) af j + if z.s = j then af z else 0 := by
              unfold selfSum
              rw [take_more hz, List.map_append, List.map_cons, List.map_nil, sum_snoc]
            by_cases ej : j = z.s
            · subst ej
              rw [List.getElem?_set_self (by rw [List.length_map, List.length_map, List.length_range]; exact zs)]
              show _ = some (V.int (selfSum ((stands wd).take (i + 1)) af z.s))
              rw [em, if_pos rfl]
            · rw [List.getElem?_set_ne (fun q => ej q.symm), List.getElem?_map, List.getElem?_map, range_get hj]
              show some (V.int (selfSum ((stands wd).take i) af j)) = some (V.int (selfSum ((stands wd).take (i + 1)) af j))
              rw [em, if_neg (fun q => ej q.symm), Int.add_zero]
          · rw [List.getElem?_eq_none (by simp; omega), List.getElem?_eq_none (by simp; omega)]
      · rintro σ H4 ⟨kp, hDc4, hr4, v6, v7, rfl⟩
        rw [partsOf_len, List.take_length] at hr4
        refine ⟨hDc4, ?_⟩
        have sE : Same H1 (upd H4 Dc (.dT (partsOf (stands wd) af))) := fun c u e => by
          by_cases hc : c = Dc
          · subst hc
            rw [upd_same, ← e, hDc]
          · rw [upd_ne hc]
            exact kp _ _ hc e
        refine ⟨_, rfl, _, rfl, o, CH, dxc, _, _, rfl, sE _ _ hoc, TH.cl, TH.nScale, hF_scale _ _, r, _, _, rfl, SqL.of (by rw [upd_ne nrc]; exact hr4), by rw [List.length_map, List.length_range]; omega, powPos n, pow_small h4, fun H5 r5 s5 hr50 hr51 => ?_⟩
        rw [lows_ans, List.map_map] at hr51
        refine k.query B ?_ ((s1.trans sE).trans s5) ((s1.trans sE).free hr50) hr51
        rw [stp, e, fin]
theorem ok_answer_turns {f : Addr} {fd : FuncData} (F : Fun K "answer_turns" "answer_turns" s_answer_turns f fd) (hlen : mg "len" = none)
    (O1 : Own P w K mg base "refusal_of_self" 2 ["board", "who", "steps", "least_steps"] (spRefuseS CB)) (O2 : Own P w K mg base "turning_places" 6 ["board", "who", "later"] (spTurning CB CA CO))
    (O4 : Own P w K mg base "outlook_with" 9 ["board", "steps"] (spOutlook CB CA CO)) : FnOk P w K mg base CX0 10 f fd ["board", "who", "steps"] (spA CB CA mkTurns) := by
  refine F.ok sc_answer_turns (fun vs H Q E h => ?_) (fun cdv A outer s H vs Q E hr h => ?_)
  · obtain ⟨b, wd, L, ls, as, ns, c, rfl, e, _⟩ := h
    match ns, e with
    | [p, a], _ => rfl
  · obtain ⟨b, wd, L, ls, as, ns, c, rfl, e, B, k⟩ := h
    match ns, e with
    | [s, n], e =>
      have ec : Kp379.Call.turns s n = c := Option.some.inj e
      subst ec
      have nd := sc_answer_turns.nd
      refine ⟨_, pss_cons (ps_set (i := 3) nd rfl (Or.inl rfl) (pe_own O1 (hr.mono (by decide)) (pa_cons (pv 0) (pa_cons (pv 1) (pa_cons (pv 2) (pa_cons pe_int pa_nil))))))
        (pss_cons (ps_if (pt_cmpR op_lt (pv 3) pe_int (nomark _)) (pss_one (ps_ret (pe_lst (pa_cons (pv 3) pa_nil)))) pss_nil)
        (pss_cons (ps_set (i := 4) nd rfl (Or.inl rfl) (pe_own O2 (hr.mono (by decide)) (pa_cons (pv 0) (pa_cons (pv 1) (pa_cons (pe_own O4 hr (pa_cons (pv 0) (pa_cons (pe_op op_sub (pv 2) pe_int) pa_nil))) pa_nil)))))
        (pss_one (ps_ret (pe_op op_cat (pe_lst (pa_cons (pe_callB call_len_seq (by rfl) hlen PySem.boot_len (pa_cons (pv 4) pa_nil)) pa_nil)) (pv 4)))))), ?_⟩
      have stp : Kp379.step (some wd) (.turns s n) = (some wd, if Kp379.isSelf wd s = false then Kp379.say (-2) else if n < 1 ∨ 4 < n then Kp379.say (-22) else Kp379.row (Kp379.turnsAt wd s n)) := rfl
      unfold Kp379.isSelf at stp
      simp only [decide_eq_false_iff_not] at stp
      refine ⟨_, rfl, _, rfl, _, rfl, b, wd, L, s, n, 1, rfl, B.b, ?_⟩
      refine ⟨_, rfl, _, _, rfl, rfl, _, rfl, ?_⟩
      rcases refuseS_cases wd s n 1 with ⟨hs, c⟩ | ⟨hs, h4, c⟩ | ⟨hs, h4, h1, c⟩
      · rw [c]
        refine ifT rfl ?_
        exact ⟨_, rfl, (by show 1 ≤ sizeLine; decide), fun r hr0 => k.no B (by rw [stp, if_pos hs]) (Same.refl _) hr0⟩
      · rw [c]
        refine ifT rfl ?_
        exact ⟨_, rfl, (by show 1 ≤ sizeLine; decide), fun r hr0 => k.no B (by rw [stp, if_neg (by omega), if_pos (by omega)]) (Same.refl _) hr0⟩
      · rw [c]
        refine ifF rfl ?_
        rw [if_neg (by omega), if_neg (by omega)] at stp
        obtain ⟨n', rfl⟩ : ∃ n', n = n' + 1 := ⟨n - 1, by omega⟩
        refine ⟨_, rfl, _, rfl, _, rfl, _, rfl, _, _, rfl, rfl, b, wd, L, ls, as, n', (by show _ = [V.ref b, V.int (n' : Int)]; simp), B, by omega, fun H1 o s1 HO => ?_⟩
        refine ⟨b, o, wd, L, ls, as, s, _, _, rfl, B.same s1, hs, HO, fun H2 r s2 hr0 hr2 => ?_⟩
        rw [← turnX_is B.wf hs] at hr2
        have ml : (Kp379.turnsAt wd s (n' + 1)).length ≤ 4 := by
          rw [turnX_is B.wf hs]
          unfold turnX
          refine Nat.le_trans (List.length_filter_le _ _) ?_
          rw [List.length_range]
          exact B.wf.n4
        have s02 := s1.trans s2
        refine ⟨_, rfl, r, _, rfl, .inl (SqL.of hr2), (by show 1 ≤ sizeLine; decide), fun t ht => ?_⟩
        have hr4 := (same_new (o := .lst [V.int (((nums (Kp379.turnsAt wd s (n' + 1))).length : Nat) : Int)]) ht) _ _ hr2
        refine ⟨_, rfl, t, r, _, _, rfl, rfl, upd_same, hr4, ?_, fun t2 ht2 => ?_⟩
        · refine Nat.le_trans (show 1 + (nums _).length ≤ 5 from ?_) (by decide)
          unfold nums
          rw [List.length_map]
          omega
        · refine k.query B stp ((s02.trans (same_new ht)).trans (same_new ht2)) ((s02.trans (same_new ht)).free ht2) ?_
          rw [upd_same]
          unfold ansV Kp379.row nums
          simp only [List.length_map, List.map_cons, List.map_map, List.singleton_append]
          rfl
theorem ok_answer_never {f : Addr} {fd : FuncData} (F : Fun K "answer_never" "answer_never" s_answer_never f fd) (hlen : mg "len" = none)
    (O1 : Own P w K mg base "refusal_of_self" 2 ["board", "who", "steps", "least_steps"] (spRefuseS CB)) (O2 : Own P w K mg base "turning_places" 6 ["board", "who", "later"] (spTurning CB CA CO))
    (O4 : Own P w K mg base "outlooks_up_to" 8 ["board", "steps"] (spOutlooks CB CA CO)) : FnOk P w K mg base CX0 9 f fd ["board", "who", "steps"] (spA CB CA mkNever) := by
  refine F.ok sc_answer_never (fun vs H Q E h => ?_) (fun cdv A outer s H vs Q E hr h => ?_)
  · obtain ⟨b, wd, L, ls, as, ns, c, rfl, e, _⟩ := h
    match ns, e with
    | [p, a], _ => rfl
  · obtain ⟨b, wd, L, ls, as, ns, c, rfl, e, B, k⟩ := h
    match ns, e with
    | [s, n], e =>
      have ec : Kp379.Call.never s n = c := Option.some.inj e
      subst ec
      have nd := sc_answer_never.nd
      refine ⟨_, pss_cons (ps_set (i := 3) nd rfl (Or.inl rfl) (pe_own O1 (hr.mono (by decide)) (pa_cons (pv 0) (pa_cons (pv 1) (pa_cons (pv 2) (pa_cons pe_int pa_nil))))))
        (pss_cons (ps_if (pt_cmpR op_lt (pv 3) pe_int (nomark _)) (pss_one (ps_ret (pe_lst (pa_cons (pv 3) pa_nil)))) pss_nil)
        (pss_cons (ps_for PassesOwn.never rfl (pi_list (pe_slice sl_list (pe_own O4 hr (pa_cons (pv 0) (pa_cons (pv 2) pa_nil))) po_none (po_some (pv 2)))) (pg_name (i := 4) nd rfl (Or.inl rfl))
          (pss_one (ps_if (pt_cmpR op_gt (pe_callB call_len_seq (by rfl) hlen PySem.boot_len (pa_cons (pe_own O2 (hr.mono (by decide)) (pa_cons (pv 0) (pa_cons (pv 1) (pa_cons (pv 4) pa_nil)))) pa_nil)) pe_int (nomark _)) (pss_one (ps_ret (pe_lst (pa_cons pe_int pa_nil)))) pss_nil)))
        (pss_one (ps_ret (pe_lst (pa_cons pe_int pa_nil)))))), ?_⟩
      have stp : Kp379.step (some wd) (.never s n) = (some wd, if Kp379.isSelf wd s = false then Kp379.say (-2) else if 4 < n then Kp379.say (-22) else Kp379.yes ((List.range n).all fun t => (Kp379.turnsAt wd s (t + 1)).isEmpty)) := rfl
      unfold Kp379.isSelf at stp
      simp only [decide_eq_false_iff_not] at stp
      refine ⟨_, rfl, _, rfl, _, rfl, b, wd, L, s, n, 0, rfl, B.b, ?_⟩
      refine ⟨_, rfl, _, _, rfl, rfl, _, rfl, ?_⟩
      rcases refuseS_cases wd s n 0 with ⟨hs, c⟩ | ⟨hs, h4, c⟩ | ⟨hs, h4, h1, c⟩
      · rw [c]
        refine ifT rfl ?_
        exact ⟨_, rfl, (by show 1 ≤ sizeLine; decide), fun r hr0 => k.no B (by rw [stp, if_pos hs]) (Same.refl _) hr0⟩
      · rw [c]
        refine ifT rfl ?_
        exact ⟨_, rfl, (by show 1 ≤ sizeLine; decide), fun r hr0 => k.no B (by rw [stp, if_neg (by omega), if_pos (by omega)]) (Same.refl _) hr0⟩
      · rw [c]
        refine ifF rfl ?_
        rw [if_neg (by omega), if_neg (by omega)] at stp
        refine ⟨_, rfl, _, rfl, b, wd, L, ls, as, n, rfl, B, h4, fun H1 r os s1 hr0 hr1 hl OS => ?_⟩
        refine ⟨_, rfl, _, rfl, r, _, rfl, SqL.of hr1, fun p hp0 => ?_⟩
        rw [cut_hi, ← List.map_take]
        have s2 : Same H1 (upd H1 p (.lst ((os.take n).map V.ref))) := same_new hp0
        have tl : (os.take n).length = n := by
          rw [List.length_take]
          omega
        refine ⟨p, rfl, ⟨_, SqL.of upd_same⟩, for_list (K := K) (a := p) (xs := (os.take n).map V.ref) (fun i σ H' => Same (upd H1 p (.lst ((os.take n).map V.ref))) H' ∧ (∃ v4 : Option V, σ = [some (.ref b), some (.int (s : Int)), some (.int (n : Int)), some (.int 0), v4]) ∧ ((List.range i).all fun t => (Kp379.turnsAt wd s (t + 1)).isEmpty) = true)
          ⟨Same.refl _, ⟨none, rfl⟩, rfl⟩ (fun i σ H' _ h => SqL.of (h.1 _ _ upd_same)) ?_ ?_⟩
        · rintro i y σ H' hi ⟨s3, ⟨v4, rfl⟩, hall⟩
          obtain ⟨ol, hol, rfl⟩ := map_ref hi
          have hin : i < n := by
            rw [← tl]
            exact (List.getElem?_eq_some_iff.mp hol).1
          rw [List.getElem?_take_of_lt hin] at hol
          have s03 := (s1.trans s2).trans s3
          refine ⟨_, rfl, _, rfl, _, rfl, b, ol, wd, L, ls, as, s, _, _, rfl, B.same s03, hs, (OS i ol hol).same (s2.trans s3), fun H4 r4 s4 hr40 hr41 => ?_⟩
          rw [← turnX_is B.wf hs] at hr41
          refine ⟨r4, _, rfl, .inl (SqL.of hr41), _, _, rfl, rfl, _, rfl, ?_⟩
          have el : (nums (Kp379.turnsAt wd s (i + 1))).length = (Kp379.turnsAt wd s (i + 1)).length := by
            unfold nums
            rw [List.length_map]
          rw [el]
          cases ct : Kp379.turnsAt wd s (i + 1) with
          | nil =>
            refine ifF (by decide) ?_
            refine ⟨s3.trans s4, ⟨_, rfl⟩, ?_⟩
            rw [List.range_succ, List.all_append, hall, Bool.true_and, List.all_cons, ct]
            rfl
          | cons q0 qr =>
            refine ifT (decide_eq_true (show (((q0 :: qr).length : Nat) : Int) > 0 by rw [List.length_cons]; omega)) ?_
            refine ⟨(by show 1 ≤ sizeLine; decide), fun r5 hr5 => k.no B ?_ (s03.trans s4) hr5⟩
            have hf : ((List.range n).all fun t => (Kp379.turnsAt wd s (t + 1)).isEmpty) = false := by
              rw [List.all_eq_false]
              exact ⟨i, List.mem_range.mpr hin, by rw [ct]; exact Bool.false_ne_true⟩
            rw [stp, hf]
            rfl
        · rintro σ H' ⟨s3, ⟨v4, rfl⟩, hall⟩
          rw [List.length_map, tl] at hall
          refine ⟨(by show 1 ≤ sizeLine; decide), fun r5 hr5 => k.no B ?_ ((s1.trans s2).trans s3) hr5⟩
          rw [stp, hall]
          rfl
end
end Sel

set_option maxRecDepth 100000
set_option maxHeartbeats 2000000
namespace Sel
open PySem PySem.Spec PyProof.Rows L2
open Kp379 (actsAt actAt Stand stands setActs setAct ofStand)
/-! ### copies -/
def FreshT (H : Hp) (t : Trip) : Prop := H t.1 = none ∧ H t.2.1 = none ∧ H t.2.2 = none
theorem FreshT.of {H H' : Hp} {t : Trip} (s : Same H H') (h : FreshT H' t) : FreshT H t := ⟨s.free h.1, s.free h.2.1, s.free h.2.2⟩
/-- two acts that share nothing -/
def Apart (t u : Trip) : Prop := t.1 ≠ u.1 ∧ t.2.1 ≠ u.2.1 ∧ t.2.1 ≠ u.2.2 ∧ u.2.1 ≠ t.2.2
theorem Apart.symm {t u : Trip} (h : Apart t u) : Apart u t := ⟨fun e => h.1 e.symm, fun e => h.2.1 e.symm, h.2.2.2, h.2.2.1⟩
theorem ActAt.apart {CA : Addr} {H : Hp} {t u : Trip} {x : Kp379.Act} (h : ActAt CA H t x) (f : FreshT H u) : Apart t u := by
  obtain ⟨⟨dx, h1⟩, h2, h3⟩ := h
  exact ⟨ne_of_none h1 f.1, ne_of_none h2 f.2.1, ne_of_none h2 f.2.2, fun e => by have := f.2.1; rw [e, h3] at this; cases this⟩
def SepL (ts : List Trip) : Prop := (∀ t ∈ ts, t.2.1 ≠ t.2.2) ∧ ∀ (i j : Nat) (t u : Trip), ts[i]? = some t → ts[j]? = some u → i ≠ j → Apart t u
theorem snoc_at {α : Type} {l : List α} {a x : α} {i : Nat} (h : (l ++ [a])[i]? = some x) : (i < l.length ∧ l[i]? = some x) ∨ (i = l.length ∧ x = a) := by
  by_cases c : i < l.length
  · rw [List.getElem?_append_left c] at h
    exact .inl ⟨c, h⟩
  · rw [List.getElem?_append_right (by omega)] at h
    have e : i - l.length = 0 := by
      have := (List.getElem?_eq_some_iff.mp h).1
      simpa using this
    rw [e] at h
    exact .inr ⟨by omega, by simpa using h.symm⟩
theorem SepL.snoc {ts : List Trip} {t : Trip} (h : SepL ts) (h1 : ∀ u ∈ ts, Apart u t) (h2 : t.2.1 ≠ t.2.2) : SepL (ts ++ [t]) := by
  refine ⟨fun u hu => ?_, fun i j u v hu hv ne => ?_⟩
  · rcases List.mem_append.mp hu with a | a
    · exact h.1 u a
    · rw [List.mem_singleton.mp a]
      exact h2
  · rcases snoc_at hu with ⟨a, a1⟩ | ⟨a, rfl⟩
    · rcases snoc_at hv with ⟨b, b1⟩ | ⟨b, rfl⟩
      · exact h.2 i j u v a1 b1 ne
      · exact h1 u (List.mem_of_getElem? a1)
    · rcases snoc_at hv with ⟨b, b1⟩ | ⟨b, rfl⟩
      · exact (h1 v (List.mem_of_getElem? b1)).symm
      · omega
theorem SepL.nil : SepL [] := ⟨fun t ht => (by cases ht), fun i j t u a _ _ => by simp at a⟩
def SepB (as : List (List Trip)) : Prop := (∀ p i t, at2 as p i = some t → t.2.1 ≠ t.2.2) ∧ ∀ p i q j t u, at2 as p i = some t → at2 as q j = some u → ¬ (p = q ∧ i = j) → Apart t u
theorem at2_snoc {as : List (List Trip)} {ts : List Trip} {p i : Nat} {t : Trip} (h : at2 (as ++ [ts]) p i = some t) : (p < as.length ∧ at2 as p i = some t) ∨ (p = as.length ∧ ts[i]? = some t) := by
  unfold at2 at h ⊢
  rw [List.getD_eq_getElem?_getD] at h
  cases e : (as ++ [ts])[p]? with
  | none => rw [e] at h; simp at h
  | some us =>
    rw [e] at h
    rcases snoc_at e with ⟨a, a1⟩ | ⟨a, rfl⟩
    · refine .inl ⟨a, ?_⟩
      rw [List.getD_eq_getElem?_getD, a1]
      exact h
    · exact .inr ⟨a, h⟩
theorem at2_nil {p i : Nat} {t : Trip} (h : at2 [] p i = some t) : False := by
  unfold at2 at h
  simp at h
theorem SepB.nil : SepB [] := ⟨fun p i t h => (at2_nil h).elim, fun p i q j t u h => (at2_nil h).elim⟩
theorem NotAt {c D : Addr} {H : Hp} {o : HO} (hD : H D = some o) (h : H c = none) : c ≠ D := fun e => by rw [e, hD] at h; cases h
section
variable {P : Program} {w : PySem.World} {K : PySem.W.Frag} {mg : Str → Option Value} {base : Heap} {CB CA CO CC CI CH : Addr}
/-- an act stands where its addresses do -/
theorem ActAt.keep {H H' : Hp} {t : Trip} {x : Kp379.Act} (h : ActAt CA H t x) (k : ∀ c o, (c = t.1 ∨ c = t.2.1 ∨ c = t.2.2) → H c = some o → H' c = some o) : ActAt CA H' t x := by
  obtain ⟨⟨dx, h1⟩, h2, h3⟩ := h
  exact ⟨⟨dx, k _ _ (.inl rfl) h1⟩, k _ _ (.inr (.inl rfl)) h2, k _ _ (.inr (.inr rfl)) h3⟩
theorem ListAt.keep {H H' : Hp} {l : Addr} {ts : List Trip} {xs : List Kp379.Act} (h : ListAt CA H l ts xs) (k1 : ∀ o, H l = some o → H' l = some o) (k : ∀ t ∈ ts, ∀ c o, (c = t.1 ∨ c = t.2.1 ∨ c = t.2.2) → H c = some o → H' c = some o) : ListAt CA H' l ts xs :=
  ⟨k1 _ h.lst, h.len, fun i t x a b => (h.act i t x a b).keep (k t (List.mem_of_getElem? a))⟩
theorem at2_in {as : List (List Trip)} {p i : Nat} {t : Trip} (h : at2 as p i = some t) : p < as.length := by
  rcases Nat.lt_or_ge p as.length with c | c
  · exact c
  · unfold at2 at h
    rw [List.getD_eq_getElem?_getD, List.getElem?_eq_none c] at h
    simp at h
def spCopyAct (CA : Addr) : Sp := fun vs H Q _ => ∃ (t : Trip) (x : Kp379.Act), vs = [.ref t.1] ∧ ActAt CA H t x ∧ ∀ (H' : Hp) (t' : Trip), Same H H' → FreshT H t' → t'.2.1 ≠ t'.2.2 → ActAt CA H' t' x → Q (.ref t'.1) H'
theorem ok_copy_of_act {f : Addr} {fd : FuncData} (F : Fun K "copy_of_act" "copy_of_act" s_copy_of_act f fd) (T : Txt K CB CA CO CC) (hlist : mg "list" = none) (OA : OwnC P w K mg base "Act" CA 1 ["self", "pays", "weights"] (spActInit CA)) : FnOk P w K mg base CX0 3 f fd ["act"] (spCopyAct CA) := by
  refine F.ok sc_copy_of_act (fun vs H Q E h => ?_) (fun cdv A outer s H vs Q E hr h => ?_)
  · obtain ⟨t, x, rfl, _⟩ := h
    rfl
  · obtain ⟨t, x, rfl, HA, k⟩ := h
    have nd := sc_copy_of_act.nd
    refine ⟨_, pss_cons (ps_set (i := 1) nd rfl (Or.inl rfl) (pe_ownC OA hr (pa_cons (pe_callTy call_list_of (by rfl) hlist (by decide +kernel) (pa_cons (pe_fld (pv 0) rfl) pa_nil)) (pa_cons (pe_callTy call_list_of (by rfl) hlist (by decide +kernel) (pa_cons (pe_fld (pv 0) rfl) pa_nil)) pa_nil))))
      (pss_cons (ps_fld (pv 1) (pe_fld (pv 0) rfl) rfl)
      (pss_cons (ps_fld (pv 1) (pe_fld (pv 0) rfl) rfl)
      (pss_one (ps_ret (pv 1))))), ?_⟩
    obtain ⟨⟨dx, h1⟩, h2, h3⟩ := id HA
    refine ⟨_, rfl, t.1, CA, dx, _, _, rfl, h1, T.clA, T.nPays, aF_pays _ _ _ _, t.2.1, _, rfl, .inl (SqL.of h2), fun pa hpa => ?_⟩
    have s1 : Same H (upd H pa (.lst (x.pays.map V.int))) := same_new hpa
    refine ⟨_, rfl, t.1, CA, dx, _, _, rfl, s1 _ _ h1, T.clA, T.nWeights, aF_weights _ _ _ _, t.2.2, _, rfl, .inl (SqL.of (s1 _ _ h3)), fun wa hwa => ?_⟩
    have s2 := s1.trans (same_new (o := .lst (nums x.to)) hwa)
    have npw : pa ≠ wa := ne_of_none upd_same hwa
    intro a da ha hda ne
    refine ⟨a, da, pa, wa, rfl, upd_same, fun H3 h31 h32 => ⟨rfl, ?_⟩⟩
    have s3 := s2.trans (Same.made ha hda h32)
    have sm := Same.made ha hda h32
    have hwa3 := sm _ _ (upd_same (H := upd H pa (.lst (x.pays.map V.int))) (a := wa) (o := .lst (nums x.to)))
    have hpa3 := sm _ _ (show upd (upd H pa (.lst (x.pays.map V.int))) wa (.lst (nums x.to)) pa = some (.lst (x.pays.map V.int)) by rw [upd_ne npw]; exact upd_same)
    have haH : H a = none := s2.free ha
    have nta : t.1 ≠ a := ne_of_none h1 haH
    refine ⟨_, rfl, t.1, CA, dx, _, _, rfl, s3 _ _ h1, T.clA, T.nInto, aF_into _ _ _ _, _, rfl, a, CA, da, _, rfl, h31, T.clA, T.nInto, (by show 4 < 1000; decide), ?_⟩
    rw [aF_putI]
    refine ⟨_, rfl, t.1, CA, dx, _, _, rfl, by rw [upd_ne nta]; exact s3 _ _ h1, T.clA, T.nLocks, aF_locks _ _ _ _, _, rfl, a, CA, da, _, rfl, upd_same, T.clA, T.nLocks, (by show 4 < 1000; decide), ?_⟩
    rw [aF_putL, upd_upd]
    refine ⟨_, rfl, k _ (a, pa, wa) ?_ ⟨haH, hpa, s1.free hwa⟩ npw ⟨⟨da, upd_same⟩, ?_, ?_⟩⟩
    · intro c o e
      rw [upd_ne (ne_of_none e haH)]
      exact s3 _ _ e
    · show upd H3 a _ pa = _
      rw [upd_ne (ne_of hpa3 h31 (by intro z; cases z))]
      exact hpa3
    · show upd H3 a _ wa = _
      rw [upd_ne (ne_of hwa3 h31 (by intro z; cases z))]
      exact hwa3
def spCopies (CA : Addr) : Sp := fun vs H Q _ => ∃ (l : Addr) (ts : List Trip) (xs : List Kp379.Act), vs = [.ref l] ∧ ListAt CA H l ts xs ∧ xs.length ≤ 3 ∧
  ∀ (H' : Hp) (r : Addr) (ts' : List Trip), Same H H' → H r = none → ListAt CA H' r ts' xs → (∀ t ∈ ts', FreshT H t) → SepL ts' → Q (.ref r) H'
theorem ok_copies_of_acts {f : Addr} {fd : FuncData} (F : Fun K "copies_of_acts" "copies_of_acts" s_copies_of_acts f fd) (O1 : Own P w K mg base "copy_of_act" 3 ["act"] (spCopyAct CA)) : FnOk P w K mg base CX0 4 f fd ["acts"] (spCopies CA) := by
  refine F.ok sc_copies_of_acts (fun vs H Q E h => ?_) (fun cdv A outer s H vs Q E hr h => ?_)
  · obtain ⟨l, ts, xs, rfl, _⟩ := h
    rfl
  · obtain ⟨l, ts, xs, rfl, LA, few, k⟩ := h
    have nd := sc_copies_of_acts.nd
    refine ⟨_, pss_one (ps_ret (pe_lc (own := [("act", 1)]) (g := gName 1) (tt := tYes) rfl nd (pi_list (pv 0))
      (blkOk_by (N := n_copies_of_acts) (sc := defScope s_copies_of_acts) (by decide +kernel)) (fun _ _ _ _ _ => pg_name (i := 1) nd rfl (Or.inl rfl)) (fun _ _ _ _ _ => pts_nil)
      (fun _ _ _ _ _ => pe_own O1 hr (pa_cons (pv 1) pa_nil)))), ?_⟩
    refine ⟨_, rfl, l, rfl, ⟨_, SqL.of LA.lst⟩, fun D hD => ?_⟩
    refine lc_list (K := K) (a := l) (xs := ts.map fun t => V.ref t.1) (fun i H' => Same H H' ∧ ∃ ts' : List Trip, H' D = some (.lst (ts'.map fun t => V.ref t.1)) ∧ ts'.length = i ∧ (∀ (j : Nat) (t : Trip) (x : Kp379.Act), ts'[j]? = some t → xs[j]? = some x → ActAt CA H' t x) ∧
        (∀ t ∈ ts', FreshT H t ∧ t.1 ≠ D ∧ t.2.1 ≠ D ∧ t.2.2 ≠ D) ∧ SepL ts') ⟨same_new hD, [], upd_same, rfl, fun j t x a _ => by simp at a, fun t ht => (by cases ht), SepL.nil⟩ (fun i H' _ h => SqL.of (h.1 _ _ LA.lst)) ?_ ?_
    · rintro i y H' hi ⟨s1, ts', hD1, hl, hact, hfr, sep⟩
      obtain ⟨t, ht, rfl⟩ := map_ref hi
      have hil : i < xs.length := by
        rw [← LA.len]
        exact (List.getElem?_eq_some_iff.mp ht).1
      have hx := List.getElem?_eq_getElem hil
      refine ⟨rfl, yesT ?_⟩
      refine ⟨_, rfl, t, _, rfl, (LA.act i t _ ht hx).same s1, fun H2 t' s2 fr npw HA => ?_⟩
      have nD1 : t'.1 ≠ D := NotAt hD1 fr.1
      have nD2 : t'.2.1 ≠ D := NotAt hD1 fr.2.1
      have nD3 : t'.2.2 ≠ D := NotAt hD1 fr.2.2
      refine ⟨_, s2 _ _ hD1, (by rw [List.length_map, hl]; exact Nat.lt_of_lt_of_le (show i < 4 by omega) (by decide)), ?_, ts' ++ [t'], ?_, ?_, ?_, ?_, ?_⟩
      · intro c u e
        rw [upd_ne (ne_of_none e hD)]
        exact s2 _ _ (s1 _ _ e)
      · rw [upd_same, List.map_append]
        rfl
      · rw [List.length_append, hl]
        rfl
      · intro j u x hu hxj
        rcases snoc_at hu with ⟨a, a1⟩ | ⟨a, rfl⟩
        · obtain ⟨_, m1, m2, m3⟩ := hfr u (List.mem_of_getElem? a1)
          refine ((hact j u x a1 hxj).same s2).keep fun c o hc e => ?_
          rw [upd_ne (by rcases hc with rfl | rfl | rfl <;> assumption)]
          exact e
        · have ej : j = i := by omega
          subst ej
          have ex : xs[j] = x := Option.some.inj (hx.symm.trans hxj)
          subst ex
          refine HA.keep fun c o hc e => ?_
          rw [upd_ne (by rcases hc with rfl | rfl | rfl <;> assumption)]
          exact e
      · intro u hu
        rcases List.mem_append.mp hu with a | a
        · exact hfr u a
        · rw [List.mem_singleton.mp a]
          exact ⟨FreshT.of s1 fr, nD1, nD2, nD3⟩
      · refine sep.snoc (fun u hu => ?_) npw
        obtain ⟨j, hj⟩ := List.getElem?_of_mem hu
        have hjl : j < ts'.length := (List.getElem?_eq_some_iff.mp hj).1
        exact (hact j u _ hj (List.getElem?_eq_getElem (by omega))).apart fr
    · rintro H' ⟨s1, ts', hD1, hl, hact, hfr, sep⟩
      rw [List.length_map, LA.len] at hl
      exact k H' D ts' s1 hD ⟨hD1, hl, hact⟩ (fun t ht => (hfr t ht).1) sep
def spCopyBoard (CB CA : Addr) : Sp := fun vs H Q _ => ∃ (b : Addr) (wd : Kp379.World) (L : Addr) (ls : List Addr) (as : List (List Trip)), vs = [.ref b] ∧ BoardAt CB CA H b wd L ls as ∧
  ∀ (H' : Hp) (b' L' : Addr) (ls' : List Addr) (as' : List (List Trip)), Same H H' → BoardAt CB CA H' b' wd L' ls' as' → (∀ p i t, at2 as' p i = some t → FreshT H t) → SepB as' → Q (.ref b') H'
theorem ok_copy_of_board {f : Addr} {fd : FuncData} (F : Fun K "copy_of_board" "copy_of_board" s_copy_of_board f fd) (T : Txt K CB CA CO CC) (OB : OwnC P w K mg base "Board" CB 1 ["self"] (spBoardInit CB)) (O1 : Own P w K mg base "copies_of_acts" 4 ["acts"] (spCopies CA)) :
    FnOk P w K mg base CX0 5 f fd ["board"] (spCopyBoard CB CA) := by
  refine F.ok sc_copy_of_board (fun vs H Q E h => ?_) (fun cdv A outer s H vs Q E hr h => ?_)
  · obtain ⟨b, wd, L, ls, as, rfl, _⟩ := h
    rfl
  · obtain ⟨b, wd, L, ls, as, rfl, B, k⟩ := h
    have nd := sc_copy_of_board.nd
    refine ⟨_, pss_cons (ps_set (i := 1) nd rfl (Or.inl rfl) (pe_ownC0 OB (hr.mono (by decide))))
      (pss_cons (ps_fld (pv 1) (pe_fld (pv 0) rfl) rfl)
      (pss_cons (ps_fld (pv 1) (pe_fld (pv 0) rfl) rfl)
      (pss_cons (ps_fld (pv 1) (pe_lc (own := [("acts", 2)]) (g := gName 2) (tt := tYes) rfl nd (pi_list (pe_fld (pv 0) rfl))
        (blkOk_by (N := n_copy_of_board) (sc := defScope s_copy_of_board) (by decide +kernel)) (fun _ _ _ _ _ => pg_name (i := 2) nd rfl (Or.inl rfl)) (fun _ _ _ _ _ => pts_nil)
        (fun _ _ _ _ _ => pe_own O1 hr (pa_cons (pv 2) pa_nil))) rfl)
      (pss_one (ps_ret (pv 1)))))), ?_⟩
    obtain ⟨dx, hb⟩ := B.bd
    intro b' dx' nb ndx nebd
    refine ⟨b', dx', rfl, upd_same, fun H1 L0 hL0 hL1 hb1 kp1 => ⟨rfl, ?_⟩⟩
    have s1 : Same H H1 := Same.made nb ndx kp1
    have nbb : b ≠ b' := ne_of_none hb nb
    refine ⟨_, rfl, b, CB, dx, _, _, rfl, s1 _ _ hb, T.clB, T.nPlaces, bF_places _ _ _, _, rfl, b', CB, dx', _, rfl, hb1, T.clB, T.nPlaces, (by show 3 < 1000; decide), ?_⟩
    rw [bF_putP]
    refine ⟨_, rfl, b, CB, dx, _, _, rfl, by rw [upd_ne nbb]; exact s1 _ _ hb, T.clB, T.nSelves, bF_selves _ _ _, _, rfl, b', CB, dx', _, rfl, upd_same, T.clB, T.nSelves, (by show 3 < 1000; decide), ?_⟩
    rw [bF_putS, upd_upd]
    have s2 : Same H (upd H1 b' (.ins CB dx' (bF (wd.n : Int) (wd.v : Int) L0))) := fun c o e => by
      rw [upd_ne (ne_of_none e nb)]
      exact s1 _ _ e
    have hb2 : upd H1 b' (.ins CB dx' (bF (wd.n : Int) (wd.v : Int) L0)) b' = some (.ins CB dx' (bF (wd.n : Int) (wd.v : Int) L0)) := upd_same
    generalize upd H1 b' (.ins CB dx' (bF (wd.n : Int) (wd.v : Int) L0)) = H2 at *
    have n4 := B.wf.n4
    refine ⟨_, rfl, b, CB, dx, _, _, rfl, s2 _ _ hb, T.clB, T.nActs, bF_acts _ _ _, L, rfl, ⟨_, SqL.of (s2 _ _ B.ll)⟩, fun D hD => ?_⟩
    refine lc_list (K := K) (a := L) (xs := ls.map V.ref) (fun i H' => Same H2 H' ∧ ∃ (ls' : List Addr) (as' : List (List Trip)), H' D = some (.lst (ls'.map V.ref)) ∧ ls'.length = i ∧ as'.length = i ∧ (∀ (p : Nat) (l : Addr), ls'[p]? = some l → ListAt CA H' l (as'.getD p []) (actsAt wd p)) ∧ ls'.Nodup ∧ D ∉ ls' ∧
        (∀ p i t, at2 as' p i = some t → FreshT H2 t ∧ t.1 ≠ D ∧ t.2.1 ≠ D ∧ t.2.2 ≠ D) ∧ SepB as') ⟨same_new hD, [], [], upd_same, rfl, rfl, fun p l h => by simp at h, List.nodup_nil, by simp, fun p i t h => (at2_nil h).elim, SepB.nil⟩ (fun i H' _ h => SqL.of (h.1 _ _ (s2 _ _ B.ll))) ?_ ?_
    · rintro i y H' hi ⟨s3, ls', as', hD1, hl, hla, hpl, hnd, hnD, hfr, sep⟩
      obtain ⟨lp, hlp, rfl⟩ := map_ref hi
      have hin : i < wd.n := by
        rw [← B.nl]
        exact (List.getElem?_eq_some_iff.mp hlp).1
      refine ⟨rfl, yesT ?_⟩
      refine ⟨_, rfl, lp, _, _, rfl, ((B.pl i lp hlp).same s2).same s3, B.wf.few _ (actsAt_mem B.wf hin), fun H4 r ts' s4 hr0 LA' fr sepL => ?_⟩
      have nrD : r ≠ D := NotAt hD1 hr0
      have old : ∀ p j t, at2 as' p j = some t → ∃ x, ActAt CA H' t x := fun p j t h => by
        have hp := at2_in h
        have hlp' := List.getElem?_eq_getElem (show p < ls'.length by omega)
        have LB := hpl p _ hlp'
        have hj : j < (actsAt wd p).length := by
          rw [← LB.len]
          exact (List.getElem?_eq_some_iff.mp h).1
        exact ⟨_, LB.act j t _ h (List.getElem?_eq_getElem hj)⟩
      refine ⟨_, s4 _ _ hD1, (by rw [List.length_map, hl]; exact Nat.lt_of_lt_of_le (show i < 4 by omega) (by decide)), ?_, ls' ++ [r], as' ++ [ts'], ?_, ?_, ?_, ?_, ?_, ?_, ?_, ?_⟩
      · intro c u e
        rw [upd_ne (ne_of_none e hD)]
        exact s4 _ _ (s3 _ _ e)
      · rw [upd_same, List.map_append]
        rfl
      · rw [List.length_append, hl]
        rfl
      · rw [List.length_append, hla]
        rfl
      · intro p l hp
        rw [List.getD_eq_getElem?_getD]
        rcases snoc_at hp with ⟨a, a1⟩ | ⟨a, rfl⟩
        · rw [List.getElem?_append_left (by omega), ← List.getD_eq_getElem?_getD]
          have nl : l ≠ D := fun e => hnD (by rw [← e]; exact List.mem_of_getElem? a1)
          refine ((hpl p l a1).same s4).keep (fun o e => by rw [upd_ne nl]; exact e) fun t ht c o hc e => ?_
          obtain ⟨j, hj⟩ := List.getElem?_of_mem ht
          obtain ⟨_, m1, m2, m3⟩ := hfr p j t hj
          rw [upd_ne (by rcases hc with rfl | rfl | rfl <;> assumption)]
          exact e
        · have ep : p = i := by omega
          have ea : (as' ++ [ts'])[p]? = some ts' := by
            rw [List.getElem?_append_right (by omega), show p - as'.length = 0 by omega]
            rfl
          rw [ea]
          subst ep
          refine LA'.keep (fun o e => by rw [upd_ne nrD]; exact e) fun t ht c o hc e => ?_
          have f := fr t ht
          have m1 := NotAt hD1 f.1
          have m2 := NotAt hD1 f.2.1
          have m3 := NotAt hD1 f.2.2
          rw [upd_ne (by rcases hc with rfl | rfl | rfl <;> assumption)]
          exact e
      · refine List.nodup_append.mpr ⟨hnd, by simp, fun a ha c hc => ?_⟩
        rw [List.mem_singleton.mp hc]
        obtain ⟨p, hp⟩ := List.getElem?_of_mem ha
        exact ne_of_none (hpl p a hp).lst hr0
      · intro hm
        rcases List.mem_append.mp hm with h | h
        · exact hnD h
        · exact nrD (List.mem_singleton.mp h).symm
      · intro p j t h
        rcases at2_snoc h with ⟨a, a1⟩ | ⟨a, a1⟩
        · exact hfr p j t a1
        · have f := fr t (List.mem_of_getElem? a1)
          exact ⟨FreshT.of s3 f, NotAt hD1 f.1, NotAt hD1 f.2.1, NotAt hD1 f.2.2⟩
      · refine ⟨fun p j t h => ?_, fun p j q m t u ht hu ne => ?_⟩
        · rcases at2_snoc h with ⟨a, a1⟩ | ⟨a, a1⟩
          · exact sep.1 p j t a1
          · exact sepL.1 t (List.mem_of_getElem? a1)
        · rcases at2_snoc ht with ⟨a, a1⟩ | ⟨a, a1⟩
          · rcases at2_snoc hu with ⟨c, c1⟩ | ⟨c, c1⟩
            · exact sep.2 p j q m t u a1 c1 ne
            · obtain ⟨x, hx⟩ := old p j t a1
              exact hx.apart (fr u (List.mem_of_getElem? c1))
          · rcases at2_snoc hu with ⟨c, c1⟩ | ⟨c, c1⟩
            · obtain ⟨x, hx⟩ := old q m u c1
              exact (hx.apart (fr t (List.mem_of_getElem? a1))).symm
            · exact sepL.2 j m t u a1 c1 fun e => ne ⟨by omega, e⟩
    · rintro H4 ⟨s3, ls', as', hD1, hl, hla, hpl, hnd, hnD, hfr, sep⟩
      rw [List.length_map, B.nl] at hl hla
      have hb4 := s3 _ _ hb2
      refine ⟨_, rfl, b', CB, dx', _, rfl, hb4, T.clB, T.nActs, (by show 3 < 1000; decide), ?_⟩
      rw [bF_putA]
      refine ⟨_, rfl, k _ b' D ls' as' ?_ ⟨⟨dx', upd_same⟩, ?_, hl, hla, fun p l h => ?_, hnd, hnD, fun p i q j t u ht hu e => ?_, B.wf⟩ (fun p i t h => FreshT.of s2 (hfr p i t h).1) sep⟩
      · intro c o e
        rw [upd_ne (ne_of_none e nb)]
        exact s3 _ _ (s2 _ _ e)
      · rw [upd_ne (ne_of hD1 hb4 (by intro z; cases z))]
        exact hD1
      · have LB := hpl p l h
        refine LB.keep (fun o e => by rw [upd_ne (ne_of LB.lst hb4 (by intro z; cases z))]; exact e) fun t ht c o hc e => ?_
        obtain ⟨j, hj⟩ := List.getElem?_of_mem ht
        have f := (hfr p j t hj).1
        have m1 := NotAt hb2 f.1
        have m2 := NotAt hb2 f.2.1
        have m3 := NotAt hb2 f.2.2
        rw [upd_ne (by rcases hc with rfl | rfl | rfl <;> assumption)]
        exact e
      · apply Classical.byContradiction
        intro ne
        exact (sep.2 p i q j t u ht hu ne).1 e
end
end Sel

set_option maxRecDepth 100000
set_option maxHeartbeats 2000000
namespace Sel
open PySem PySem.Spec PyProof.Rows L2
open Kp379 (actsAt actAt Stand stands setActs setAct ofStand)
section
variable {P : Program} {w : PySem.World} {K : PySem.W.Frag} {mg : Str → Option Value} {base : Heap} {CB CA CO CC CI CH : Addr}
/-- one act of it is changed in a pay -/
theorem BoardAt.setPay {b L : Addr} {H : Hp} {wd : Kp379.World} {ls : List Addr} {as : List (List Trip)} (B : BoardAt CB CA H b wd L ls as) (sep : SepB as) {p i : Nat} {t : Trip} {x x' : Kp379.Act} (ht : at2 as p i = some t) (hx : (actsAt wd p)[i]? = some x)
    (et : x'.to = x.to) (eu : x'.turn = x.turn) (el : x'.lock = x.lock) (ok : ActOk wd.n wd.v x') : BoardAt CB CA (upd H t.2.1 (.lst (x'.pays.map V.int))) b (Kp379.setAct wd p i x') L ls as := by
  obtain ⟨lp, x0, hlp, hx0, HA, hp, ok0⟩ := B.get ht
  have ex : x0 = x := Option.some.inj (hx0.symm.trans hx)
  subst ex
  obtain ⟨⟨dx, h1⟩, h2, h3⟩ := id HA
  have hpl : p < wd.acts.length := by rw [B.wf.len]; exact hp
  have hil : i < (actsAt wd p).length := (List.getElem?_eq_some_iff.mp hx).1
  have ins : ∀ a C d fs, H a = some (.ins C d fs) → upd H t.2.1 (.lst (x'.pays.map V.int)) a = some (.ins C d fs) := fun a C d fs e => by
    rw [upd_ne (ne_of e h2 (by intro z; cases z))]
    exact e
  have refs : ∀ (α : Type) (a : Addr) (ts : List α) (f : α → V), (∀ a z, f a ≠ V.int z) → H a = some (.lst (ts.map f)) → upd H t.2.1 (.lst (x'.pays.map V.int)) a = some (.lst (ts.map f)) := fun α a ts f hf e => by
    rw [upd_ne (ne_of e h2 (by intro z; injection z with z; exact ints_refs hf (pays_ne ok0 B.wf.v1) z.symm))]
    exact e
  obtain ⟨dxb, hb⟩ := B.bd
  refine ⟨⟨dxb, ins _ _ _ _ hb⟩, refs _ _ _ _ ref_int B.ll, B.nl, B.na, fun q l hl => ?_, B.nd, B.nL, B.inj, ?_⟩
  · have LA := B.pl q l hl
    refine ⟨refs _ _ _ _ (fun t z => ref_int _ z) LA.lst, ?_, fun j u y hu hy => ?_⟩
    · show _ = (actsAt (setActs wd p _) q).length
      rw [actsAt_set hpl, LA.len]
      split
      · rename_i c
        rw [List.length_set, c]
      · rfl
    · have hy' : (if q = p then (actsAt wd p).set i x' else actsAt wd q)[j]? = some y := by
        rw [← actsAt_set hpl]
        exact hy
      have hu2 : at2 as q j = some u := hu
      by_cases c : q = p ∧ j = i
      · obtain ⟨rfl, rfl⟩ := c
        rw [if_pos rfl, List.getElem?_set_self hil] at hy'
        have ey : x' = y := Option.some.inj hy'
        subst ey
        have eu' : t = u := Option.some.inj (ht.symm.trans hu)
        subst eu'
        refine ⟨⟨dx, ?_⟩, upd_same, ?_⟩
        · rw [eu, el]
          exact ins _ _ _ _ h1
        · rw [upd_ne (fun e => sep.1 q j t ht e.symm), et]
          exact h3
      · have hy2 : (actsAt wd q)[j]? = some y := by
          by_cases cq : q = p
          · subst cq
            rw [if_pos rfl, List.getElem?_set_ne (fun e => c ⟨rfl, e.symm⟩)] at hy'
            exact hy'
          · rw [if_neg cq] at hy'
            exact hy'
        obtain ⟨⟨du, hu1⟩, hu2', hu3⟩ := LA.act j u y hu hy2
        have ap := sep.2 p i q j t u ht hu2 (fun e => c ⟨e.1.symm, e.2.symm⟩)
        exact ⟨⟨du, ins _ _ _ _ hu1⟩, by rw [upd_ne (fun e => ap.2.1 e.symm)]; exact hu2', by rw [upd_ne (fun e => ap.2.2.1 e.symm)]; exact hu3⟩
  · refine B.wf.setActs (by rw [List.length_set]; exact B.wf.few _ (actsAt_mem B.wf hp)) fun a ha => ?_
    rcases List.mem_or_eq_of_mem_set ha with h | h
    · exact B.wf.act hp h
    · rw [h]; exact ok
def spOwn (CB CA : Addr) : Sp := fun vs H Q _ => ∃ (b st : Addr) (wd : Kp379.World) (L : Addr) (ls : List Addr) (as : List (List Trip)) (p s : Nat) (l : Bool) (k : Nat), vs = [.ref b, .ref st, .int (k : Int)] ∧ BoardAt CB CA H b wd L ls as ∧ H st = some (.tup (stV p s l)) ∧ p < wd.n ∧ s < wd.v ∧ k ≤ 4 ∧
  ∀ (H' : Hp) (r : Addr), Same H H' → H r = none → H' r = some (.lst (ansV (Kp379.frRow (Kp379.worth wd s ⟨p, s, l⟩ k)))) → Q (.ref r) H'
theorem ok_own_worth {f : Addr} {fd : FuncData} (F : Fun K "own_worth" "own_worth" s_own_worth f fd) (T : Txt K CB CA CO CC) (O2 : Own P w K mg base "lowest_terms" 2 ["top", "bottom"] spLow)
    (O4 : Own P w K mg base "outlook_with" 9 ["board", "steps"] (spOutlook CB CA CO)) : FnOk P w K mg base CX0 10 f fd ["board", "stand", "steps"] (spOwn CB CA) := by
  refine F.ok sc_own_worth (fun vs H Q E h => ?_) (fun cdv A outer s H vs Q E hr h => ?_)
  · obtain ⟨b, st, wd, L, ls, as, p, s, l, k, rfl, _⟩ := h
    rfl
  · obtain ⟨b, st, wd, L, ls, as, p, s, l, n, rfl, B, hst, hp, hs, h4, k⟩ := h
    have nd := sc_own_worth.nd
    have hU := hu_of hr
    refine ⟨_, pss_cons (ps_set (i := 3) nd rfl (Or.inl rfl) (pe_own O4 hr (pa_cons (pv 0) (pa_cons (pv 2) pa_nil))))
      (pss_one (ps_ret (pe_op op_cat (pe_lst (pa_cons pe_int pa_nil)) (pe_own O2 (hr.mono (by decide)) (pa_cons (pe_ix ix_list (pe_dget hU (pe_fld (pv 3) rfl) (pv 1) (fun _ _ => rfl)) (pe_ix ix_tup (pv 1) pe_int (fun _ _ => rfl)) (fun _ _ => rfl)) (pa_cons (pe_fld (pv 3) rfl) pa_nil)))))), ?_⟩
    refine ⟨_, rfl, _, rfl, b, wd, L, ls, as, n, rfl, B, h4, fun H1 o s1 HO => ?_⟩
    refine ⟨(by show 1 ≤ sizeLine; decide), fun t ht => ?_⟩
    have s2 := s1.trans (same_new (o := .lst [V.int 0]) ht)
    obtain ⟨dxo, D, m, ho, HD⟩ := HO.same (same_new (o := .lst [V.int 0]) ht)
    obtain ⟨kvs, hD, _, hall⟩ := HD.ex
    obtain ⟨q, hq1, hq2⟩ := hall p s l ⟨hp, hs⟩
    refine ⟨_, rfl, o, CO, dxo, _, _, rfl, ho, T.clO, T.nWorths, oF_worths _ _, _, rfl, D, _, rfl, hq1 ▸ DGet.t hD (by rw [keyOf_kV]; exact s2 _ _ hst), _, rfl, st, _, _, _, rfl, rfl, SqT.of (s2 _ _ hst), at_of (j := 1) (v := V.int (s : Int)) rfl rfl, q, _, _, _, rfl, rfl, SqL.of hq2, at_of (j := s) rfl (by rw [List.getElem?_map, range_get hs]; rfl), _, rfl, o, CO, dxo, _, _, rfl, ho, T.clO, T.nScale, oF_scale _ _, _, _, rfl, powPos n, pow_small h4, fun r hr0 => ?_⟩
    have ntr : t ≠ r := ne_of_none upd_same hr0
    refine ⟨t, r, _, _, rfl, rfl, by rw [upd_ne ntr]; exact upd_same, upd_same, (by show 1 + 2 ≤ sizeLine; decide), fun r2 hr2 => ?_⟩
    refine k _ r2 ((s2.trans (same_new hr0)).trans (same_new hr2)) ((s2.trans (same_new hr0)).free hr2) ?_
    rw [upd_same, worth_rep B.wf hp hs hs]
    rfl
def spIfTurn (CB CA : Addr) : Sp := fun vs H Q _ => ∃ (b st : Addr) (wd : Kp379.World) (L : Addr) (ls : List Addr) (as : List (List Trip)) (p a t q s k : Nat), vs = [.ref b, .int (p : Int), .int (a : Int), .int (t : Int), .ref st, .int (k : Int)] ∧ H st = some (.tup (stN q s 0)) ∧
  BoardAt CB CA H b wd L ls as ∧ Said CB CA b (some wd) (.ifTurn p a t q s k) L ls as H Q
theorem ok_answer_ifturn {f : Addr} {fd : FuncData} (F : Fun K "answer_ifturn" "answer_ifturn" s_answer_ifturn f fd) (T : Txt K CB CA CO CC) (hN : IntC mg "NO_SUCH" (-2)) (hO : IntC mg "OUT_OF_RANGE" (-22)) (O0 : Own P w K mg base "has_act" 2 ["board", "place", "number"] (spHasAct CB CA))
    (O1 : Own P w K mg base "has_stand" 2 ["board", "stand"] (spHasStand CB)) (O2 : Own P w K mg base "are_steps" 1 ["steps", "least_steps"] spSteps) (O3 : Own P w K mg base "copy_of_board" 5 ["board"] (spCopyBoard CB CA))
    (O4 : Own P w K mg base "own_worth" 10 ["board", "stand", "steps"] (spOwn CB CA)) : FnOk P w K mg base CX0 11 f fd ["board", "place", "number", "into", "stand", "steps"] (spIfTurn CB CA) := by
  refine F.ok sc_answer_ifturn (fun vs H Q E h => ?_) (fun cdv A outer s H vs Q E hr h => ?_)
  · obtain ⟨b, st, wd, L, ls, as, p, a, t, q, s, k, rfl, _⟩ := h
    rfl
  · obtain ⟨b, st, wd, L, ls, as, p, a, tn, q, s, n, rfl, hst, B, k⟩ := h
    have nd := sc_answer_ifturn.nd
    refine ⟨_, pss_cons (ps_if (PW.pt (pw_or (pt_not (pt_val (pe_own O0 (hr.mono (by decide)) (pa_cons (pv 0) (pa_cons (pv 1) (pa_cons (pv 2) pa_nil)))))) (pw_or1 (pt_not (pt_val (pe_own O1 (hr.mono (by decide)) (pa_cons (pv 0) (pa_cons (pv 4) pa_nil)))))))) (pss_one (ps_ret (pe_lst (pa_cons (pe_intC hN) pa_nil)))) pss_nil)
      (pss_cons (ps_if (PW.pt (pw_or (pt_cmpR op_gt (pv 3) (pe_fld (pv 0) rfl) (nomark _)) (pw_or1 (pt_not (pt_val (pe_own O2 (hr.mono (by decide)) (pa_cons (pv 5) (pa_cons pe_int pa_nil)))))))) (pss_one (ps_ret (pe_lst (pa_cons (pe_intC hO) pa_nil)))) pss_nil)
      (pss_cons (ps_set (i := 6) nd rfl (Or.inl rfl) (pe_own O3 (hr.mono (by decide)) (pa_cons (pv 0) pa_nil)))
      (pss_cons (ps_set (i := 7) nd rfl (Or.inl rfl) (pe_ix ix_list (pe_ix ix_list (pe_fld (pv 6) rfl) (pv 1) (fun _ _ => rfl)) (pv 2) (fun _ _ => rfl)))
      (pss_cons (ps_fld (pv 7) (pv 3) rfl)
      (pss_one (ps_ret (pe_own O4 hr (pa_cons (pv 6) (pa_cons (pv 4) (pa_cons (pv 5) pa_nil))))))))))  , ?_⟩
    have stp : Kp379.step (some wd) (.ifTurn p a tn q s n) = if Kp379.isAct wd p a = false ∨ Kp379.isPlace wd q = false ∨ Kp379.isSelf wd s = false then (some wd, Kp379.say (-2)) else if wd.v < tn then (some wd, Kp379.say (-22)) else
        ofStand (some wd) wd q s 0 n 0 (fun x => Kp379.frRow (Kp379.worth (setAct wd p a { actAt wd p a with turn := tn }) s x n)) := rfl
    have eq : Kp379.isPlace wd q = decide (q < wd.n) := rfl
    have es : Kp379.isSelf wd s = decide (s < wd.v) := rfl
    obtain ⟨dx, hb⟩ := B.bd
    have bad : ∀ r, H r = none → (Kp379.isAct wd p a = false ∨ ¬ q < wd.n ∨ ¬ s < wd.v) → Q (.ref r) (upd H r (.lst [V.int (-2)])) := fun r hr0 c => by
      refine k.no B ?_ (Same.refl _) hr0
      rw [stp, if_pos]
      rcases c with c | c | c
      · exact .inl c
      · exact .inr (.inl (by rw [eq, decide_eq_false c]))
      · exact .inr (.inr (by rw [es, decide_eq_false c]))
    refine ⟨_, rfl, _, rfl, _, rfl, b, wd, L, ls, as, p, a, rfl, B, _, rfl, ?_⟩
    cases ha : Kp379.isAct wd p a with
    | false =>
      refine ifT rfl ?_
      refine ifT rfl ?_
      exact ⟨(by show 1 ≤ sizeLine; decide), fun r hr0 => bad r hr0 (.inl ha)⟩
    | true =>
      refine ifF rfl ?_
      refine ⟨_, rfl, _, rfl, b, st, wd, L, q, s, 0, rfl, B.b, hst, _, rfl, ?_⟩
      by_cases hq : q < wd.n ∧ s < wd.v
      · refine ifF (by rw [decide_eq_true hq.1, decide_eq_true hq.2]; rfl) ?_
        rw [if_neg (by rw [ha, eq, es, decide_eq_true hq.1, decide_eq_true hq.2]; simp)] at stp
        refine ⟨_, rfl, _, rfl, b, CB, dx, _, _, rfl, hb, T.clB, T.nSelves, bF_selves _ _ _, _, _, rfl, rfl, _, rfl, ?_⟩
        by_cases ht : wd.v < tn
        · refine ifT (decide_eq_true (show (tn : Int) > (wd.v : Int) by omega)) ?_
          refine ifT rfl ?_
          exact ⟨(by show 1 ≤ sizeLine; decide), fun r hr0 => k.no B (by rw [stp, if_pos ht]) (Same.refl _) hr0⟩
        · refine ifF (decide_eq_false (show ¬ (tn : Int) > (wd.v : Int) by omega)) ?_
          rw [if_neg ht] at stp
          refine ⟨_, rfl, n, 0, rfl, _, rfl, ?_⟩
          rcases refuse_cases wd q s 0 n 0 (some wd) (fun x => Kp379.frRow (Kp379.worth (setAct wd p a { actAt wd p a with turn := tn }) s x n)) with ⟨c, e⟩ | ⟨c, hp, hs, hl, h4, h1, e⟩
          · have h4 : 4 < n := by
              unfold refuse at c
              rw [if_neg (by omega)] at c
              by_cases h4 : 4 < n
              · exact h4
              · rw [if_neg (by omega)] at c
                omega
            have ec : refuse wd q s 0 n 0 = -22 := by
              unfold refuse
              rw [if_neg (by omega), if_pos (by omega)]
            rw [ec] at e
            refine ifT (by rw [decide_eq_false (show ¬ n ≤ 4 by omega), Bool.and_false]; rfl) ?_
            exact ⟨(by show 1 ≤ sizeLine; decide), fun r hr0 => k.no B (stp.trans e) (Same.refl _) hr0⟩
          · refine ifF (by rw [decide_eq_true (show 0 ≤ n by omega), decide_eq_true h4]; rfl) ?_
            rw [stN_stV q s hl] at hst
            refine ⟨_, rfl, b, wd, L, ls, as, rfl, B, fun H1 b' L' ls' as' s1 B' fr sep => ?_⟩
            obtain ⟨lp, t, x, hlp, ht', hx, ⟨⟨da, h1'⟩, h2', h3'⟩, LA⟩ := B'.at ha
            obtain ⟨dx', hb'⟩ := B'.bd
            have ok := B'.wf.act (isAct_of ha).1 (List.mem_of_getElem? hx)
            refine ⟨_, rfl, b', CB, dx', _, _, rfl, hb', T.clB, T.nActs, bF_acts _ _ _, _, rfl, L', _, _, _, rfl, rfl, SqL.of B'.ll, at_of (j := p) (v := V.ref lp) rfl (by rw [List.getElem?_map, hlp]; rfl), _, rfl, lp, _, _, _, rfl, rfl, SqL.of LA.lst, at_of (j := a) (v := V.ref t.1) rfl (by rw [List.getElem?_map, show (as'.getD p [])[a]? = some t from ht']; rfl), ?_⟩
            refine ⟨_, rfl, _, rfl, t.1, CA, da, _, rfl, h1', T.clA, T.nInto, (by show 4 < 1000; decide), ?_⟩
            rw [aF_putI]
            have B2 := B'.setAct (x' := { x with turn := tn }) ht' hx h1' rfl rfl ⟨ok.pl, ok.pb, ok.tl, ok.tb, ok.t0, by show tn ≤ wd.v; omega⟩
            have s2 : Same H (upd H1 t.1 (.ins CA da (aF t.2.1 t.2.2 (tn : Int) (b2z x.lock)))) := fun c o e => by
              rw [upd_ne (ne_of_none e (fr p a t ht').1)]
              exact s1 _ _ e
            refine ⟨_, rfl, _, rfl, _, rfl, b', st, _, L', ls', as', q, s, (0 : Nat) == 1, n, rfl, B2, s2 _ _ hst, hq.1, hq.2, h4, fun H3 r s3 hr0 hr1 => ?_⟩
            refine k.query B ?_ (s2.trans s3) (s2.free hr0) hr1
            rw [stp, e, actAt_of hx]
      · refine ifT ?_ ?_
        · by_cases h2 : q < wd.n
          · rw [decide_eq_true h2, decide_eq_false (fun h => hq ⟨h2, h⟩)]; rfl
          · rw [decide_eq_false h2]; rfl
        · exact ⟨(by show 1 ≤ sizeLine; decide), fun r hr0 => bad r hr0 (.inr (by omega))⟩
def spOnePay (K : PySem.W.Frag) : Sp := fun vs H Q _ => ∃ (a : Addr) (ns : List Int), vs = [.ref a] ∧ SqL K H a (ns.map V.int) ∧ ns.length ≤ 100 ∧ ∀ H', Same H H' → Q (.bl (decide (ns.length = 1) && payOk ns)) H'
theorem ok_is_one_pay {f : Addr} {fd : FuncData} (F : Fun K "is_one_pay" "is_one_pay" s_is_one_pay f fd) (hlen : mg "len" = none) (O1 : Own P w K mg base "are_pays" 1 ["pays"] (spPays K)) : FnOk P w K mg base CX0 2 f fd ["row"] (spOnePay K) := by
  refine F.ok sc_is_one_pay (fun vs H Q E h => ?_) (fun cdv A outer s H vs Q E hr h => ?_)
  · obtain ⟨a, ns, rfl, _⟩ := h
    rfl
  · obtain ⟨a, ns, rfl, hS, hl, k⟩ := h
    refine ⟨_, pss_one (ps_ret (pe_and (pe_cmp (pc_eqI (pe_callB call_len_seq (by rfl) hlen PySem.boot_len (pa_cons (pv 0) pa_nil)) pe_int) rfl) (pe_one (pe_own O1 hr (pa_cons (pv 0) pa_nil))))), ?_⟩
    refine ⟨_, rfl, a, _, rfl, .inl hS, _, _, rfl, rfl, _, rfl, ?_⟩
    rw [List.length_map]
    by_cases c : ns.length = 1
    · refine ifT (decide_eq_true (show (ns.length : Int) = 1 by omega)) ?_
      refine ⟨_, rfl, a, ns, rfl, hS, hl, fun H' s' => ?_⟩
      have := k H' s'
      rw [decide_eq_true c, Bool.true_and] at this
      exact this
    · refine ifF (decide_eq_false (show ¬ (ns.length : Int) = 1 by omega)) ?_
      have := k H (Same.refl _)
      rw [decide_eq_false c, Bool.false_and] at this
      exact this
end
end Sel

set_option maxRecDepth 100000
set_option maxHeartbeats 2000000
namespace Sel
open PySem PySem.Spec PyProof.Rows L2
open Kp379 (actsAt actAt Stand stands setActs setAct ofStand)
section
variable {P : Program} {w : PySem.World} {K : PySem.W.Frag} {mg : Str → Option Value} {base : Heap} {CB CA CO CC CI CH : Addr}
def spIfPay (K : PySem.W.Frag) (CB CA : Addr) : Sp := fun vs H Q _ => ∃ (b st ra : Addr) (wd : Kp379.World) (L : Addr) (ls : List Addr) (as : List (List Trip)) (p a u q s k : Nat) (l : List Int), vs = [.ref b, .int (p : Int), .int (a : Int), .int (u : Int), .ref st, .int (k : Int), .ref ra] ∧ H st = some (.tup (stN q s 0)) ∧
  SqL K H ra (l.map V.int) ∧ l.length ≤ 100 ∧ BoardAt CB CA H b wd L ls as ∧ Said CB CA b (some wd) (.ifPay p a u q s k l) L ls as H Q
def payCase (wd : Kp379.World) (p a u q s n : Nat) (l : List Int) : Kp379.State × Kp379.Ans := match l with
  | [x] => if x < -9 ∨ 9 < x then (some wd, Kp379.say (-22)) else ofStand (some wd) wd q s 0 n 0 fun y => Kp379.frRow (Kp379.worth (setAct wd p a { actAt wd p a with pays := (actAt wd p a).pays.set u x }) s y n)
  | _ => (some wd, Kp379.say (-22))
theorem step_ifPay (wd : Kp379.World) (p a u q s n : Nat) (l : List Int) : Kp379.step (some wd) (.ifPay p a u q s n l) = if Kp379.isAct wd p a = false ∨ Kp379.isSelf wd u = false ∨ Kp379.isPlace wd q = false ∨ Kp379.isSelf wd s = false then (some wd, Kp379.say (-2)) else payCase wd p a u q s n l := by
  match l with
  | [] => rfl
  | [_] => rfl
  | _ :: _ :: _ => rfl
theorem ok_answer_ifpay {f : Addr} {fd : FuncData} (F : Fun K "answer_ifpay" "answer_ifpay" s_answer_ifpay f fd) (T : Txt K CB CA CO CC) (hN : IntC mg "NO_SUCH" (-2)) (hO : IntC mg "OUT_OF_RANGE" (-22)) (O0 : Own P w K mg base "has_act" 2 ["board", "place", "number"] (spHasAct CB CA))
    (OS : Own P w K mg base "has_self" 1 ["board", "who"] (spHasSelf CB)) (O1 : Own P w K mg base "has_stand" 2 ["board", "stand"] (spHasStand CB)) (OP : Own P w K mg base "is_one_pay" 2 ["row"] (spOnePay K)) (O2 : Own P w K mg base "are_steps" 1 ["steps", "least_steps"] spSteps) (O3 : Own P w K mg base "copy_of_board" 5 ["board"] (spCopyBoard CB CA))
    (O4 : Own P w K mg base "own_worth" 10 ["board", "stand", "steps"] (spOwn CB CA)) : FnOk P w K mg base CX0 11 f fd ["board", "place", "number", "light", "stand", "steps", "row"] (spIfPay K CB CA) := by
  refine F.ok sc_answer_ifpay (fun vs H Q E h => ?_) (fun cdv A outer s H vs Q E hr h => ?_)
  · obtain ⟨b, st, ra, wd, L, ls, as, p, a, u, q, s, k, l, rfl, _⟩ := h
    rfl
  · obtain ⟨b, st, ra, wd, L, ls, as, p, a, u, q, s, n, l, rfl, hst, hS, hl100, B, k⟩ := h
    have nd := sc_answer_ifpay.nd
    refine ⟨_, pss_cons (ps_if (PW.pt (pw_or (pt_not (pt_val (pe_own O0 (hr.mono (by decide)) (pa_cons (pv 0) (pa_cons (pv 1) (pa_cons (pv 2) pa_nil)))))) (pw_or (pt_not (pt_val (pe_own OS (hr.mono (by decide)) (pa_cons (pv 0) (pa_cons (pv 3) pa_nil))))) (pw_or1 (pt_not (pt_val (pe_own O1 (hr.mono (by decide)) (pa_cons (pv 0) (pa_cons (pv 4) pa_nil))))))))) (pss_one (ps_ret (pe_lst (pa_cons (pe_intC hN) pa_nil)))) pss_nil)
      (pss_cons (ps_if (PW.pt (pw_or (pt_not (pt_val (pe_own OP (hr.mono (by decide)) (pa_cons (pv 6) pa_nil)))) (pw_or1 (pt_not (pt_val (pe_own O2 (hr.mono (by decide)) (pa_cons (pv 5) (pa_cons pe_int pa_nil)))))))) (pss_one (ps_ret (pe_lst (pa_cons (pe_intC hO) pa_nil)))) pss_nil)
      (pss_cons (ps_set (i := 7) nd rfl (Or.inl rfl) (pe_own O3 (hr.mono (by decide)) (pa_cons (pv 0) pa_nil)))
      (pss_cons (ps_set (i := 8) nd rfl (Or.inl rfl) (pe_ix ix_list (pe_ix ix_list (pe_fld (pv 7) rfl) (pv 1) (fun _ _ => rfl)) (pv 2) (fun _ _ => rfl)))
      (pss_cons (ps_asg (pe_ix ix_list (pv 6) pe_int (fun _ _ => rfl)) (pg_sub (pe_fld (pv 8) rfl) (pv 3) set_list))
      (pss_one (ps_ret (pe_own O4 hr (pa_cons (pv 7) (pa_cons (pv 4) (pa_cons (pv 5) pa_nil))))))))))  , ?_⟩
    have stp := step_ifPay wd p a u q s n l
    have eq : Kp379.isPlace wd q = decide (q < wd.n) := rfl
    have es : ∀ s, Kp379.isSelf wd s = decide (s < wd.v) := fun _ => rfl
    obtain ⟨dx, hb⟩ := B.bd
    have bad : ∀ r, H r = none → (Kp379.isAct wd p a = false ∨ ¬ u < wd.v ∨ ¬ q < wd.n ∨ ¬ s < wd.v) → Q (.ref r) (upd H r (.lst [V.int (-2)])) := fun r hr0 c => by
      refine k.no B ?_ (Same.refl _) hr0
      rw [stp, if_pos]
      rcases c with c | c | c | c
      · exact .inl c
      · exact .inr (.inl (by rw [es, decide_eq_false c]))
      · exact .inr (.inr (.inl (by rw [eq, decide_eq_false c])))
      · exact .inr (.inr (.inr (by rw [es, decide_eq_false c])))
    refine ⟨_, rfl, _, rfl, _, rfl, b, wd, L, ls, as, p, a, rfl, B, _, rfl, ?_⟩
    cases ha : Kp379.isAct wd p a with
    | false =>
      refine ifT rfl ?_
      refine ifT rfl ?_
      exact ⟨(by show 1 ≤ sizeLine; decide), fun r hr0 => bad r hr0 (.inl ha)⟩
    | true =>
      refine ifF rfl ?_
      refine ⟨_, rfl, _, rfl, b, _, _, _, (u : Int), rfl, B.b, _, rfl, ?_⟩
      by_cases hu : u < wd.v
      · refine ifF (by rw [dec_nat, decide_eq_true hu]; rfl) ?_
        refine ⟨_, rfl, _, rfl, b, st, wd, L, q, s, 0, rfl, B.b, hst, _, rfl, ?_⟩
        by_cases hq : q < wd.n ∧ s < wd.v
        · refine ifF (by rw [decide_eq_true hq.1, decide_eq_true hq.2]; rfl) ?_
          rw [if_neg (by rw [ha, eq, es, es, decide_eq_true hq.1, decide_eq_true hq.2, decide_eq_true hu]; simp)] at stp
          refine ⟨_, rfl, ra, l, rfl, hS, hl100, fun H1 s1 => ⟨_, rfl, ?_⟩⟩
          by_cases h1 : l.length = 1
          · obtain ⟨x, rfl⟩ := len1 h1
            have ep : payOk [x] = (decide (-9 ≤ x) && decide (x ≤ 9)) := by
              unfold payOk
              rw [List.all_cons, List.all_nil, Bool.and_true]
            by_cases hx9 : -9 ≤ x ∧ x ≤ 9
            · refine ifF (by rw [decide_eq_true h1, ep, decide_eq_true hx9.1, decide_eq_true hx9.2]; rfl) ?_
              have stp : Kp379.step (some wd) (.ifPay p a u q s n [x]) = ofStand (some wd) wd q s 0 n 0 fun y => Kp379.frRow (Kp379.worth (setAct wd p a { actAt wd p a with pays := (actAt wd p a).pays.set u x }) s y n) := by
                rw [stp]
                show (if x < -9 ∨ 9 < x then _ else _) = _
                rw [if_neg (by omega)]
              refine ⟨_, rfl, n, 0, rfl, _, rfl, ?_⟩
              rcases refuse_cases wd q s 0 n 0 (some wd) (fun y => Kp379.frRow (Kp379.worth (setAct wd p a { actAt wd p a with pays := (actAt wd p a).pays.set u x }) s y n)) with ⟨c, e⟩ | ⟨c, hp, hs, hl, h4, _, e⟩
              · have h4 : 4 < n := by
                  unfold refuse at c
                  rw [if_neg (by omega)] at c
                  by_cases h4 : 4 < n
                  · exact h4
                  · rw [if_neg (by omega)] at c
                    omega
                have ec : refuse wd q s 0 n 0 = -22 := by
                  unfold refuse
                  rw [if_neg (by omega), if_pos (by omega)]
                rw [ec] at e
                refine ifT (by rw [decide_eq_false (show ¬ n ≤ 4 by omega), Bool.and_false]; rfl) ?_
                exact ⟨(by show 1 ≤ sizeLine; decide), fun r hr0 => k.no B (stp.trans e) s1 hr0⟩
              · refine ifF (by rw [decide_eq_true (show 0 ≤ n by omega), decide_eq_true h4]; rfl) ?_
                rw [stN_stV q s hl] at hst
                refine ⟨_, rfl, b, wd, L, ls, as, rfl, B.same s1, fun H2 b' L' ls' as' s2 B' fr sep => ?_⟩
                obtain ⟨lp, t, x0, hlp, ht', hx, ⟨⟨da, h1'⟩, h2', h3'⟩, LA⟩ := B'.at ha
                obtain ⟨dx', hb'⟩ := B'.bd
                have ok := B'.wf.act (isAct_of ha).1 (List.mem_of_getElem? hx)
                refine ⟨_, rfl, b', CB, dx', _, _, rfl, hb', T.clB, T.nActs, bF_acts _ _ _, _, rfl, L', _, _, _, rfl, rfl, SqL.of B'.ll, at_of (j := p) (v := V.ref lp) rfl (by rw [List.getElem?_map, hlp]; rfl), _, rfl, lp, _, _, _, rfl, rfl, SqL.of LA.lst, at_of (j := a) (v := V.ref t.1) rfl (by rw [List.getElem?_map, show (as'.getD p [])[a]? = some t from ht']; rfl), ?_⟩
                refine ⟨_, rfl, ra, _, _, _, rfl, rfl, (s1.trans s2).seq hS, at_of (j := 0) (v := V.int x) rfl rfl, ?_⟩
                refine ⟨_, rfl, t.1, CA, da, _, _, rfl, h1', T.clA, T.nPays, aF_pays _ _ _ _, _, rfl, t.2.1, _, (u : Int), u, rfl, rfl, h2', ?_, ?_⟩
                · unfold ixN
                  rw [if_pos (by omega), if_pos (by rw [List.length_map, ok.pl]; omega), Int.toNat_natCast]
                have em : (x0.pays.map V.int).set u (V.int x) = ({ x0 with pays := x0.pays.set u x } : Kp379.Act).pays.map V.int := by
                  show _ = (x0.pays.set u x).map V.int
                  rw [List.map_set]
                rw [em]
                have ok' : ActOk wd.n wd.v { x0 with pays := x0.pays.set u x } := ⟨by show (x0.pays.set u x).length = _; rw [List.length_set]; exact ok.pl, fun z hz => by
                  rcases List.mem_or_eq_of_mem_set hz with h | h
                  · exact ok.pb z h
                  · rw [h]; exact hx9, ok.tl, ok.tb, ok.t0, ok.tu⟩
                have B2 := B'.setPay sep (x' := { x0 with pays := x0.pays.set u x }) ht' hx rfl rfl rfl ok'
                have s3 : Same H (upd H2 t.2.1 (.lst (({ x0 with pays := x0.pays.set u x } : Kp379.Act).pays.map V.int))) := fun c o e => by
                  rw [upd_ne (ne_of_none e (s1.free (fr p a t ht').2.1))]
                  exact s2 _ _ (s1 _ _ e)
                refine ⟨_, rfl, _, rfl, _, rfl, b', st, _, L', ls', as', q, s, (0 : Nat) == 1, n, rfl, B2, s3 _ _ hst, hq.1, hq.2, h4, fun H3 r s4 hr0 hr1 => ?_⟩
                refine k.query B ?_ (s3.trans s4) (s3.free hr0) hr1
                rw [stp, e, actAt_of hx]
            · refine ifT ?_ ?_
              · rw [decide_eq_true h1, ep]
                by_cases h2 : -9 ≤ x
                · rw [decide_eq_true h2, decide_eq_false (fun h => hx9 ⟨h2, h⟩)]; rfl
                · rw [decide_eq_false h2]; rfl
              · refine ifT rfl ?_
                refine ⟨(by show 1 ≤ sizeLine; decide), fun r hr0 => k.no B ?_ s1 hr0⟩
                rw [stp]
                show (if x < -9 ∨ 9 < x then _ else _) = _
                rw [if_pos (by omega)]
          · refine ifT (by rw [decide_eq_false h1]; rfl) ?_
            refine ifT rfl ?_
            refine ⟨(by show 1 ≤ sizeLine; decide), fun r hr0 => k.no B ?_ s1 hr0⟩
            rw [stp]
            match l, h1 with
            | [], _ => rfl
            | [_], h1 => exact absurd rfl h1
            | _ :: _ :: _, _ => rfl
        · refine ifT ?_ ?_
          · by_cases h2 : q < wd.n
            · rw [decide_eq_true h2, decide_eq_false (fun h => hq ⟨h2, h⟩)]; rfl
            · rw [decide_eq_false h2]; rfl
          · exact ⟨(by show 1 ≤ sizeLine; decide), fun r hr0 => bad r hr0 (.inr (.inr (by omega)))⟩
      · refine ifT (by rw [dec_nat, decide_eq_false hu]; rfl) ?_
        refine ifT rfl ?_
        exact ⟨(by show 1 ≤ sizeLine; decide), fun r hr0 => bad r hr0 (.inr (.inl hu))⟩
/-! ### which call is answered where -/
theorem Said.on {b L : Addr} {ls : List Addr} {as : List (List Trip)} {st : Kp379.State} {c : Kp379.Call} {H H1 : Hp} {Q : VK} (h : Said CB CA b st c L ls as H Q) (s : Same H H1) : Said CB CA b st c L ls as H1 Q :=
  fun H' r L' ls' as' a f hr e => h H' r L' ls' as' a ⟨fun c o q n => f.keep c o (s _ _ q) n, fun c q => (f.new c q).elim .inl fun z => .inr (s.free z)⟩ (s.free hr) e
def spDisp (CB CA CC : Addr) (ok : Int → Prop) : Sp := fun vs H Q _ => ∃ (b : Addr) (t : Trip) (wd : Kp379.World) (L : Addr) (ls : List Addr) (as : List (List Trip)) (c : Raw) (kc : Kp379.Call) (e : Int), vs = [.ref b, .ref t.1] ∧ BoardAt CB CA H b wd L ls as ∧ CallAt CC H t c.p c.g c.r e ∧ Means c kc ∧ ok c.p ∧
  Said CB CA b (some wd) kc L ls as H Q
theorem ok_answer_by_lights {f : Addr} {fd : FuncData} (F : Fun K "answer_by_lights" "answer_by_lights" s_answer_by_lights f fd) (T : Txt K CB CA CO CC) (h9 : IntC mg "WORTH" 9) (h10 : IntC mg "BRINGS" 10)
    (O1 : Own P w K mg base "answer_worth" 10 ["board", "light", "stand", "steps"] (spWorth CB CA)) (O2 : Own P w K mg base "answer_brings" 10 ["board", "light", "stand", "number", "steps"] (spBrings CB CA)) (O3 : Own P w K mg base "answer_ideal" 4 ["board", "light", "place", "steps"] (spIdeal CB CA)) :
    FnOk P w K mg base CX0 11 f fd ["board", "call"] (spDisp CB CA CC fun p => p = 9 ∨ p = 10 ∨ p = 12) := by
  refine F.ok sc_answer_by_lights (fun vs H Q E h => ?_) (fun cdv A outer s H vs Q E hr h => ?_)
  · obtain ⟨b, t, wd, L, ls, as, c, kc, e, rfl, _⟩ := h
    rfl
  · obtain ⟨b, t, wd, L, ls, as, c, kc, e, rfl, B, CL, mean, lo, k⟩ := h
    have nd := sc_answer_by_lights.nd
    refine ⟨_, pss_cons (ps_set (i := 2) nd rfl (Or.inl rfl) (pe_fld (pv 1) rfl))
      (pss_cons (ps_if (pt_cmpR op_eq (pe_fld (pv 1) rfl) (pe_intC h9) (nomark _)) (pss_one (ps_ret (pe_own O1 hr (pa_cons (pv 0) (pa_cons (pe_ix ix_list (pv 2) pe_int (fun _ _ => rfl)) (pa_cons (pe_tup (pa_cons (pe_ix ix_list (pv 2) pe_int (fun _ _ => rfl)) (pa_cons (pe_ix ix_list (pv 2) pe_int (fun _ _ => rfl)) (pa_cons (pe_ix ix_list (pv 2) pe_int (fun _ _ => rfl)) pa_nil)))) (pa_cons (pe_ix ix_list (pv 2) pe_int (fun _ _ => rfl)) pa_nil))))))) pss_nil)
      (pss_cons (ps_if (pt_cmpR op_eq (pe_fld (pv 1) rfl) (pe_intC h10) (nomark _)) (pss_one (ps_ret (pe_own O2 hr (pa_cons (pv 0) (pa_cons (pe_ix ix_list (pv 2) pe_int (fun _ _ => rfl)) (pa_cons (pe_tup (pa_cons (pe_ix ix_list (pv 2) pe_int (fun _ _ => rfl)) (pa_cons (pe_ix ix_list (pv 2) pe_int (fun _ _ => rfl)) (pa_cons (pe_ix ix_list (pv 2) pe_int (fun _ _ => rfl)) pa_nil)))) (pa_cons (pe_ix ix_list (pv 2) pe_int (fun _ _ => rfl)) (pa_cons (pe_ix ix_list (pv 2) pe_int (fun _ _ => rfl)) pa_nil)))))))) pss_nil)
      (pss_one (ps_ret (pe_own O3 (hr.mono (by decide)) (pa_cons (pv 0) (pa_cons (pe_ix ix_list (pv 2) pe_int (fun _ _ => rfl)) (pa_cons (pe_ix ix_list (pv 2) pe_int (fun _ _ => rfl)) (pa_cons (pe_ix ix_list (pv 2) pe_int (fun _ _ => rfl)) pa_nil))))))))), ?_⟩
    obtain ⟨⟨dx, c1⟩, c2, c3⟩ := CL
    refine ⟨_, rfl, t.1, CC, dx, _, _, rfl, c1, T.clC, T.nGiven, cF_given _ _ _ _, ?_⟩
    cases mean with
    | worth u p s l n =>
      refine if_num T rfl c1 rfl ?_
      refine ⟨_, rfl, _, rfl, t.2.1, _, _, _, rfl, rfl, SqL.of c2, given_at (j := 0) rfl, _, rfl, t.2.1, _, _, _, rfl, rfl, SqL.of c2, given_at (j := 1) rfl, _, rfl, t.2.1, _, _, _, rfl, rfl, SqL.of c2, given_at (j := 2) rfl, _, rfl, t.2.1, _, _, _, rfl, rfl, SqL.of c2, given_at (j := 3) rfl, (by show 3 ≤ sizeLine; decide), fun st hst => ?_⟩
      have s1 : Same H (upd H st (.tup (stN p s l))) := same_new hst
      exact ⟨_, rfl, t.2.1, _, _, _, rfl, rfl, SqL.of (s1 _ _ c2), given_at (j := 4) rfl, b, st, wd, L, ls, as, u, p, s, l, n, rfl, upd_same, B.same s1, k.on s1⟩
    | brings u p s l a n =>
      refine if_not T rfl c1 (by show (10 : Int) ≠ 9; decide) (if_num T rfl c1 rfl ?_)
      refine ⟨_, rfl, _, rfl, t.2.1, _, _, _, rfl, rfl, SqL.of c2, given_at (j := 0) rfl, _, rfl, t.2.1, _, _, _, rfl, rfl, SqL.of c2, given_at (j := 1) rfl, _, rfl, t.2.1, _, _, _, rfl, rfl, SqL.of c2, given_at (j := 2) rfl, _, rfl, t.2.1, _, _, _, rfl, rfl, SqL.of c2, given_at (j := 3) rfl, (by show 3 ≤ sizeLine; decide), fun st hst => ?_⟩
      have s1 : Same H (upd H st (.tup (stN p s l))) := same_new hst
      exact ⟨_, rfl, t.2.1, _, _, _, rfl, rfl, SqL.of (s1 _ _ c2), given_at (j := 4) rfl, _, rfl, t.2.1, _, _, _, rfl, rfl, SqL.of (s1 _ _ c2), given_at (j := 5) rfl, b, st, wd, L, ls, as, u, p, s, l, a, n, rfl, upd_same, B.same s1, k.on s1⟩
    | ideal u p n =>
      refine if_not T rfl c1 (by show (12 : Int) ≠ 9; decide) (if_not T rfl c1 (by show (12 : Int) ≠ 10; decide) ?_)
      exact ⟨_, rfl, _, rfl, t.2.1, _, _, _, rfl, rfl, SqL.of c2, given_at (j := 0) rfl, _, rfl, t.2.1, _, _, _, rfl, rfl, SqL.of c2, given_at (j := 1) rfl, _, rfl, t.2.1, _, _, _, rfl, rfl, SqL.of c2, given_at (j := 2) rfl, b, wd, L, ls, as, u, p, n, rfl, B, k⟩
    | begin_ _ _ => exact absurd lo (by show ¬ ((0 : Int) = 9 ∨ (0 : Int) = 10 ∨ (0 : Int) = 12); decide)
    | act _ _ _ => exact absurd lo (by show ¬ ((1 : Int) = 9 ∨ (1 : Int) = 10 ∨ (1 : Int) = 12); decide)
    | unact _ _ => exact absurd lo (by show ¬ ((2 : Int) = 9 ∨ (2 : Int) = 10 ∨ (2 : Int) = 12); decide)
    | turn _ _ _ => exact absurd lo (by show ¬ ((3 : Int) = 9 ∨ (3 : Int) = 10 ∨ (3 : Int) = 12); decide)
    | lock _ _ _ => exact absurd lo (by show ¬ ((4 : Int) = 9 ∨ (4 : Int) = 10 ∨ (4 : Int) = 12); decide)
    | actIs _ _ => exact absurd lo (by show ¬ ((5 : Int) = 9 ∨ (5 : Int) = 10 ∨ (5 : Int) = 12); decide)
    | acts _ => exact absurd lo (by show ¬ ((6 : Int) = 9 ∨ (6 : Int) = 10 ∨ (6 : Int) = 12); decide)
    | does _ _ _ _ => exact absurd lo (by show ¬ ((7 : Int) = 9 ∨ (7 : Int) = 10 ∨ (7 : Int) = 12); decide)
    | bests _ _ _ _ => exact absurd lo (by show ¬ ((8 : Int) = 9 ∨ (8 : Int) = 10 ∨ (8 : Int) = 12); decide)
    | lights _ _ _ _ => exact absurd lo (by show ¬ ((11 : Int) = 9 ∨ (11 : Int) = 10 ∨ (11 : Int) = 12); decide)
    | short _ _ _ _ => exact absurd lo (by show ¬ ((13 : Int) = 9 ∨ (13 : Int) = 10 ∨ (13 : Int) = 12); decide)
    | after _ _ _ _ => exact absurd lo (by show ¬ ((14 : Int) = 9 ∨ (14 : Int) = 10 ∨ (14 : Int) = 12); decide)
    | selves _ _ _ _ => exact absurd lo (by show ¬ ((15 : Int) = 9 ∨ (15 : Int) = 10 ∨ (15 : Int) = 12); decide)
    | turns _ _ => exact absurd lo (by show ¬ ((16 : Int) = 9 ∨ (16 : Int) = 10 ∨ (16 : Int) = 12); decide)
    | never _ _ => exact absurd lo (by show ¬ ((17 : Int) = 9 ∨ (17 : Int) = 10 ∨ (17 : Int) = 12); decide)
    | ifTurn _ _ _ _ _ _ => exact absurd lo (by show ¬ ((18 : Int) = 9 ∨ (18 : Int) = 10 ∨ (18 : Int) = 12); decide)
    | ifPay _ _ _ _ _ _ _ _ => exact absurd lo (by show ¬ ((19 : Int) = 9 ∨ (19 : Int) = 10 ∨ (19 : Int) = 12); decide)
end
end Sel

set_option maxRecDepth 100000
set_option maxHeartbeats 2000000
namespace Sel
open PySem PySem.Spec PyProof.Rows L2
open Kp379 (actsAt actAt Stand stands setActs setAct ofStand)
section
variable {P : Program} {w : PySem.World} {K : PySem.W.Frag} {mg : Str → Option Value} {base : Heap} {CB CA CO CC CI CH : Addr}
theorem ok_answer_about_stands {f : Addr} {fd : FuncData} (F : Fun K "answer_about_stands" "answer_about_stands" s_answer_about_stands f fd) (T : Txt K CB CA CO CC) (h7 : IntC mg "DOES" 7) (h8 : IntC mg "BESTS" 8) (h11 : IntC mg "LIGHTS" 11) (h13 : IntC mg "SHORT" 13) (h14 : IntC mg "AFTER" 14)
    (O7 : Own P w K mg base "answer_does" 10 ["board", "stand", "steps"] (spQ CB CA .does)) (O8 : Own P w K mg base "answer_bests" 10 ["board", "stand", "steps"] (spQ CB CA .bests)) (O11 : Own P w K mg base "answer_lights" 10 ["board", "stand", "steps"] (spQ CB CA .lights)) (O13 : Own P w K mg base "answer_short" 10 ["board", "stand", "steps"] (spQ CB CA .short)) (O14 : Own P w K mg base "answer_after" 10 ["board", "stand", "steps"] (spQ CB CA .after)) (O15 : Own P w K mg base "answer_selves" 10 ["board", "stand", "steps"] (spQ CB CA .selves)) :
    FnOk P w K mg base CX0 11 f fd ["board", "call"] (spDisp CB CA CC fun p => p = 7 ∨ p = 8 ∨ p = 11 ∨ p = 13 ∨ p = 14 ∨ p = 15) := by
  refine F.ok sc_answer_about_stands (fun vs H Q E h => ?_) (fun cdv A outer s H vs Q E hr h => ?_)
  · obtain ⟨b, t, wd, L, ls, as, c, kc, e, rfl, _⟩ := h
    rfl
  · obtain ⟨b, t, wd, L, ls, as, c, kc, e, rfl, B, CL, mean, lo, k⟩ := h
    have nd := sc_answer_about_stands.nd
    refine ⟨_, pss_cons (ps_set (i := 2) nd rfl (Or.inl rfl) (pe_tup (pa_cons (pe_ix ix_list (pe_fld (pv 1) rfl) pe_int (fun _ _ => rfl)) (pa_cons (pe_ix ix_list (pe_fld (pv 1) rfl) pe_int (fun _ _ => rfl)) (pa_cons (pe_ix ix_list (pe_fld (pv 1) rfl) pe_int (fun _ _ => rfl)) pa_nil)))))
      (pss_cons (ps_set (i := 3) nd rfl (Or.inl rfl) (pe_ix ix_list (pe_fld (pv 1) rfl) pe_int (fun _ _ => rfl)))
      (pss_cons (ps_if (pt_cmpR op_eq (pe_fld (pv 1) rfl) (pe_intC h7) (nomark _)) (pss_one (ps_ret (pe_own O7 hr (pa_cons (pv 0) (pa_cons (pv 2) (pa_cons (pv 3) pa_nil)))))) pss_nil)
      (pss_cons (ps_if (pt_cmpR op_eq (pe_fld (pv 1) rfl) (pe_intC h8) (nomark _)) (pss_one (ps_ret (pe_own O8 hr (pa_cons (pv 0) (pa_cons (pv 2) (pa_cons (pv 3) pa_nil)))))) pss_nil)
      (pss_cons (ps_if (pt_cmpR op_eq (pe_fld (pv 1) rfl) (pe_intC h11) (nomark _)) (pss_one (ps_ret (pe_own O11 hr (pa_cons (pv 0) (pa_cons (pv 2) (pa_cons (pv 3) pa_nil)))))) pss_nil)
      (pss_cons (ps_if (pt_cmpR op_eq (pe_fld (pv 1) rfl) (pe_intC h13) (nomark _)) (pss_one (ps_ret (pe_own O13 hr (pa_cons (pv 0) (pa_cons (pv 2) (pa_cons (pv 3) pa_nil)))))) pss_nil)
      (pss_cons (ps_if (pt_cmpR op_eq (pe_fld (pv 1) rfl) (pe_intC h14) (nomark _)) (pss_one (ps_ret (pe_own O14 hr (pa_cons (pv 0) (pa_cons (pv 2) (pa_cons (pv 3) pa_nil)))))) pss_nil)
      (pss_one (ps_ret (pe_own O15 hr (pa_cons (pv 0) (pa_cons (pv 2) (pa_cons (pv 3) pa_nil)))))))))))), ?_⟩
    obtain ⟨⟨dx, c1⟩, c2, c3⟩ := CL
    cases mean with
    | does p s l n =>
      refine ⟨_, rfl, t.1, CC, dx, _, _, rfl, c1, T.clC, T.nGiven, cF_given _ _ _ _, t.2.1, _, _, _, rfl, rfl, SqL.of c2, given_at (j := 0) rfl, _, rfl, t.1, CC, dx, _, _, rfl, c1, T.clC, T.nGiven, cF_given _ _ _ _, t.2.1, _, _, _, rfl, rfl, SqL.of c2, given_at (j := 1) rfl, _, rfl, t.1, CC, dx, _, _, rfl, c1, T.clC, T.nGiven, cF_given _ _ _ _, t.2.1, _, _, _, rfl, rfl, SqL.of c2, given_at (j := 2) rfl, (by show 3 ≤ sizeLine; decide), fun st hst => ?_⟩
      have s1 : Same H (upd H st (.tup (stN p s l))) := same_new hst
      refine ⟨_, rfl, t.1, CC, dx, _, _, rfl, s1 _ _ c1, T.clC, T.nGiven, cF_given _ _ _ _, t.2.1, _, _, _, rfl, rfl, SqL.of (s1 _ _ c2), given_at (j := 3) rfl, ?_⟩
      refine if_num T rfl (s1 _ _ c1) rfl ?_
      exact ⟨_, rfl, _, rfl, _, rfl, b, st, wd, L, ls, as, p, s, l, n, rfl, upd_same, B.same s1, k.on s1⟩
    | bests p s l n =>
      refine ⟨_, rfl, t.1, CC, dx, _, _, rfl, c1, T.clC, T.nGiven, cF_given _ _ _ _, t.2.1, _, _, _, rfl, rfl, SqL.of c2, given_at (j := 0) rfl, _, rfl, t.1, CC, dx, _, _, rfl, c1, T.clC, T.nGiven, cF_given _ _ _ _, t.2.1, _, _, _, rfl, rfl, SqL.of c2, given_at (j := 1) rfl, _, rfl, t.1, CC, dx, _, _, rfl, c1, T.clC, T.nGiven, cF_given _ _ _ _, t.2.1, _, _, _, rfl, rfl, SqL.of c2, given_at (j := 2) rfl, (by show 3 ≤ sizeLine; decide), fun st hst => ?_⟩
      have s1 : Same H (upd H st (.tup (stN p s l))) := same_new hst
      refine ⟨_, rfl, t.1, CC, dx, _, _, rfl, s1 _ _ c1, T.clC, T.nGiven, cF_given _ _ _ _, t.2.1, _, _, _, rfl, rfl, SqL.of (s1 _ _ c2), given_at (j := 3) rfl, ?_⟩
      refine if_not T rfl (s1 _ _ c1) (by show (8 : Int) ≠ 7; decide) (if_num T rfl (s1 _ _ c1) rfl ?_)
      exact ⟨_, rfl, _, rfl, _, rfl, b, st, wd, L, ls, as, p, s, l, n, rfl, upd_same, B.same s1, k.on s1⟩
    | lights p s l n =>
      refine ⟨_, rfl, t.1, CC, dx, _, _, rfl, c1, T.clC, T.nGiven, cF_given _ _ _ _, t.2.1, _, _, _, rfl, rfl, SqL.of c2, given_at (j := 0) rfl, _, rfl, t.1, CC, dx, _, _, rfl, c1, T.clC, T.nGiven, cF_given _ _ _ _, t.2.1, _, _, _, rfl, rfl, SqL.of c2, given_at (j := 1) rfl, _, rfl, t.1, CC, dx, _, _, rfl, c1, T.clC, T.nGiven, cF_given _ _ _ _, t.2.1, _, _, _, rfl, rfl, SqL.of c2, given_at (j := 2) rfl, (by show 3 ≤ sizeLine; decide), fun st hst => ?_⟩
      have s1 : Same H (upd H st (.tup (stN p s l))) := same_new hst
      refine ⟨_, rfl, t.1, CC, dx, _, _, rfl, s1 _ _ c1, T.clC, T.nGiven, cF_given _ _ _ _, t.2.1, _, _, _, rfl, rfl, SqL.of (s1 _ _ c2), given_at (j := 3) rfl, ?_⟩
      refine if_not T rfl (s1 _ _ c1) (by show (11 : Int) ≠ 7; decide) (if_not T rfl (s1 _ _ c1) (by show (11 : Int) ≠ 8; decide) (if_num T rfl (s1 _ _ c1) rfl ?_))
      exact ⟨_, rfl, _, rfl, _, rfl, b, st, wd, L, ls, as, p, s, l, n, rfl, upd_same, B.same s1, k.on s1⟩
    | short p s l n =>
      refine ⟨_, rfl, t.1, CC, dx, _, _, rfl, c1, T.clC, T.nGiven, cF_given _ _ _ _, t.2.1, _, _, _, rfl, rfl, SqL.of c2, given_at (j := 0) rfl, _, rfl, t.1, CC, dx, _, _, rfl, c1, T.clC, T.nGiven, cF_given _ _ _ _, t.2.1, _, _, _, rfl, rfl, SqL.of c2, given_at (j := 1) rfl, _, rfl, t.1, CC, dx, _, _, rfl, c1, T.clC, T.nGiven, cF_given _ _ _ _, t.2.1, _, _, _, rfl, rfl, SqL.of c2, given_at (j := 2) rfl, (by show 3 ≤ sizeLine; decide), fun st hst => ?_⟩
      have s1 : Same H (upd H st (.tup (stN p s l))) := same_new hst
      refine ⟨_, rfl, t.1, CC, dx, _, _, rfl, s1 _ _ c1, T.clC, T.nGiven, cF_given _ _ _ _, t.2.1, _, _, _, rfl, rfl, SqL.of (s1 _ _ c2), given_at (j := 3) rfl, ?_⟩
      refine if_not T rfl (s1 _ _ c1) (by show (13 : Int) ≠ 7; decide) (if_not T rfl (s1 _ _ c1) (by show (13 : Int) ≠ 8; decide) (if_not T rfl (s1 _ _ c1) (by show (13 : Int) ≠ 11; decide) (if_num T rfl (s1 _ _ c1) rfl ?_)))
      exact ⟨_, rfl, _, rfl, _, rfl, b, st, wd, L, ls, as, p, s, l, n, rfl, upd_same, B.same s1, k.on s1⟩
    | after p s l n =>
      refine ⟨_, rfl, t.1, CC, dx, _, _, rfl, c1, T.clC, T.nGiven, cF_given _ _ _ _, t.2.1, _, _, _, rfl, rfl, SqL.of c2, given_at (j := 0) rfl, _, rfl, t.1, CC, dx, _, _, rfl, c1, T.clC, T.nGiven, cF_given _ _ _ _, t.2.1, _, _, _, rfl, rfl, SqL.of c2, given_at (j := 1) rfl, _, rfl, t.1, CC, dx, _, _, rfl, c1, T.clC, T.nGiven, cF_given _ _ _ _, t.2.1, _, _, _, rfl, rfl, SqL.of c2, given_at (j := 2) rfl, (by show 3 ≤ sizeLine; decide), fun st hst => ?_⟩
      have s1 : Same H (upd H st (.tup (stN p s l))) := same_new hst
      refine ⟨_, rfl, t.1, CC, dx, _, _, rfl, s1 _ _ c1, T.clC, T.nGiven, cF_given _ _ _ _, t.2.1, _, _, _, rfl, rfl, SqL.of (s1 _ _ c2), given_at (j := 3) rfl, ?_⟩
      refine if_not T rfl (s1 _ _ c1) (by show (14 : Int) ≠ 7; decide) (if_not T rfl (s1 _ _ c1) (by show (14 : Int) ≠ 8; decide) (if_not T rfl (s1 _ _ c1) (by show (14 : Int) ≠ 11; decide) (if_not T rfl (s1 _ _ c1) (by show (14 : Int) ≠ 13; decide) (if_num T rfl (s1 _ _ c1) rfl ?_))))
      exact ⟨_, rfl, _, rfl, _, rfl, b, st, wd, L, ls, as, p, s, l, n, rfl, upd_same, B.same s1, k.on s1⟩
    | selves p s l n =>
      refine ⟨_, rfl, t.1, CC, dx, _, _, rfl, c1, T.clC, T.nGiven, cF_given _ _ _ _, t.2.1, _, _, _, rfl, rfl, SqL.of c2, given_at (j := 0) rfl, _, rfl, t.1, CC, dx, _, _, rfl, c1, T.clC, T.nGiven, cF_given _ _ _ _, t.2.1, _, _, _, rfl, rfl, SqL.of c2, given_at (j := 1) rfl, _, rfl, t.1, CC, dx, _, _, rfl, c1, T.clC, T.nGiven, cF_given _ _ _ _, t.2.1, _, _, _, rfl, rfl, SqL.of c2, given_at (j := 2) rfl, (by show 3 ≤ sizeLine; decide), fun st hst => ?_⟩
      have s1 : Same H (upd H st (.tup (stN p s l))) := same_new hst
      refine ⟨_, rfl, t.1, CC, dx, _, _, rfl, s1 _ _ c1, T.clC, T.nGiven, cF_given _ _ _ _, t.2.1, _, _, _, rfl, rfl, SqL.of (s1 _ _ c2), given_at (j := 3) rfl, ?_⟩
      refine if_not T rfl (s1 _ _ c1) (by show (15 : Int) ≠ 7; decide) (if_not T rfl (s1 _ _ c1) (by show (15 : Int) ≠ 8; decide) (if_not T rfl (s1 _ _ c1) (by show (15 : Int) ≠ 11; decide) (if_not T rfl (s1 _ _ c1) (by show (15 : Int) ≠ 13; decide) (if_not T rfl (s1 _ _ c1) (by show (15 : Int) ≠ 14; decide) (?_)))))
      exact ⟨_, rfl, _, rfl, _, rfl, b, st, wd, L, ls, as, p, s, l, n, rfl, upd_same, B.same s1, k.on s1⟩
    | begin_ _ _ => exact absurd lo (by show ¬ ((0 : Int) = 7 ∨ (0 : Int) = 8 ∨ (0 : Int) = 11 ∨ (0 : Int) = 13 ∨ (0 : Int) = 14 ∨ (0 : Int) = 15); decide)
    | act _ _ _ => exact absurd lo (by show ¬ ((1 : Int) = 7 ∨ (1 : Int) = 8 ∨ (1 : Int) = 11 ∨ (1 : Int) = 13 ∨ (1 : Int) = 14 ∨ (1 : Int) = 15); decide)
    | unact _ _ => exact absurd lo (by show ¬ ((2 : Int) = 7 ∨ (2 : Int) = 8 ∨ (2 : Int) = 11 ∨ (2 : Int) = 13 ∨ (2 : Int) = 14 ∨ (2 : Int) = 15); decide)
    | turn _ _ _ => exact absurd lo (by show ¬ ((3 : Int) = 7 ∨ (3 : Int) = 8 ∨ (3 : Int) = 11 ∨ (3 : Int) = 13 ∨ (3 : Int) = 14 ∨ (3 : Int) = 15); decide)
    | lock _ _ _ => exact absurd lo (by show ¬ ((4 : Int) = 7 ∨ (4 : Int) = 8 ∨ (4 : Int) = 11 ∨ (4 : Int) = 13 ∨ (4 : Int) = 14 ∨ (4 : Int) = 15); decide)
    | actIs _ _ => exact absurd lo (by show ¬ ((5 : Int) = 7 ∨ (5 : Int) = 8 ∨ (5 : Int) = 11 ∨ (5 : Int) = 13 ∨ (5 : Int) = 14 ∨ (5 : Int) = 15); decide)
    | acts _ => exact absurd lo (by show ¬ ((6 : Int) = 7 ∨ (6 : Int) = 8 ∨ (6 : Int) = 11 ∨ (6 : Int) = 13 ∨ (6 : Int) = 14 ∨ (6 : Int) = 15); decide)
    | worth _ _ _ _ _ => exact absurd lo (by show ¬ ((9 : Int) = 7 ∨ (9 : Int) = 8 ∨ (9 : Int) = 11 ∨ (9 : Int) = 13 ∨ (9 : Int) = 14 ∨ (9 : Int) = 15); decide)
    | brings _ _ _ _ _ _ => exact absurd lo (by show ¬ ((10 : Int) = 7 ∨ (10 : Int) = 8 ∨ (10 : Int) = 11 ∨ (10 : Int) = 13 ∨ (10 : Int) = 14 ∨ (10 : Int) = 15); decide)
    | ideal _ _ _ => exact absurd lo (by show ¬ ((12 : Int) = 7 ∨ (12 : Int) = 8 ∨ (12 : Int) = 11 ∨ (12 : Int) = 13 ∨ (12 : Int) = 14 ∨ (12 : Int) = 15); decide)
    | turns _ _ => exact absurd lo (by show ¬ ((16 : Int) = 7 ∨ (16 : Int) = 8 ∨ (16 : Int) = 11 ∨ (16 : Int) = 13 ∨ (16 : Int) = 14 ∨ (16 : Int) = 15); decide)
    | never _ _ => exact absurd lo (by show ¬ ((17 : Int) = 7 ∨ (17 : Int) = 8 ∨ (17 : Int) = 11 ∨ (17 : Int) = 13 ∨ (17 : Int) = 14 ∨ (17 : Int) = 15); decide)
    | ifTurn _ _ _ _ _ _ => exact absurd lo (by show ¬ ((18 : Int) = 7 ∨ (18 : Int) = 8 ∨ (18 : Int) = 11 ∨ (18 : Int) = 13 ∨ (18 : Int) = 14 ∨ (18 : Int) = 15); decide)
    | ifPay _ _ _ _ _ _ _ _ => exact absurd lo (by show ¬ ((19 : Int) = 7 ∨ (19 : Int) = 8 ∨ (19 : Int) = 11 ∨ (19 : Int) = 13 ∨ (19 : Int) = 14 ∨ (19 : Int) = 15); decide)
theorem ok_answer_about_turning {f : Addr} {fd : FuncData} (F : Fun K "answer_about_turning" "answer_about_turning" s_answer_about_turning f fd) (T : Txt K CB CA CO CC) (h16 : IntC mg "TURNS" 16) (h17 : IntC mg "NEVER" 17) (h18 : IntC mg "IFTURN" 18)
    (O1 : Own P w K mg base "answer_turns" 10 ["board", "who", "steps"] (spA CB CA mkTurns)) (O2 : Own P w K mg base "answer_never" 9 ["board", "who", "steps"] (spA CB CA mkNever)) (O3 : Own P w K mg base "answer_ifturn" 11 ["board", "place", "number", "into", "stand", "steps"] (spIfTurn CB CA))
    (O4 : Own P w K mg base "answer_ifpay" 11 ["board", "place", "number", "light", "stand", "steps", "row"] (spIfPay K CB CA)) :
    FnOk P w K mg base CX0 12 f fd ["board", "call"] (spDisp CB CA CC fun p => 16 ≤ p) := by
  refine F.ok sc_answer_about_turning (fun vs H Q E h => ?_) (fun cdv A outer s H vs Q E hr h => ?_)
  · obtain ⟨b, t, wd, L, ls, as, c, kc, e, rfl, _⟩ := h
    rfl
  · obtain ⟨b, t, wd, L, ls, as, c, kc, e, rfl, B, CL, mean, lo, k⟩ := h
    have nd := sc_answer_about_turning.nd
    refine ⟨_, pss_cons (ps_set (i := 2) nd rfl (Or.inl rfl) (pe_fld (pv 1) rfl))
      (pss_cons (ps_if (pt_cmpR op_eq (pe_fld (pv 1) rfl) (pe_intC h16) (nomark _)) (pss_one (ps_ret (pe_own O1 (hr.mono (by decide)) (pa_cons (pv 0) (pa_cons (pe_ix ix_list (pv 2) pe_int (fun _ _ => rfl)) (pa_cons (pe_ix ix_list (pv 2) pe_int (fun _ _ => rfl)) pa_nil)))))) pss_nil)
      (pss_cons (ps_if (pt_cmpR op_eq (pe_fld (pv 1) rfl) (pe_intC h17) (nomark _)) (pss_one (ps_ret (pe_own O2 (hr.mono (by decide)) (pa_cons (pv 0) (pa_cons (pe_ix ix_list (pv 2) pe_int (fun _ _ => rfl)) (pa_cons (pe_ix ix_list (pv 2) pe_int (fun _ _ => rfl)) pa_nil)))))) pss_nil)
      (pss_cons (ps_set (i := 3) nd rfl (Or.inl rfl) (pe_tup (pa_cons (pe_ix ix_list (pv 2) pe_int (fun _ _ => rfl)) (pa_cons (pe_ix ix_list (pv 2) pe_int (fun _ _ => rfl)) (pa_cons pe_int pa_nil)))))
      (pss_cons (ps_if (pt_cmpR op_eq (pe_fld (pv 1) rfl) (pe_intC h18) (nomark _)) (pss_one (ps_ret (pe_own O3 hr (pa_cons (pv 0) (pa_cons (pe_ix ix_list (pv 2) pe_int (fun _ _ => rfl)) (pa_cons (pe_ix ix_list (pv 2) pe_int (fun _ _ => rfl)) (pa_cons (pe_ix ix_list (pv 2) pe_int (fun _ _ => rfl)) (pa_cons (pv 3) (pa_cons (pe_ix ix_list (pv 2) pe_int (fun _ _ => rfl)) pa_nil))))))))) pss_nil)
      (pss_one (ps_ret (pe_own O4 hr (pa_cons (pv 0) (pa_cons (pe_ix ix_list (pv 2) pe_int (fun _ _ => rfl)) (pa_cons (pe_ix ix_list (pv 2) pe_int (fun _ _ => rfl)) (pa_cons (pe_ix ix_list (pv 2) pe_int (fun _ _ => rfl)) (pa_cons (pv 3) (pa_cons (pe_ix ix_list (pv 2) pe_int (fun _ _ => rfl)) (pa_cons (pe_fld (pv 1) rfl) pa_nil)))))))))))))), ?_⟩
    obtain ⟨⟨dx, c1⟩, c2, c3⟩ := CL
    refine ⟨_, rfl, t.1, CC, dx, _, _, rfl, c1, T.clC, T.nGiven, cF_given _ _ _ _, ?_⟩
    cases mean with
    | turns s n =>
      refine if_num T rfl c1 rfl ?_
      exact ⟨_, rfl, _, rfl, t.2.1, _, _, _, rfl, rfl, SqL.of c2, given_at (j := 0) rfl, _, rfl, t.2.1, _, _, _, rfl, rfl, SqL.of c2, given_at (j := 1) rfl, b, wd, L, ls, as, [s, n], _, rfl, rfl, B, k⟩
    | never s n =>
      refine if_not T rfl c1 (by show (17 : Int) ≠ 16; decide) (if_num T rfl c1 rfl ?_)
      exact ⟨_, rfl, _, rfl, t.2.1, _, _, _, rfl, rfl, SqL.of c2, given_at (j := 0) rfl, _, rfl, t.2.1, _, _, _, rfl, rfl, SqL.of c2, given_at (j := 1) rfl, b, wd, L, ls, as, [s, n], _, rfl, rfl, B, k⟩
    | ifTurn p a tn q s n =>
      refine if_not T rfl c1 (by show (18 : Int) ≠ 16; decide) (if_not T rfl c1 (by show (18 : Int) ≠ 17; decide) ?_)
      refine ⟨_, rfl, t.2.1, _, _, _, rfl, rfl, SqL.of c2, given_at (j := 3) rfl, _, rfl, t.2.1, _, _, _, rfl, rfl, SqL.of c2, given_at (j := 4) rfl, (by show 3 ≤ sizeLine; decide), fun st hst => ?_⟩
      have s1 : Same H (upd H st (.tup (stN q s 0))) := same_new hst
      refine if_num T rfl (s1 _ _ c1) rfl ?_
      exact ⟨_, rfl, _, rfl, t.2.1, _, _, _, rfl, rfl, SqL.of (s1 _ _ c2), given_at (j := 0) rfl, _, rfl, t.2.1, _, _, _, rfl, rfl, SqL.of (s1 _ _ c2), given_at (j := 1) rfl, _, rfl, t.2.1, _, _, _, rfl, rfl, SqL.of (s1 _ _ c2), given_at (j := 2) rfl, _, rfl, _, rfl, t.2.1, _, _, _, rfl, rfl, SqL.of (s1 _ _ c2), given_at (j := 5) rfl, b, st, wd, L, ls, as, p, a, tn, q, s, n, rfl, upd_same, B.same s1, k.on s1⟩
    | ifPay p a u q s n l hl =>
      refine if_not T rfl c1 (by show (19 : Int) ≠ 16; decide) (if_not T rfl c1 (by show (19 : Int) ≠ 17; decide) ?_)
      refine ⟨_, rfl, t.2.1, _, _, _, rfl, rfl, SqL.of c2, given_at (j := 3) rfl, _, rfl, t.2.1, _, _, _, rfl, rfl, SqL.of c2, given_at (j := 4) rfl, (by show 3 ≤ sizeLine; decide), fun st hst => ?_⟩
      have s1 : Same H (upd H st (.tup (stN q s 0))) := same_new hst
      refine if_not T rfl (s1 _ _ c1) (by show (19 : Int) ≠ 18; decide) ?_
      exact ⟨_, rfl, _, rfl, t.2.1, _, _, _, rfl, rfl, SqL.of (s1 _ _ c2), given_at (j := 0) rfl, _, rfl, t.2.1, _, _, _, rfl, rfl, SqL.of (s1 _ _ c2), given_at (j := 1) rfl, _, rfl, t.2.1, _, _, _, rfl, rfl, SqL.of (s1 _ _ c2), given_at (j := 2) rfl, _, rfl, _, rfl, t.2.1, _, _, _, rfl, rfl, SqL.of (s1 _ _ c2), given_at (j := 5) rfl, _, rfl, t.1, CC, dx, _, _, rfl, s1 _ _ c1, T.clC, T.nRow, cF_row _ _ _ _, b, st, t.2.2, wd, L, ls, as, p, a, u, q, s, n, l, rfl, upd_same, SqL.of (s1 _ _ c3), by omega, B.same s1, k.on s1⟩
    | begin_ _ _ => exact absurd lo (by show ¬ (16 ≤ (0 : Int)); decide)
    | act _ _ _ => exact absurd lo (by show ¬ (16 ≤ (1 : Int)); decide)
    | unact _ _ => exact absurd lo (by show ¬ (16 ≤ (2 : Int)); decide)
    | turn _ _ _ => exact absurd lo (by show ¬ (16 ≤ (3 : Int)); decide)
    | lock _ _ _ => exact absurd lo (by show ¬ (16 ≤ (4 : Int)); decide)
    | actIs _ _ => exact absurd lo (by show ¬ (16 ≤ (5 : Int)); decide)
    | acts _ => exact absurd lo (by show ¬ (16 ≤ (6 : Int)); decide)
    | does _ _ _ _ => exact absurd lo (by show ¬ (16 ≤ (7 : Int)); decide)
    | bests _ _ _ _ => exact absurd lo (by show ¬ (16 ≤ (8 : Int)); decide)
    | worth _ _ _ _ _ => exact absurd lo (by show ¬ (16 ≤ (9 : Int)); decide)
    | brings _ _ _ _ _ _ => exact absurd lo (by show ¬ (16 ≤ (10 : Int)); decide)
    | lights _ _ _ _ => exact absurd lo (by show ¬ (16 ≤ (11 : Int)); decide)
    | ideal _ _ _ => exact absurd lo (by show ¬ (16 ≤ (12 : Int)); decide)
    | short _ _ _ _ => exact absurd lo (by show ¬ (16 ≤ (13 : Int)); decide)
    | after _ _ _ _ => exact absurd lo (by show ¬ (16 ≤ (14 : Int)); decide)
    | selves _ _ _ _ => exact absurd lo (by show ¬ (16 ≤ (15 : Int)); decide)
end
end Sel

set_option maxRecDepth 100000
set_option maxHeartbeats 2000000
namespace Sel
open PySem PySem.Spec PyProof.Rows L2
section
variable {P : Program} {w : PySem.World} {K : PySem.W.Frag} {mg : Str → Option Value} {base : Heap} {CB CA CO CC CI CH : Addr}
theorem Means.rest {c : Raw} {kc : Kp379.Call} (m : Means c kc) : (∃ a b : Nat, c = ⟨0, [(a : Int), (b : Int)], []⟩ ∧ kc = .begin_ a b) ∨ (1 ≤ c.p ∧ c.p ≤ 19 ∧ Kp379.step none kc = (none, Kp379.say (-11))) := by
  cases m with
  | begin_ a b => exact .inl ⟨a, b, rfl, rfl⟩
  | act a l h => exact .inr ⟨(by show (1 : Int) ≤ 1; decide), (by show (1 : Int) ≤ 19; decide), rfl⟩
  | unact a b => exact .inr ⟨(by show (1 : Int) ≤ 2; decide), (by show (2 : Int) ≤ 19; decide), rfl⟩
  | turn a b c => exact .inr ⟨(by show (1 : Int) ≤ 3; decide), (by show (3 : Int) ≤ 19; decide), rfl⟩
  | lock a b c => exact .inr ⟨(by show (1 : Int) ≤ 4; decide), (by show (4 : Int) ≤ 19; decide), rfl⟩
  | actIs a b => exact .inr ⟨(by show (1 : Int) ≤ 5; decide), (by show (5 : Int) ≤ 19; decide), rfl⟩
  | acts a => exact .inr ⟨(by show (1 : Int) ≤ 6; decide), (by show (6 : Int) ≤ 19; decide), rfl⟩
  | does a b c d => exact .inr ⟨(by show (1 : Int) ≤ 7; decide), (by show (7 : Int) ≤ 19; decide), rfl⟩
  | bests a b c d => exact .inr ⟨(by show (1 : Int) ≤ 8; decide), (by show (8 : Int) ≤ 19; decide), rfl⟩
  | worth a b c d e => exact .inr ⟨(by show (1 : Int) ≤ 9; decide), (by show (9 : Int) ≤ 19; decide), rfl⟩
  | brings a b c d e f => exact .inr ⟨(by show (1 : Int) ≤ 10; decide), (by show (10 : Int) ≤ 19; decide), rfl⟩
  | lights a b c d => exact .inr ⟨(by show (1 : Int) ≤ 11; decide), (by show (11 : Int) ≤ 19; decide), rfl⟩
  | ideal a b c => exact .inr ⟨(by show (1 : Int) ≤ 12; decide), (by show (12 : Int) ≤ 19; decide), rfl⟩
  | short a b c d => exact .inr ⟨(by show (1 : Int) ≤ 13; decide), (by show (13 : Int) ≤ 19; decide), rfl⟩
  | after a b c d => exact .inr ⟨(by show (1 : Int) ≤ 14; decide), (by show (14 : Int) ≤ 19; decide), rfl⟩
  | selves a b c d => exact .inr ⟨(by show (1 : Int) ≤ 15; decide), (by show (15 : Int) ≤ 19; decide), rfl⟩
  | turns a b => exact .inr ⟨(by show (1 : Int) ≤ 16; decide), (by show (16 : Int) ≤ 19; decide), rfl⟩
  | never a b => exact .inr ⟨(by show (1 : Int) ≤ 17; decide), (by show (17 : Int) ≤ 19; decide), rfl⟩
  | ifTurn a b c d e f => exact .inr ⟨(by show (1 : Int) ≤ 18; decide), (by show (18 : Int) ≤ 19; decide), rfl⟩
  | ifPay a b c d e f l h => exact .inr ⟨(by show (1 : Int) ≤ 19; decide), (by show (19 : Int) ≤ 19; decide), rfl⟩
theorem ok_answer_call {f : Addr} {fd : FuncData} (F : Fun K "answer_call" "answer_call" s_answer_call f fd) (T : Txt K CB CA CO CC) (h0 : IntC mg "BEGIN" 0) (hNB : IntC mg "NOT_BEGUN" (-11)) (h6 : IntC mg "ACTS" 6) (h9 : IntC mg "WORTH" 9) (h10 : IntC mg "BRINGS" 10) (h12 : IntC mg "IDEAL" 12) (h15 : IntC mg "SELVES" 15)
    (OB : Own P w K mg base "answer_begin" 1 ["board", "places", "selves"] (spBegin CB CA)) (OG : Own P w K mg base "is_begun" 1 ["board"] (spBegun CB)) (O1 : Own P w K mg base "answer_about_acts" 4 ["board", "call"] (spAboutActs CB CA CC))
    (O2 : Own P w K mg base "answer_by_lights" 11 ["board", "call"] (spDisp CB CA CC fun p => p = 9 ∨ p = 10 ∨ p = 12)) (O3 : Own P w K mg base "answer_about_stands" 11 ["board", "call"] (spDisp CB CA CC fun p => p = 7 ∨ p = 8 ∨ p = 11 ∨ p = 13 ∨ p = 14 ∨ p = 15))
    (O4 : Own P w K mg base "answer_about_turning" 12 ["board", "call"] (spDisp CB CA CC fun p => 16 ≤ p)) : FnOk P w K mg base CX0 13 f fd ["board", "call"] (spCall CB CA CC) := by
  refine F.ok sc_answer_call (fun vs H Q E h => ?_) (fun cdv A outer s H vs Q E hr h => ?_)
  · obtain ⟨b, t, st, L, ls, as, c, kc, e, rfl, _⟩ := h
    rfl
  · obtain ⟨b, t, st, L, ls, as, c, kc, e, rfl, ST, CL, mean, fp, k⟩ := h
    have nd := sc_answer_call.nd
    refine ⟨_, pss_cons (ps_if (pt_cmpR op_eq (pe_fld (pv 1) rfl) (pe_intC h0) (nomark _)) (pss_one (ps_ret (pe_own OB (hr.mono (by decide)) (pa_cons (pv 0) (pa_cons (pe_ix ix_list (pe_fld (pv 1) rfl) pe_int (fun _ _ => rfl)) (pa_cons (pe_ix ix_list (pe_fld (pv 1) rfl) pe_int (fun _ _ => rfl)) pa_nil)))))) pss_nil)
      (pss_cons (ps_if (pt_not (pt_val (pe_own OG (hr.mono (by decide)) (pa_cons (pv 0) pa_nil)))) (pss_one (ps_ret (pe_lst (pa_cons (pe_intC hNB) pa_nil)))) pss_nil)
      (pss_cons (ps_if (pt_cmpR op_le (pe_fld (pv 1) rfl) (pe_intC h6) (nomark _)) (pss_one (ps_ret (pe_own O1 (hr.mono (by decide)) (pa_cons (pv 0) (pa_cons (pv 1) pa_nil))))) pss_nil)
      (pss_cons (ps_if (pt_cmpR op_in_seq (pe_fld (pv 1) rfl) (pe_tup (pa_cons (pe_intC h9) (pa_cons (pe_intC h10) (pa_cons (pe_intC h12) pa_nil)))) (by rfl)) (pss_one (ps_ret (pe_own O2 (hr.mono (by decide)) (pa_cons (pv 0) (pa_cons (pv 1) pa_nil))))) pss_nil)
      (pss_cons (ps_if (pt_cmpR op_le (pe_fld (pv 1) rfl) (pe_intC h15) (nomark _)) (pss_one (ps_ret (pe_own O3 (hr.mono (by decide)) (pa_cons (pv 0) (pa_cons (pv 1) pa_nil))))) pss_nil)
      (pss_one (ps_ret (pe_own O4 hr (pa_cons (pv 0) (pa_cons (pv 1) pa_nil))))))))), ?_⟩
    obtain ⟨⟨dx, c1⟩, c2, c3⟩ := id CL
    rcases mean.rest with ⟨n, v, rfl, rfl⟩ | ⟨lo, hi, hst⟩
    · refine if_num T rfl c1 rfl ?_
      exact ⟨_, rfl, _, rfl, t.1, CC, dx, _, _, rfl, c1, T.clC, T.nGiven, cF_given _ _ _ _, t.2.1, _, _, _, rfl, rfl, SqL.of c2, given_at (j := 0) rfl, _, rfl, t.1, CC, dx, _, _, rfl, c1, T.clC, T.nGiven, cF_given _ _ _ _, t.2.1, _, _, _, rfl, rfl, SqL.of c2, given_at (j := 1) rfl, b, st, L, ls, as, n, v, rfl, ST, k⟩
    · refine if_not T rfl c1 (by omega) ?_
      cases st with
      | none =>
        obtain ⟨hb, hL, rfl, rfl⟩ := id ST
        refine ⟨_, rfl, b, 0, 0, L, rfl, hb, _, rfl, ?_⟩
        refine ifT (by decide) ?_
        refine ⟨(by show 1 ≤ sizeLine; decide), fun r hr0 => ?_⟩
        refine k _ r L [] [] ?_ (Frame.same (same_new hr0) _) hr0 ?_
        · rw [hst]
          have s1 : Same H (upd H r (.lst [V.int (-11)])) := same_new hr0
          obtain ⟨db, hb1⟩ := hb
          exact ⟨⟨db, s1 _ _ hb1⟩, s1 _ _ hL, rfl, rfl⟩
        · rw [hst]
          exact upd_same
      | some wd =>
        have B : BoardAt CB CA H b wd L ls as := ST
        have n2 := B.wf.n2
        refine ⟨_, rfl, b, (wd.n : Int), (wd.v : Int), L, rfl, B.b, _, rfl, ?_⟩
        refine ifF (by rw [decide_eq_true (show (0 : Int) < (wd.n : Int) by omega)]; rfl) ?_
        refine ⟨_, rfl, t.1, CC, dx, _, _, rfl, c1, T.clC, T.nNumber, cF_number _ _ _ _, _, _, rfl, rfl, _, rfl, ?_⟩
        by_cases h6' : c.p ≤ 6
        · refine ifT (decide_eq_true h6') ?_
          exact ⟨_, rfl, _, rfl, b, t, wd, L, ls, as, c, kc, e, rfl, B, CL, mean, lo, h6', k⟩
        · refine ifF (decide_eq_false h6') ?_
          refine ⟨_, rfl, t.1, CC, dx, _, _, rfl, c1, T.clC, T.nNumber, cF_number _ _ _ _, (by show 3 ≤ sizeLine; decide), fun tt htt => ?_⟩
          have s1 : Same H (upd H tt (.tup [V.int 9, V.int 10, V.int 12])) := same_new htt
          refine ⟨tt, _, rfl, .inr (SqT.of upd_same), rfl, rfl, _, rfl, ?_⟩
          have ein : inV (V.int c.p) [V.int 9, V.int 10, V.int 12] = decide (c.p = 9 ∨ c.p = 10 ∨ c.p = 12) := by
            show ((9 : Int) == c.p || ((10 : Int) == c.p || ((12 : Int) == c.p || false))) = _
            by_cases a1 : c.p = 9
            · rw [a1]; rfl
            · by_cases a2 : c.p = 10
              · rw [a2]; rfl
              · by_cases a3 : c.p = 12
                · rw [a3]; rfl
                · rw [decide_eq_false (by omega), beq_false_of_ne (fun q => a1 q.symm), beq_false_of_ne (fun q => a2 q.symm), beq_false_of_ne (fun q => a3 q.symm)]
                  rfl
          by_cases hin : c.p = 9 ∨ c.p = 10 ∨ c.p = 12
          · refine ifT (ein.trans (decide_eq_true hin)) ?_
            exact ⟨_, rfl, _, rfl, b, t, wd, L, ls, as, c, kc, e, rfl, B.same s1, CL.same s1, mean, hin, k.on s1⟩
          · refine ifF (ein.trans (decide_eq_false hin)) ?_
            refine ⟨_, rfl, t.1, CC, dx, _, _, rfl, s1 _ _ c1, T.clC, T.nNumber, cF_number _ _ _ _, _, _, rfl, rfl, _, rfl, ?_⟩
            by_cases h15' : c.p ≤ 15
            · refine ifT (decide_eq_true h15') ?_
              exact ⟨_, rfl, _, rfl, b, t, wd, L, ls, as, c, kc, e, rfl, B.same s1, CL.same s1, mean, by omega, k.on s1⟩
            · refine ifF (decide_eq_false h15') ?_
              exact ⟨_, rfl, _, rfl, b, t, wd, L, ls, as, c, kc, e, rfl, B.same s1, CL.same s1, mean, by omega, k.on s1⟩
end
end Sel

set_option maxRecDepth 100000
set_option maxHeartbeats 2000000
/-! All defs together. Made by a program. -/
namespace Sel
open PySem PySem.Spec PyProof.Rows L2
structure Facts (K : PySem.W.Frag) (mg : Str → Option Value) (CB CA CO CC CI CH : Addr) : Prop where
  cls_Act : ClsOf K mg "Act" "Act.__init__" s_Act_init CA
  n_Act_pays : NoAttr K CA "pays"
  n_Act_weights : NoAttr K CA "weights"
  n_Act_into : NoAttr K CA "into"
  n_Act_locks : NoAttr K CA "locks"
  cls_Board : ClsOf K mg "Board" "Board.__init__" s_Board_init CB
  n_Board_places : NoAttr K CB "places"
  n_Board_selves : NoAttr K CB "selves"
  n_Board_acts : NoAttr K CB "acts"
  cls_Outlook : ClsOf K mg "Outlook" "Outlook.__init__" s_Outlook_init CO
  n_Outlook_scale : NoAttr K CO "scale"
  n_Outlook_worths : NoAttr K CO "worths"
  cls_Ideals : ClsOf K mg "Ideals" "Ideals.__init__" s_Ideals_init CI
  n_Ideals_scale : NoAttr K CI "scale"
  n_Ideals_amounts : NoAttr K CI "amounts"
  cls_Chances : ClsOf K mg "Chances" "Chances.__init__" s_Chances_init CH
  n_Chances_scale : NoAttr K CH "scale"
  n_Chances_parts : NoAttr K CH "parts"
  cls_Call : ClsOf K mg "Call" "Call.__init__" s_Call_init CC
  n_Call_number : NoAttr K CC "number"
  n_Call_given : NoAttr K CC "given"
  n_Call_row : NoAttr K CC "row"
  n_Call_end : NoAttr K CC "end"
  F_is_begun : FunOf K mg "is_begun" s_is_begun
  F_has_place : FunOf K mg "has_place" s_has_place
  F_has_self : FunOf K mg "has_self" s_has_self
  F_has_act : FunOf K mg "has_act" s_has_act
  F_has_stand : FunOf K mg "has_stand" s_has_stand
  F_copy_of_act : FunOf K mg "copy_of_act" s_copy_of_act
  F_copies_of_acts : FunOf K mg "copies_of_acts" s_copies_of_acts
  F_copy_of_board : FunOf K mg "copy_of_board" s_copy_of_board
  F_are_steps : FunOf K mg "are_steps" s_are_steps
  F_refusal_of_stand : FunOf K mg "refusal_of_stand" s_refusal_of_stand
  F_refusal_of_self : FunOf K mg "refusal_of_self" s_refusal_of_self
  F_common_divisor : FunOf K mg "common_divisor" s_common_divisor
  F_lowest_terms : FunOf K mg "lowest_terms" s_lowest_terms
  F_all_lowest_terms : FunOf K mg "all_lowest_terms" s_all_lowest_terms
  F_all_stands : FunOf K mg "all_stands" s_all_stands
  F_self_behind : FunOf K mg "self_behind" s_self_behind
  F_lock_behind : FunOf K mg "lock_behind" s_lock_behind
  F_stands_behind : FunOf K mg "stands_behind" s_stands_behind
  F_brought_by : FunOf K mg "brought_by" s_brought_by
  F_brought_for_itself : FunOf K mg "brought_for_itself" s_brought_for_itself
  F_first_best : FunOf K mg "first_best" s_first_best
  F_all_bests : FunOf K mg "all_bests" s_all_bests
  F_act_done : FunOf K mg "act_done" s_act_done
  F_worths_at : FunOf K mg "worths_at" s_worths_at
  F_no_steps_left : FunOf K mg "no_steps_left" s_no_steps_left
  F_one_step_more : FunOf K mg "one_step_more" s_one_step_more
  F_outlooks_up_to : FunOf K mg "outlooks_up_to" s_outlooks_up_to
  F_outlook_with : FunOf K mg "outlook_with" s_outlook_with
  F_ideally_brought : FunOf K mg "ideally_brought" s_ideally_brought
  F_most_brought : FunOf K mg "most_brought" s_most_brought
  F_ideals_with : FunOf K mg "ideals_with" s_ideals_with
  F_answer_does : FunOf K mg "answer_does" s_answer_does
  F_answer_bests : FunOf K mg "answer_bests" s_answer_bests
  F_answer_worth : FunOf K mg "answer_worth" s_answer_worth
  F_answer_brings : FunOf K mg "answer_brings" s_answer_brings
  F_answer_lights : FunOf K mg "answer_lights" s_answer_lights
  F_answer_ideal : FunOf K mg "answer_ideal" s_answer_ideal
  F_answer_short : FunOf K mg "answer_short" s_answer_short
  F_answer_begin : FunOf K mg "answer_begin" s_answer_begin
  F_are_pays : FunOf K mg "are_pays" s_are_pays
  F_are_weights : FunOf K mg "are_weights" s_are_weights
  F_answer_act : FunOf K mg "answer_act" s_answer_act
  F_answer_unact : FunOf K mg "answer_unact" s_answer_unact
  F_answer_turn : FunOf K mg "answer_turn" s_answer_turn
  F_answer_lock : FunOf K mg "answer_lock" s_answer_lock
  F_answer_actis : FunOf K mg "answer_actis" s_answer_actis
  F_answer_acts : FunOf K mg "answer_acts" s_answer_acts
  F_none_likely : FunOf K mg "none_likely" s_none_likely
  F_surely_at : FunOf K mg "surely_at" s_surely_at
  F_ways_from : FunOf K mg "ways_from" s_ways_from
  F_one_step_on : FunOf K mg "one_step_on" s_one_step_on
  F_chances_behind : FunOf K mg "chances_behind" s_chances_behind
  F_turning_places : FunOf K mg "turning_places" s_turning_places
  F_answer_after : FunOf K mg "answer_after" s_answer_after
  F_answer_selves : FunOf K mg "answer_selves" s_answer_selves
  F_answer_turns : FunOf K mg "answer_turns" s_answer_turns
  F_answer_never : FunOf K mg "answer_never" s_answer_never
  F_read_call : FunOf K mg "read_call" s_read_call
  F_split_calls : FunOf K mg "split_calls" s_split_calls
  F_own_worth : FunOf K mg "own_worth" s_own_worth
  F_answer_ifturn : FunOf K mg "answer_ifturn" s_answer_ifturn
  F_is_one_pay : FunOf K mg "is_one_pay" s_is_one_pay
  F_answer_ifpay : FunOf K mg "answer_ifpay" s_answer_ifpay
  F_answer_about_acts : FunOf K mg "answer_about_acts" s_answer_about_acts
  F_answer_by_lights : FunOf K mg "answer_by_lights" s_answer_by_lights
  F_answer_about_stands : FunOf K mg "answer_about_stands" s_answer_about_stands
  F_answer_about_turning : FunOf K mg "answer_about_turning" s_answer_about_turning
  F_answer_call : FunOf K mg "answer_call" s_answer_call
  F_answers : FunOf K mg "answers" s_answers
  c_NO_SUCH : IntC mg "NO_SUCH" (-2)
  c_NOT_BEGUN : IntC mg "NOT_BEGUN" (-11)
  c_OUT_OF_RANGE : IntC mg "OUT_OF_RANGE" (-22)
  c_TOO_MANY_ACTS : IntC mg "TOO_MANY_ACTS" (-28)
  c_NO_ACTS : IntC mg "NO_ACTS" (-33)
  c_MOST_STEPS : IntC mg "MOST_STEPS" (4)
  c_PARTS : IntC mg "PARTS" (144403552893600)
  c_MOST_ACTS : IntC mg "MOST_ACTS" (3)
  c_BEGIN : IntC mg "BEGIN" (0)
  c_ACT : IntC mg "ACT" (1)
  c_UNACT : IntC mg "UNACT" (2)
  c_TURN : IntC mg "TURN" (3)
  c_LOCK : IntC mg "LOCK" (4)
  c_ACTIS : IntC mg "ACTIS" (5)
  c_ACTS : IntC mg "ACTS" (6)
  c_DOES : IntC mg "DOES" (7)
  c_BESTS : IntC mg "BESTS" (8)
  c_WORTH : IntC mg "WORTH" (9)
  c_BRINGS : IntC mg "BRINGS" (10)
  c_LIGHTS : IntC mg "LIGHTS" (11)
  c_IDEAL : IntC mg "IDEAL" (12)
  c_SHORT : IntC mg "SHORT" (13)
  c_AFTER : IntC mg "AFTER" (14)
  c_SELVES : IntC mg "SELVES" (15)
  c_TURNS : IntC mg "TURNS" (16)
  c_NEVER : IntC mg "NEVER" (17)
  c_IFTURN : IntC mg "IFTURN" (18)
  c_IFPAY : IntC mg "IFPAY" (19)
  t_HOW_MANY : TupC K mg "HOW_MANY" howMany
  b_abs : mg "abs" = none
  b_all : mg "all" = none
  b_enumerate : mg "enumerate" = none
  b_len : mg "len" = none
  b_list : mg "list" = none
  b_max : mg "max" = none
  b_range : mg "range" = none
  b_reversed : mg "reversed" = none
  b_sum : mg "sum" = none
theorem all {P : Program} {w : PySem.World} {K : PySem.W.Frag} {mg : Str → Option Value} {base : Heap} {CB CA CO CC CI CH : Addr} (A : Facts K mg CB CA CO CC CI CH) {f : Addr} {fd : FuncData} (F : Fun K "answers" "answers" s_answers f fd) : FnOk P w K mg base CX0 14 f fd ["calls"] (spAnswers K) := by
  have T : Txt K CB CA CO CC := ⟨A.cls_Board.cl, A.n_Board_places, A.n_Board_selves, A.n_Board_acts, A.cls_Act.cl, A.n_Act_pays, A.n_Act_weights, A.n_Act_into, A.n_Act_locks, A.cls_Outlook.cl, A.n_Outlook_scale, A.n_Outlook_worths, A.cls_Call.cl, A.n_Call_number, A.n_Call_given, A.n_Call_row, A.n_Call_end⟩
  have TI : TxtI K CI := ⟨A.cls_Ideals.cl, A.n_Ideals_scale, A.n_Ideals_amounts⟩
  have TH : TxtH K CH := ⟨A.cls_Chances.cl, A.n_Chances_scale, A.n_Chances_parts⟩
  have O_is_begun : Own P w K mg base "is_begun" 1 ["board"] (spBegun CB) := A.F_is_begun.own (fun _ _ _ _ _ _ us hu => match us, hu with | [_], _ => rfl) (fun f fd F => ok_is_begun F T)
  have O_has_place : Own P w K mg base "has_place" 1 ["board", "place"] (spHasPlace CB) := A.F_has_place.own (fun _ _ _ _ _ _ us hu => match us, hu with | [_, _], _ => rfl) (fun f fd F => ok_has_place F T)
  have O_has_self : Own P w K mg base "has_self" 1 ["board", "who"] (spHasSelf CB) := A.F_has_self.own (fun _ _ _ _ _ _ us hu => match us, hu with | [_, _], _ => rfl) (fun f fd F => ok_has_self F T)
  have O_are_steps : Own P w K mg base "are_steps" 1 ["steps", "least_steps"] spSteps := A.F_are_steps.own (fun _ _ _ _ _ _ us hu => match us, hu with | [_, _], _ => rfl) (fun f fd F => ok_are_steps F A.c_MOST_STEPS)
  have O_common_divisor : Own P w K mg base "common_divisor" 1 ["first", "second"] spGcd := A.F_common_divisor.own (fun _ _ _ _ _ _ us hu => match us, hu with | [_, _], _ => rfl) (fun f fd F => ok_common_divisor F)
  have O_all_stands : Own P w K mg base "all_stands" 1 ["board"] (spStands CB) := A.F_all_stands.own (fun _ _ _ _ _ _ us hu => match us, hu with | [_], _ => rfl) (fun f fd F => ok_all_stands F T A.b_range)
  have O_self_behind : Own P w K mg base "self_behind" 1 ["act", "who", "locked"] (spSelfB CA) := A.F_self_behind.own (fun _ _ _ _ _ _ us hu => match us, hu with | [_, _, _], _ => rfl) (fun f fd F => ok_self_behind F T)
  have O_lock_behind : Own P w K mg base "lock_behind" 1 ["act", "locked"] (spLockB CA) := A.F_lock_behind.own (fun _ _ _ _ _ _ us hu => match us, hu with | [_, _], _ => rfl) (fun f fd F => ok_lock_behind F T A.b_max)
  have O_first_best : Own P w K mg base "first_best" 1 ["amounts"] (spFirst K) := A.F_first_best.own (fun _ _ _ _ _ _ us hu => match us, hu with | [_], _ => rfl) (fun f fd F => ok_first_best F A.b_max)
  have O_all_bests : Own P w K mg base "all_bests" 1 ["amounts"] (spAllBests K) := A.F_all_bests.own (fun _ _ _ _ _ _ us hu => match us, hu with | [_], _ => rfl) (fun f fd F => ok_all_bests F A.b_max A.b_enumerate)
  have O_ideally_brought : Own P w K mg base "ideally_brought" 1 ["act", "light", "later"] (spIdealB CA CI) := A.F_ideally_brought.own (fun _ _ _ _ _ _ us hu => match us, hu with | [_, _, _], _ => rfl) (fun f fd F => ok_ideally_brought F T TI A.b_sum A.b_enumerate A.c_PARTS)
  have O_answer_begin : Own P w K mg base "answer_begin" 1 ["board", "places", "selves"] (spBegin CB CA) := A.F_answer_begin.own (fun _ _ _ _ _ _ us hu => match us, hu with | [_, _, _], _ => rfl) (fun f fd F => ok_answer_begin F T A.b_range A.c_OUT_OF_RANGE)
  have O_are_pays : Own P w K mg base "are_pays" 1 ["pays"] (spPays K) := A.F_are_pays.own (fun _ _ _ _ _ _ us hu => match us, hu with | [_], _ => rfl) (fun f fd F => ok_are_pays F A.b_all)
  have O_are_weights : Own P w K mg base "are_weights" 1 ["weights"] (spWeights K) := A.F_are_weights.own (fun _ _ _ _ _ _ us hu => match us, hu with | [_], _ => rfl) (fun f fd F => ok_are_weights F A.b_all A.b_sum)
  have OC_Act : OwnC P w K mg base "Act" CA 1 ["self", "pays", "weights"] (spActInit CA) := A.cls_Act.own (fun _ _ _ _ _ _ us hu => match us, hu with | [_, _, _], _ => rfl) (fun f fd F => ok_Act_init F T)
  have OC_Board : OwnC P w K mg base "Board" CB 1 ["self"] (spBoardInit CB) := A.cls_Board.own (fun _ _ _ _ _ _ us hu => match us, hu with | [_], _ => rfl) (fun f fd F => ok_Board_init F T)
  have OC_Outlook : OwnC P w K mg base "Outlook" CO 1 ["self", "scale", "worths"] (spOutInit CO) := A.cls_Outlook.own (fun _ _ _ _ _ _ us hu => match us, hu with | [_, _, _], _ => rfl) (fun f fd F => ok_Outlook_init F T)
  have OC_Ideals : OwnC P w K mg base "Ideals" CI 1 ["self", "scale", "amounts"] (spIdlInit CI) := A.cls_Ideals.own (fun _ _ _ _ _ _ us hu => match us, hu with | [_, _, _], _ => rfl) (fun f fd F => ok_Ideals_init F TI)
  have OC_Chances : OwnC P w K mg base "Chances" CH 1 ["self", "scale", "parts"] (spChInit CH) := A.cls_Chances.own (fun _ _ _ _ _ _ us hu => match us, hu with | [_, _, _], _ => rfl) (fun f fd F => ok_Chances_init F TH)
  have OC_Call : OwnC P w K mg base "Call" CC 1 ["self", "number", "given", "row", "end"] (spCallInit CC) := A.cls_Call.own (fun _ _ _ _ _ _ us hu => match us, hu with | [_, _, _, _, _], _ => rfl) (fun f fd F => ok_Call_init F T)
  have O_has_act : Own P w K mg base "has_act" 2 ["board", "place", "number"] (spHasAct CB CA) := A.F_has_act.own (fun _ _ _ _ _ _ us hu => match us, hu with | [_, _, _], _ => rfl) (fun f fd F => ok_has_act F T A.b_len O_has_place)
  have O_has_stand : Own P w K mg base "has_stand" 2 ["board", "stand"] (spHasStand CB) := A.F_has_stand.own (fun _ _ _ _ _ _ us hu => match us, hu with | [_, _], _ => rfl) (fun f fd F => ok_has_stand F O_has_place O_has_self)
  have O_copy_of_act : Own P w K mg base "copy_of_act" 3 ["act"] (spCopyAct CA) := A.F_copy_of_act.own (fun _ _ _ _ _ _ us hu => match us, hu with | [_], _ => rfl) (fun f fd F => ok_copy_of_act F T A.b_list OC_Act)
  have O_refusal_of_self : Own P w K mg base "refusal_of_self" 2 ["board", "who", "steps", "least_steps"] (spRefuseS CB) := A.F_refusal_of_self.own (fun _ _ _ _ _ _ us hu => match us, hu with | [_, _, _, _], _ => rfl) (fun f fd F => ok_refusal_of_self F A.c_NO_SUCH A.c_OUT_OF_RANGE O_has_self O_are_steps)
  have O_lowest_terms : Own P w K mg base "lowest_terms" 2 ["top", "bottom"] spLow := A.F_lowest_terms.own (fun _ _ _ _ _ _ us hu => match us, hu with | [_, _], _ => rfl) (fun f fd F => ok_lowest_terms F A.b_abs O_common_divisor)
  have O_stands_behind : Own P w K mg base "stands_behind" 2 ["act", "stand"] (spBehind CA) := A.F_stands_behind.own (fun _ _ _ _ _ _ us hu => match us, hu with | [_, _], _ => rfl) (fun f fd F => ok_stands_behind F T A.b_sum A.b_enumerate A.c_PARTS O_self_behind O_lock_behind)
  have O_no_steps_left : Own P w K mg base "no_steps_left" 3 ["board"] (spNoSteps CB CA CO) := A.F_no_steps_left.own (fun _ _ _ _ _ _ us hu => match us, hu with | [_], _ => rfl) (fun f fd F => ok_no_steps_left F T O_all_stands OC_Outlook)
  have O_most_brought : Own P w K mg base "most_brought" 2 ["acts", "light", "later"] (spMost CA CI) := A.F_most_brought.own (fun _ _ _ _ _ _ us hu => match us, hu with | [_, _, _], _ => rfl) (fun f fd F => ok_most_brought F A.b_max O_ideally_brought)
  have O_answer_act : Own P w K mg base "answer_act" 3 ["board", "place", "row"] (spAct K CB CA) := A.F_answer_act.own (fun _ _ _ _ _ _ us hu => match us, hu with | [_, _, _], _ => rfl) (fun f fd F => ok_answer_act F T A.b_len A.c_NO_SUCH A.c_OUT_OF_RANGE A.c_TOO_MANY_ACTS A.c_MOST_ACTS O_has_place O_are_pays O_are_weights OC_Act)
  have O_answer_acts : Own P w K mg base "answer_acts" 2 ["board", "place"] (spA CB CA mkActs) := A.F_answer_acts.own (fun _ _ _ _ _ _ us hu => match us, hu with | [_, _], _ => rfl) (fun f fd F => ok_answer_acts F T A.b_len A.c_NO_SUCH O_has_place)
  have O_none_likely : Own P w K mg base "none_likely" 2 ["board"] (spNone CB) := A.F_none_likely.own (fun _ _ _ _ _ _ us hu => match us, hu with | [_], _ => rfl) (fun f fd F => ok_none_likely F O_all_stands)
  have O_read_call : Own P w K mg base "read_call" 3 ["calls", "start"] (spRead K CC) := A.F_read_call.own (fun _ _ _ _ _ _ us hu => match us, hu with | [_, _], _ => rfl) (fun f fd F => ok_read_call F A.t_HOW_MANY A.c_ACT A.c_IFPAY OC_Call)
  have O_is_one_pay : Own P w K mg base "is_one_pay" 2 ["row"] (spOnePay K) := A.F_is_one_pay.own (fun _ _ _ _ _ _ us hu => match us, hu with | [_], _ => rfl) (fun f fd F => ok_is_one_pay F A.b_len O_are_pays)
  have O_copies_of_acts : Own P w K mg base "copies_of_acts" 4 ["acts"] (spCopies CA) := A.F_copies_of_acts.own (fun _ _ _ _ _ _ us hu => match us, hu with | [_], _ => rfl) (fun f fd F => ok_copies_of_acts F O_copy_of_act)
  have O_refusal_of_stand : Own P w K mg base "refusal_of_stand" 3 ["board", "stand", "steps", "least_steps"] (spRefuse CB) := A.F_refusal_of_stand.own (fun _ _ _ _ _ _ us hu => match us, hu with | [_, _, _, _], _ => rfl) (fun f fd F => ok_refusal_of_stand F A.c_NO_SUCH A.c_OUT_OF_RANGE O_has_stand O_are_steps)
  have O_all_lowest_terms : Own P w K mg base "all_lowest_terms" 3 ["tops", "bottom"] (spLows K) := A.F_all_lowest_terms.own (fun _ _ _ _ _ _ us hu => match us, hu with | [_, _], _ => rfl) (fun f fd F => ok_all_lowest_terms F A.b_len O_lowest_terms)
  have O_brought_by : Own P w K mg base "brought_by" 3 ["act", "stand", "light", "later"] (spBrought CA CO) := A.F_brought_by.own (fun _ _ _ _ _ _ us hu => match us, hu with | [_, _, _, _], _ => rfl) (fun f fd F => ok_brought_by F T A.c_PARTS O_stands_behind)
  have O_ideals_with : Own P w K mg base "ideals_with" 3 ["board", "light", "steps"] (spIdeals CB CA CI) := A.F_ideals_with.own (fun _ _ _ _ _ _ us hu => match us, hu with | [_, _, _], _ => rfl) (fun f fd F => ok_ideals_with F T TI A.b_range A.c_PARTS OC_Ideals O_most_brought)
  have O_answer_unact : Own P w K mg base "answer_unact" 3 ["board", "place", "number"] (spA CB CA mkUnact) := A.F_answer_unact.own (fun _ _ _ _ _ _ us hu => match us, hu with | [_, _, _], _ => rfl) (fun f fd F => ok_answer_unact F T A.b_len A.c_NO_SUCH O_has_act)
  have O_answer_turn : Own P w K mg base "answer_turn" 3 ["board", "place", "number", "into"] (spA CB CA mkTurn) := A.F_answer_turn.own (fun _ _ _ _ _ _ us hu => match us, hu with | [_, _, _, _], _ => rfl) (fun f fd F => ok_answer_turn F T A.c_NO_SUCH A.c_OUT_OF_RANGE O_has_act)
  have O_answer_lock : Own P w K mg base "answer_lock" 3 ["board", "place", "number", "locks"] (spA CB CA mkLock) := A.F_answer_lock.own (fun _ _ _ _ _ _ us hu => match us, hu with | [_, _, _, _], _ => rfl) (fun f fd F => ok_answer_lock F T A.c_NO_SUCH A.c_OUT_OF_RANGE O_has_act)
  have O_answer_actis : Own P w K mg base "answer_actis" 3 ["board", "place", "number"] (spA CB CA mkActis) := A.F_answer_actis.own (fun _ _ _ _ _ _ us hu => match us, hu with | [_, _, _], _ => rfl) (fun f fd F => ok_answer_actis F T A.c_NO_SUCH O_has_act)
  have O_surely_at : Own P w K mg base "surely_at" 3 ["board", "stand"] (spSurely CB CA CH) := A.F_surely_at.own (fun _ _ _ _ _ _ us hu => match us, hu with | [_, _], _ => rfl) (fun f fd F => ok_surely_at F O_none_likely OC_Chances)
  have O_split_calls : Own P w K mg base "split_calls" 4 ["calls"] (spSplit K CC) := A.F_split_calls.own (fun _ _ _ _ _ _ us hu => match us, hu with | [_], _ => rfl) (fun f fd F => ok_split_calls F T A.b_len O_read_call)
  have O_copy_of_board : Own P w K mg base "copy_of_board" 5 ["board"] (spCopyBoard CB CA) := A.F_copy_of_board.own (fun _ _ _ _ _ _ us hu => match us, hu with | [_], _ => rfl) (fun f fd F => ok_copy_of_board F T OC_Board O_copies_of_acts)
  have O_brought_for_itself : Own P w K mg base "brought_for_itself" 4 ["board", "stand", "later"] (spForItself CB CA CO) := A.F_brought_for_itself.own (fun _ _ _ _ _ _ us hu => match us, hu with | [_, _, _], _ => rfl) (fun f fd F => ok_brought_for_itself F T O_brought_by)
  have O_answer_ideal : Own P w K mg base "answer_ideal" 4 ["board", "light", "place", "steps"] (spIdeal CB CA) := A.F_answer_ideal.own (fun _ _ _ _ _ _ us hu => match us, hu with | [_, _, _, _], _ => rfl) (fun f fd F => ok_answer_ideal F TI A.c_NO_SUCH O_has_place O_refusal_of_self O_lowest_terms O_ideals_with)
  have O_answer_about_acts : Own P w K mg base "answer_about_acts" 4 ["board", "call"] (spAboutActs CB CA CC) := A.F_answer_about_acts.own (fun _ _ _ _ _ _ us hu => match us, hu with | [_, _], _ => rfl) (fun f fd F => ok_answer_about_acts F T A.c_ACT A.c_UNACT A.c_TURN A.c_LOCK A.c_ACTIS O_answer_act O_answer_unact O_answer_turn O_answer_lock O_answer_actis O_answer_acts)
  have O_act_done : Own P w K mg base "act_done" 5 ["board", "stand", "later"] (spDone CB CA CO) := A.F_act_done.own (fun _ _ _ _ _ _ us hu => match us, hu with | [_, _, _], _ => rfl) (fun f fd F => ok_act_done F T A.b_len O_brought_for_itself O_first_best)
  have O_worths_at : Own P w K mg base "worths_at" 6 ["board", "stand", "later"] (spWorths CB CA CO) := A.F_worths_at.own (fun _ _ _ _ _ _ us hu => match us, hu with | [_, _, _], _ => rfl) (fun f fd F => ok_worths_at F T A.b_range O_act_done O_brought_by)
  have O_ways_from : Own P w K mg base "ways_from" 6 ["board", "stand", "later"] (spWays CB CA CO) := A.F_ways_from.own (fun _ _ _ _ _ _ us hu => match us, hu with | [_, _, _], _ => rfl) (fun f fd F => ok_ways_from F A.c_PARTS O_act_done O_stands_behind)
  have O_turning_places : Own P w K mg base "turning_places" 6 ["board", "who", "later"] (spTurning CB CA CO) := A.F_turning_places.own (fun _ _ _ _ _ _ us hu => match us, hu with | [_, _, _], _ => rfl) (fun f fd F => ok_turning_places F T A.b_range O_act_done O_self_behind)
  have O_one_step_more : Own P w K mg base "one_step_more" 7 ["board", "later"] (spOneMore CB CA CO) := A.F_one_step_more.own (fun _ _ _ _ _ _ us hu => match us, hu with | [_, _], _ => rfl) (fun f fd F => ok_one_step_more F T A.c_PARTS O_all_stands OC_Outlook O_worths_at)
  have O_one_step_on : Own P w K mg base "one_step_on" 7 ["board", "chances", "later"] (spOnce CB CA CO CH) := A.F_one_step_on.own (fun _ _ _ _ _ _ us hu => match us, hu with | [_, _, _], _ => rfl) (fun f fd F => ok_one_step_on F TH A.c_PARTS O_none_likely O_ways_from OC_Chances)
  have O_outlooks_up_to : Own P w K mg base "outlooks_up_to" 8 ["board", "steps"] (spOutlooks CB CA CO) := A.F_outlooks_up_to.own (fun _ _ _ _ _ _ us hu => match us, hu with | [_, _], _ => rfl) (fun f fd F => ok_outlooks_up_to F A.b_range O_no_steps_left O_one_step_more)
  have O_outlook_with : Own P w K mg base "outlook_with" 9 ["board", "steps"] (spOutlook CB CA CO) := A.F_outlook_with.own (fun _ _ _ _ _ _ us hu => match us, hu with | [_, _], _ => rfl) (fun f fd F => ok_outlook_with F O_outlooks_up_to)
  have O_chances_behind : Own P w K mg base "chances_behind" 9 ["board", "stand", "steps"] (spChances CB CA CH) := A.F_chances_behind.own (fun _ _ _ _ _ _ us hu => match us, hu with | [_, _, _], _ => rfl) (fun f fd F => ok_chances_behind F A.b_reversed O_outlooks_up_to O_surely_at O_one_step_on)
  have O_answer_never : Own P w K mg base "answer_never" 9 ["board", "who", "steps"] (spA CB CA mkNever) := A.F_answer_never.own (fun _ _ _ _ _ _ us hu => match us, hu with | [_, _, _], _ => rfl) (fun f fd F => ok_answer_never F A.b_len O_refusal_of_self O_turning_places O_outlooks_up_to)
  have O_answer_does : Own P w K mg base "answer_does" 10 ["board", "stand", "steps"] (spQ CB CA .does) := A.F_answer_does.own (fun _ _ _ _ _ _ us hu => match us, hu with | [_, _, _], _ => rfl) (fun f fd F => ok_answer_does F T A.b_len A.c_NO_ACTS O_refusal_of_stand O_first_best O_brought_for_itself O_outlook_with)
  have O_answer_bests : Own P w K mg base "answer_bests" 10 ["board", "stand", "steps"] (spQ CB CA .bests) := A.F_answer_bests.own (fun _ _ _ _ _ _ us hu => match us, hu with | [_, _, _], _ => rfl) (fun f fd F => ok_answer_bests F A.b_len O_refusal_of_stand O_all_bests O_brought_for_itself O_outlook_with)
  have O_answer_worth : Own P w K mg base "answer_worth" 10 ["board", "light", "stand", "steps"] (spWorth CB CA) := A.F_answer_worth.own (fun _ _ _ _ _ _ us hu => match us, hu with | [_, _, _, _], _ => rfl) (fun f fd F => ok_answer_worth F T A.c_NO_SUCH O_has_self O_refusal_of_stand O_lowest_terms O_outlook_with)
  have O_answer_brings : Own P w K mg base "answer_brings" 10 ["board", "light", "stand", "number", "steps"] (spBrings CB CA) := A.F_answer_brings.own (fun _ _ _ _ _ _ us hu => match us, hu with | [_, _, _, _, _], _ => rfl) (fun f fd F => ok_answer_brings F T A.c_NO_SUCH A.c_PARTS O_has_self O_has_act O_refusal_of_stand O_lowest_terms O_brought_by O_outlook_with)
  have O_answer_lights : Own P w K mg base "answer_lights" 10 ["board", "stand", "steps"] (spQ CB CA .lights) := A.F_answer_lights.own (fun _ _ _ _ _ _ us hu => match us, hu with | [_, _, _], _ => rfl) (fun f fd F => ok_answer_lights F T O_refusal_of_stand O_all_lowest_terms O_outlook_with)
  have O_answer_short : Own P w K mg base "answer_short" 10 ["board", "stand", "steps"] (spQ CB CA .short) := A.F_answer_short.own (fun _ _ _ _ _ _ us hu => match us, hu with | [_, _, _], _ => rfl) (fun f fd F => ok_answer_short F T TI O_refusal_of_stand O_lowest_terms O_ideals_with O_outlook_with)
  have O_answer_after : Own P w K mg base "answer_after" 10 ["board", "stand", "steps"] (spQ CB CA .after) := A.F_answer_after.own (fun _ _ _ _ _ _ us hu => match us, hu with | [_, _, _], _ => rfl) (fun f fd F => ok_answer_after F TH O_refusal_of_stand O_all_lowest_terms O_all_stands O_chances_behind)
  have O_answer_selves : Own P w K mg base "answer_selves" 10 ["board", "stand", "steps"] (spQ CB CA .selves) := A.F_answer_selves.own (fun _ _ _ _ _ _ us hu => match us, hu with | [_, _, _], _ => rfl) (fun f fd F => ok_answer_selves F T TH O_refusal_of_stand O_all_lowest_terms O_chances_behind)
  have O_answer_turns : Own P w K mg base "answer_turns" 10 ["board", "who", "steps"] (spA CB CA mkTurns) := A.F_answer_turns.own (fun _ _ _ _ _ _ us hu => match us, hu with | [_, _, _], _ => rfl) (fun f fd F => ok_answer_turns F A.b_len O_refusal_of_self O_turning_places O_outlook_with)
  have O_own_worth : Own P w K mg base "own_worth" 10 ["board", "stand", "steps"] (spOwn CB CA) := A.F_own_worth.own (fun _ _ _ _ _ _ us hu => match us, hu with | [_, _, _], _ => rfl) (fun f fd F => ok_own_worth F T O_lowest_terms O_outlook_with)
  have O_answer_ifturn : Own P w K mg base "answer_ifturn" 11 ["board", "place", "number", "into", "stand", "steps"] (spIfTurn CB CA) := A.F_answer_ifturn.own (fun _ _ _ _ _ _ us hu => match us, hu with | [_, _, _, _, _, _], _ => rfl) (fun f fd F => ok_answer_ifturn F T A.c_NO_SUCH A.c_OUT_OF_RANGE O_has_act O_has_stand O_are_steps O_copy_of_board O_own_worth)
  have O_answer_ifpay : Own P w K mg base "answer_ifpay" 11 ["board", "place", "number", "light", "stand", "steps", "row"] (spIfPay K CB CA) := A.F_answer_ifpay.own (fun _ _ _ _ _ _ us hu => match us, hu with | [_, _, _, _, _, _, _], _ => rfl) (fun f fd F => ok_answer_ifpay F T A.c_NO_SUCH A.c_OUT_OF_RANGE O_has_act O_has_self O_has_stand O_is_one_pay O_are_steps O_copy_of_board O_own_worth)
  have O_answer_by_lights : Own P w K mg base "answer_by_lights" 11 ["board", "call"] (spDisp CB CA CC fun p => p = 9 ∨ p = 10 ∨ p = 12) := A.F_answer_by_lights.own (fun _ _ _ _ _ _ us hu => match us, hu with | [_, _], _ => rfl) (fun f fd F => ok_answer_by_lights F T A.c_WORTH A.c_BRINGS O_answer_worth O_answer_brings O_answer_ideal)
  have O_answer_about_stands : Own P w K mg base "answer_about_stands" 11 ["board", "call"] (spDisp CB CA CC fun p => p = 7 ∨ p = 8 ∨ p = 11 ∨ p = 13 ∨ p = 14 ∨ p = 15) := A.F_answer_about_stands.own (fun _ _ _ _ _ _ us hu => match us, hu with | [_, _], _ => rfl) (fun f fd F => ok_answer_about_stands F T A.c_DOES A.c_BESTS A.c_LIGHTS A.c_SHORT A.c_AFTER O_answer_does O_answer_bests O_answer_lights O_answer_short O_answer_after O_answer_selves)
  have O_answer_about_turning : Own P w K mg base "answer_about_turning" 12 ["board", "call"] (spDisp CB CA CC fun p => 16 ≤ p) := A.F_answer_about_turning.own (fun _ _ _ _ _ _ us hu => match us, hu with | [_, _], _ => rfl) (fun f fd F => ok_answer_about_turning F T A.c_TURNS A.c_NEVER A.c_IFTURN O_answer_turns O_answer_never O_answer_ifturn O_answer_ifpay)
  have O_answer_call : Own P w K mg base "answer_call" 13 ["board", "call"] (spCall CB CA CC) := A.F_answer_call.own (fun _ _ _ _ _ _ us hu => match us, hu with | [_, _], _ => rfl) (fun f fd F => ok_answer_call F T A.c_BEGIN A.c_NOT_BEGUN A.c_ACTS A.c_WORTH A.c_BRINGS A.c_IDEAL A.c_SELVES O_answer_begin O_is_begun O_answer_about_acts O_answer_by_lights O_answer_about_stands O_answer_about_turning)
  exact ok_answers F A.b_len (by decide) OC_Board O_split_calls O_answer_call
end Sel

open PySem PySem.W PyProof.Rows
set_option maxRecDepth 100000 in
set_option maxHeartbeats 0 in
theorem PySem.Challenge.cw_selveshelper_s01_answers_holds : PySem.Challenge.rw_selveshelper_s01_answers.Holds := by
  w_on; k_headS; (case hw => exact ⟨[.list [.int 6, .int 0]], by decide +kernel, by decide +kernel⟩)
  k_fillS
  refine L2.walk_specK (r := PySem.Challenge.rw_selveshelper_s01_answers) (k := 14) (CX := L2.CX0) (ps := ["calls"]) (sp := Sel.spAnswers) (by decide +kernel) rfl rfl ⟨rfl, by decide, by decide⟩ (fun w h Y => PySem.W.kIn_of Y) ?F ?S (fun _ _ _ _ z => z)
  case F =>
    intro w mg fa h Y KX G hmg
    have C_Act : ∃ C, Sel.ClsOf (PySem.Challenge.cw_selveshelper_s01_answers_holds.heap_1 w.params) mg "Act" "Act.__init__" Sel.s_Act_init C ∧ L2.NoAttr (PySem.Challenge.cw_selveshelper_s01_answers_holds.heap_1 w.params) C "pays" ∧ L2.NoAttr (PySem.Challenge.cw_selveshelper_s01_answers_holds.heap_1 w.params) C "weights" ∧ L2.NoAttr (PySem.Challenge.cw_selveshelper_s01_answers_holds.heap_1 w.params) C "into" ∧ L2.NoAttr (PySem.Challenge.cw_selveshelper_s01_answers_holds.heap_1 w.params) C "locks" := by
      refine' ⟨_, Sel.clsOf_mk KX G ?aC ?a ?i ?l ?c ?k ?pg ?hd ?po ?sa ?mk ?kc, ?n0, ?n1, ?n2, ?n3⟩
      (case aC => k_is)
      (case a => k_is)
      (case i => k_is)
      (case l => k_is)
      (case c => k_is)
      (case k => k_is)
      (case pg => k_is)
      (case hd => k_is)
      (case po => k_is)
      (case sa => k_is)
      (case mk => k_is)
      (case kc => k_is)
      (case n0 => show PySem.W.findIn _ _ _ = some none; k_is)
      (case n1 => show PySem.W.findIn _ _ _ = some none; k_is)
      (case n2 => show PySem.W.findIn _ _ _ = some none; k_is)
      (case n3 => show PySem.W.findIn _ _ _ = some none; k_is)
    obtain ⟨CAct, cls_Act, n_Act_pays, n_Act_weights, n_Act_into, n_Act_locks⟩ := C_Act
    have C_Board : ∃ C, Sel.ClsOf (PySem.Challenge.cw_selveshelper_s01_answers_holds.heap_1 w.params) mg "Board" "Board.__init__" Sel.s_Board_init C ∧ L2.NoAttr (PySem.Challenge.cw_selveshelper_s01_answers_holds.heap_1 w.params) C "places" ∧ L2.NoAttr (PySem.Challenge.cw_selveshelper_s01_answers_holds.heap_1 w.params) C "selves" ∧ L2.NoAttr (PySem.Challenge.cw_selveshelper_s01_answers_holds.heap_1 w.params) C "acts" := by
      refine' ⟨_, Sel.clsOf_mk KX G ?aC ?a ?i ?l ?c ?k ?pg ?hd ?po ?sa ?mk ?kc, ?n0, ?n1, ?n2⟩
      (case aC => k_is)
      (case a => k_is)
      (case i => k_is)
      (case l => k_is)
      (case c => k_is)
      (case k => k_is)
      (case pg => k_is)
      (case hd => k_is)
      (case po => k_is)
      (case sa => k_is)
      (case mk => k_is)
      (case kc => k_is)
      (case n0 => show PySem.W.findIn _ _ _ = some none; k_is)
      (case n1 => show PySem.W.findIn _ _ _ = some none; k_is)
      (case n2 => show PySem.W.findIn _ _ _ = some none; k_is)
    obtain ⟨CBoard, cls_Board, n_Board_places, n_Board_selves, n_Board_acts⟩ := C_Board
    have C_Outlook : ∃ C, Sel.ClsOf (PySem.Challenge.cw_selveshelper_s01_answers_holds.heap_1 w.params) mg "Outlook" "Outlook.__init__" Sel.s_Outlook_init C ∧ L2.NoAttr (PySem.Challenge.cw_selveshelper_s01_answers_holds.heap_1 w.params) C "scale" ∧ L2.NoAttr (PySem.Challenge.cw_selveshelper_s01_answers_holds.heap_1 w.params) C "worths" := by
      refine' ⟨_, Sel.clsOf_mk KX G ?aC ?a ?i ?l ?c ?k ?pg ?hd ?po ?sa ?mk ?kc, ?n0, ?n1⟩
      (case aC => k_is)
      (case a => k_is)
      (case i => k_is)
      (case l => k_is)
      (case c => k_is)
      (case k => k_is)
      (case pg => k_is)
      (case hd => k_is)
      (case po => k_is)
      (case sa => k_is)
      (case mk => k_is)
      (case kc => k_is)
      (case n0 => show PySem.W.findIn _ _ _ = some none; k_is)
      (case n1 => show PySem.W.findIn _ _ _ = some none; k_is)
    obtain ⟨COutlook, cls_Outlook, n_Outlook_scale, n_Outlook_worths⟩ := C_Outlook
    have C_Ideals : ∃ C, Sel.ClsOf (PySem.Challenge.cw_selveshelper_s01_answers_holds.heap_1 w.params) mg "Ideals" "Ideals.__init__" Sel.s_Ideals_init C ∧ L2.NoAttr (PySem.Challenge.cw_selveshelper_s01_answers_holds.heap_1 w.params) C "scale" ∧ L2.NoAttr (PySem.Challenge.cw_selveshelper_s01_answers_holds.heap_1 w.params) C "amounts" := by
      refine' ⟨_, Sel.clsOf_mk KX G ?aC ?a ?i ?l ?c ?k ?pg ?hd ?po ?sa ?mk ?kc, ?n0, ?n1⟩
      (case aC => k_is)
      (case a => k_is)
      (case i => k_is)
      (case l => k_is)
      (case c => k_is)
      (case k => k_is)
      (case pg => k_is)
      (case hd => k_is)
      (case po => k_is)
      (case sa => k_is)
      (case mk => k_is)
      (case kc => k_is)
      (case n0 => show PySem.W.findIn _ _ _ = some none; k_is)
      (case n1 => show PySem.W.findIn _ _ _ = some none; k_is)
    obtain ⟨CIdeals, cls_Ideals, n_Ideals_scale, n_Ideals_amounts⟩ := C_Ideals
    have C_Chances : ∃ C, Sel.ClsOf (PySem.Challenge.cw_selveshelper_s01_answers_holds.heap_1 w.params) mg "Chances" "Chances.__init__" Sel.s_Chances_init C ∧ L2.NoAttr (PySem.Challenge.cw_selveshelper_s01_answers_holds.heap_1 w.params) C "scale" ∧ L2.NoAttr (PySem.Challenge.cw_selveshelper_s01_answers_holds.heap_1 w.params) C "parts" := by
      refine' ⟨_, Sel.clsOf_mk KX G ?aC ?a ?i ?l ?c ?k ?pg ?hd ?po ?sa ?mk ?kc, ?n0, ?n1⟩
      (case aC => k_is)
      (case a => k_is)
      (case i => k_is)
      (case l => k_is)
      (case c => k_is)
      (case k => k_is)
      (case pg => k_is)
      (case hd => k_is)
      (case po => k_is)
      (case sa => k_is)
      (case mk => k_is)
      (case kc => k_is)
      (case n0 => show PySem.W.findIn _ _ _ = some none; k_is)
      (case n1 => show PySem.W.findIn _ _ _ = some none; k_is)
    obtain ⟨CChances, cls_Chances, n_Chances_scale, n_Chances_parts⟩ := C_Chances
    have C_Call : ∃ C, Sel.ClsOf (PySem.Challenge.cw_selveshelper_s01_answers_holds.heap_1 w.params) mg "Call" "Call.__init__" Sel.s_Call_init C ∧ L2.NoAttr (PySem.Challenge.cw_selveshelper_s01_answers_holds.heap_1 w.params) C "number" ∧ L2.NoAttr (PySem.Challenge.cw_selveshelper_s01_answers_holds.heap_1 w.params) C "given" ∧ L2.NoAttr (PySem.Challenge.cw_selveshelper_s01_answers_holds.heap_1 w.params) C "row" ∧ L2.NoAttr (PySem.Challenge.cw_selveshelper_s01_answers_holds.heap_1 w.params) C "end" := by
      refine' ⟨_, Sel.clsOf_mk KX G ?aC ?a ?i ?l ?c ?k ?pg ?hd ?po ?sa ?mk ?kc, ?n0, ?n1, ?n2, ?n3⟩
      (case aC => k_is)
      (case a => k_is)
      (case i => k_is)
      (case l => k_is)
      (case c => k_is)
      (case k => k_is)
      (case pg => k_is)
      (case hd => k_is)
      (case po => k_is)
      (case sa => k_is)
      (case mk => k_is)
      (case kc => k_is)
      (case n0 => show PySem.W.findIn _ _ _ = some none; k_is)
      (case n1 => show PySem.W.findIn _ _ _ = some none; k_is)
      (case n2 => show PySem.W.findIn _ _ _ = some none; k_is)
      (case n3 => show PySem.W.findIn _ _ _ = some none; k_is)
    obtain ⟨CCall, cls_Call, n_Call_number, n_Call_given, n_Call_row, n_Call_end⟩ := C_Call
    have F_is_begun : Sel.FunOf (PySem.Challenge.cw_selveshelper_s01_answers_holds.heap_1 w.params) mg "is_begun" Sel.s_is_begun := by refine' Sel.funOf_mk KX G ?a ?l ?c ?k; (case a => k_is); (case l => k_is); (case c => k_is); (case k => k_is)
    have F_has_place : Sel.FunOf (PySem.Challenge.cw_selveshelper_s01_answers_holds.heap_1 w.params) mg "has_place" Sel.s_has_place := by refine' Sel.funOf_mk KX G ?a ?l ?c ?k; (case a => k_is); (case l => k_is); (case c => k_is); (case k => k_is)
    have F_has_self : Sel.FunOf (PySem.Challenge.cw_selveshelper_s01_answers_holds.heap_1 w.params) mg "has_self" Sel.s_has_self := by refine' Sel.funOf_mk KX G ?a ?l ?c ?k; (case a => k_is); (case l => k_is); (case c => k_is); (case k => k_is)
    have F_has_act : Sel.FunOf (PySem.Challenge.cw_selveshelper_s01_answers_holds.heap_1 w.params) mg "has_act" Sel.s_has_act := by refine' Sel.funOf_mk KX G ?a ?l ?c ?k; (case a => k_is); (case l => k_is); (case c => k_is); (case k => k_is)
    have F_has_stand : Sel.FunOf (PySem.Challenge.cw_selveshelper_s01_answers_holds.heap_1 w.params) mg "has_stand" Sel.s_has_stand := by refine' Sel.funOf_mk KX G ?a ?l ?c ?k; (case a => k_is); (case l => k_is); (case c => k_is); (case k => k_is)
    have F_copy_of_act : Sel.FunOf (PySem.Challenge.cw_selveshelper_s01_answers_holds.heap_1 w.params) mg "copy_of_act" Sel.s_copy_of_act := by refine' Sel.funOf_mk KX G ?a ?l ?c ?k; (case a => k_is); (case l => k_is); (case c => k_is); (case k => k_is)
    have F_copies_of_acts : Sel.FunOf (PySem.Challenge.cw_selveshelper_s01_answers_holds.heap_1 w.params) mg "copies_of_acts" Sel.s_copies_of_acts := by refine' Sel.funOf_mk KX G ?a ?l ?c ?k; (case a => k_is); (case l => k_is); (case c => k_is); (case k => k_is)
    have F_copy_of_board : Sel.FunOf (PySem.Challenge.cw_selveshelper_s01_answers_holds.heap_1 w.params) mg "copy_of_board" Sel.s_copy_of_board := by refine' Sel.funOf_mk KX G ?a ?l ?c ?k; (case a => k_is); (case l => k_is); (case c => k_is); (case k => k_is)
    have F_are_steps : Sel.FunOf (PySem.Challenge.cw_selveshelper_s01_answers_holds.heap_1 w.params) mg "are_steps" Sel.s_are_steps := by refine' Sel.funOf_mk KX G ?a ?l ?c ?k; (case a => k_is); (case l => k_is); (case c => k_is); (case k => k_is)
    have F_refusal_of_stand : Sel.FunOf (PySem.Challenge.cw_selveshelper_s01_answers_holds.heap_1 w.params) mg "refusal_of_stand" Sel.s_refusal_of_stand := by refine' Sel.funOf_mk KX G ?a ?l ?c ?k; (case a => k_is); (case l => k_is); (case c => k_is); (case k => k_is)
    have F_refusal_of_self : Sel.FunOf (PySem.Challenge.cw_selveshelper_s01_answers_holds.heap_1 w.params) mg "refusal_of_self" Sel.s_refusal_of_self := by refine' Sel.funOf_mk KX G ?a ?l ?c ?k; (case a => k_is); (case l => k_is); (case c => k_is); (case k => k_is)
    have F_common_divisor : Sel.FunOf (PySem.Challenge.cw_selveshelper_s01_answers_holds.heap_1 w.params) mg "common_divisor" Sel.s_common_divisor := by refine' Sel.funOf_mk KX G ?a ?l ?c ?k; (case a => k_is); (case l => k_is); (case c => k_is); (case k => k_is)
    have F_lowest_terms : Sel.FunOf (PySem.Challenge.cw_selveshelper_s01_answers_holds.heap_1 w.params) mg "lowest_terms" Sel.s_lowest_terms := by refine' Sel.funOf_mk KX G ?a ?l ?c ?k; (case a => k_is); (case l => k_is); (case c => k_is); (case k => k_is)
    have F_all_lowest_terms : Sel.FunOf (PySem.Challenge.cw_selveshelper_s01_answers_holds.heap_1 w.params) mg "all_lowest_terms" Sel.s_all_lowest_terms := by refine' Sel.funOf_mk KX G ?a ?l ?c ?k; (case a => k_is); (case l => k_is); (case c => k_is); (case k => k_is)
    have F_all_stands : Sel.FunOf (PySem.Challenge.cw_selveshelper_s01_answers_holds.heap_1 w.params) mg "all_stands" Sel.s_all_stands := by refine' Sel.funOf_mk KX G ?a ?l ?c ?k; (case a => k_is); (case l => k_is); (case c => k_is); (case k => k_is)
    have F_self_behind : Sel.FunOf (PySem.Challenge.cw_selveshelper_s01_answers_holds.heap_1 w.params) mg "self_behind" Sel.s_self_behind := by refine' Sel.funOf_mk KX G ?a ?l ?c ?k; (case a => k_is); (case l => k_is); (case c => k_is); (case k => k_is)
    have F_lock_behind : Sel.FunOf (PySem.Challenge.cw_selveshelper_s01_answers_holds.heap_1 w.params) mg "lock_behind" Sel.s_lock_behind := by refine' Sel.funOf_mk KX G ?a ?l ?c ?k; (case a => k_is); (case l => k_is); (case c => k_is); (case k => k_is)
    have F_stands_behind : Sel.FunOf (PySem.Challenge.cw_selveshelper_s01_answers_holds.heap_1 w.params) mg "stands_behind" Sel.s_stands_behind := by refine' Sel.funOf_mk KX G ?a ?l ?c ?k; (case a => k_is); (case l => k_is); (case c => k_is); (case k => k_is)
    have F_brought_by : Sel.FunOf (PySem.Challenge.cw_selveshelper_s01_answers_holds.heap_1 w.params) mg "brought_by" Sel.s_brought_by := by refine' Sel.funOf_mk KX G ?a ?l ?c ?k; (case a => k_is); (case l => k_is); (case c => k_is); (case k => k_is)
    have F_brought_for_itself : Sel.FunOf (PySem.Challenge.cw_selveshelper_s01_answers_holds.heap_1 w.params) mg "brought_for_itself" Sel.s_brought_for_itself := by refine' Sel.funOf_mk KX G ?a ?l ?c ?k; (case a => k_is); (case l => k_is); (case c => k_is); (case k => k_is)
    have F_first_best : Sel.FunOf (PySem.Challenge.cw_selveshelper_s01_answers_holds.heap_1 w.params) mg "first_best" Sel.s_first_best := by refine' Sel.funOf_mk KX G ?a ?l ?c ?k; (case a => k_is); (case l => k_is); (case c => k_is); (case k => k_is)
    have F_all_bests : Sel.FunOf (PySem.Challenge.cw_selveshelper_s01_answers_holds.heap_1 w.params) mg "all_bests" Sel.s_all_bests := by refine' Sel.funOf_mk KX G ?a ?l ?c ?k; (case a => k_is); (case l => k_is); (case c => k_is); (case k => k_is)
    have F_act_done : Sel.FunOf (PySem.Challenge.cw_selveshelper_s01_answers_holds.heap_1 w.params) mg "act_done" Sel.s_act_done := by refine' Sel.funOf_mk KX G ?a ?l ?c ?k; (case a => k_is); (case l => k_is); (case c => k_is); (case k => k_is)
    have F_worths_at : Sel.FunOf (PySem.Challenge.cw_selveshelper_s01_answers_holds.heap_1 w.params) mg "worths_at" Sel.s_worths_at := by refine' Sel.funOf_mk KX G ?a ?l ?c ?k; (case a => k_is); (case l => k_is); (case c => k_is); (case k => k_is)
    have F_no_steps_left : Sel.FunOf (PySem.Challenge.cw_selveshelper_s01_answers_holds.heap_1 w.params) mg "no_steps_left" Sel.s_no_steps_left := by refine' Sel.funOf_mk KX G ?a ?l ?c ?k; (case a => k_is); (case l => k_is); (case c => k_is); (case k => k_is)
    have F_one_step_more : Sel.FunOf (PySem.Challenge.cw_selveshelper_s01_answers_holds.heap_1 w.params) mg "one_step_more" Sel.s_one_step_more := by refine' Sel.funOf_mk KX G ?a ?l ?c ?k; (case a => k_is); (case l => k_is); (case c => k_is); (case k => k_is)
    have F_outlooks_up_to : Sel.FunOf (PySem.Challenge.cw_selveshelper_s01_answers_holds.heap_1 w.params) mg "outlooks_up_to" Sel.s_outlooks_up_to := by refine' Sel.funOf_mk KX G ?a ?l ?c ?k; (case a => k_is); (case l => k_is); (case c => k_is); (case k => k_is)
    have F_outlook_with : Sel.FunOf (PySem.Challenge.cw_selveshelper_s01_answers_holds.heap_1 w.params) mg "outlook_with" Sel.s_outlook_with := by refine' Sel.funOf_mk KX G ?a ?l ?c ?k; (case a => k_is); (case l => k_is); (case c => k_is); (case k => k_is)
    have F_ideally_brought : Sel.FunOf (PySem.Challenge.cw_selveshelper_s01_answers_holds.heap_1 w.params) mg "ideally_brought" Sel.s_ideally_brought := by refine' Sel.funOf_mk KX G ?a ?l ?c ?k; (case a => k_is); (case l => k_is); (case c => k_is); (case k => k_is)
    have F_most_brought : Sel.FunOf (PySem.Challenge.cw_selveshelper_s01_answers_holds.heap_1 w.params) mg "most_brought" Sel.s_most_brought := by refine' Sel.funOf_mk KX G ?a ?l ?c ?k; (case a => k_is); (case l => k_is); (case c => k_is); (case k => k_is)
    have F_ideals_with : Sel.FunOf (PySem.Challenge.cw_selveshelper_s01_answers_holds.heap_1 w.params) mg "ideals_with" Sel.s_ideals_with := by refine' Sel.funOf_mk KX G ?a ?l ?c ?k; (case a => k_is); (case l => k_is); (case c => k_is); (case k => k_is)
    have F_answer_does : Sel.FunOf (PySem.Challenge.cw_selveshelper_s01_answers_holds.heap_1 w.params) mg "answer_does" Sel.s_answer_does := by refine' Sel.funOf_mk KX G ?a ?l ?c ?k; (case a => k_is); (case l => k_is); (case c => k_is); (case k => k_is)
    have F_answer_bests : Sel.FunOf (PySem.Challenge.cw_selveshelper_s01_answers_holds.heap_1 w.params) mg "answer_bests" Sel.s_answer_bests := by refine' Sel.funOf_mk KX G ?a ?l ?c ?k; (case a => k_is); (case l => k_is); (case c => k_is); (case k => k_is)
    have F_answer_worth : Sel.FunOf (PySem.Challenge.cw_selveshelper_s01_answers_holds.heap_1 w.params) mg "answer_worth" Sel.s_answer_worth := by refine' Sel.funOf_mk KX G ?a ?l ?c ?k; (case a => k_is); (case l => k_is); (case c => k_is); (case k => k_is)
    have F_answer_brings : Sel.FunOf (PySem.Challenge.cw_selveshelper_s01_answers_holds.heap_1 w.params) mg "answer_brings" Sel.s_answer_brings := by refine' Sel.funOf_mk KX G ?a ?l ?c ?k; (case a => k_is); (case l => k_is); (case c => k_is); (case k => k_is)
    have F_answer_lights : Sel.FunOf (PySem.Challenge.cw_selveshelper_s01_answers_holds.heap_1 w.params) mg "answer_lights" Sel.s_answer_lights := by refine' Sel.funOf_mk KX G ?a ?l ?c ?k; (case a => k_is); (case l => k_is); (case c => k_is); (case k => k_is)
    have F_answer_ideal : Sel.FunOf (PySem.Challenge.cw_selveshelper_s01_answers_holds.heap_1 w.params) mg "answer_ideal" Sel.s_answer_ideal := by refine' Sel.funOf_mk KX G ?a ?l ?c ?k; (case a => k_is); (case l => k_is); (case c => k_is); (case k => k_is)
    have F_answer_short : Sel.FunOf (PySem.Challenge.cw_selveshelper_s01_answers_holds.heap_1 w.params) mg "answer_short" Sel.s_answer_short := by refine' Sel.funOf_mk KX G ?a ?l ?c ?k; (case a => k_is); (case l => k_is); (case c => k_is); (case k => k_is)
    have F_answer_begin : Sel.FunOf (PySem.Challenge.cw_selveshelper_s01_answers_holds.heap_1 w.params) mg "answer_begin" Sel.s_answer_begin := by refine' Sel.funOf_mk KX G ?a ?l ?c ?k; (case a => k_is); (case l => k_is); (case c => k_is); (case k => k_is)
    have F_are_pays : Sel.FunOf (PySem.Challenge.cw_selveshelper_s01_answers_holds.heap_1 w.params) mg "are_pays" Sel.s_are_pays := by refine' Sel.funOf_mk KX G ?a ?l ?c ?k; (case a => k_is); (case l => k_is); (case c => k_is); (case k => k_is)
    have F_are_weights : Sel.FunOf (PySem.Challenge.cw_selveshelper_s01_answers_holds.heap_1 w.params) mg "are_weights" Sel.s_are_weights := by refine' Sel.funOf_mk KX G ?a ?l ?c ?k; (case a => k_is); (case l => k_is); (case c => k_is); (case k => k_is)
    have F_answer_act : Sel.FunOf (PySem.Challenge.cw_selveshelper_s01_answers_holds.heap_1 w.params) mg "answer_act" Sel.s_answer_act := by refine' Sel.funOf_mk KX G ?a ?l ?c ?k; (case a => k_is); (case l => k_is); (case c => k_is); (case k => k_is)
    have F_answer_unact : Sel.FunOf (PySem.Challenge.cw_selveshelper_s01_answers_holds.heap_1 w.params) mg "answer_unact" Sel.s_answer_unact := by refine' Sel.funOf_mk KX G ?a ?l ?c ?k; (case a => k_is); (case l => k_is); (case c => k_is); (case k => k_is)
    have F_answer_turn : Sel.FunOf (PySem.Challenge.cw_selveshelper_s01_answers_holds.heap_1 w.params) mg "answer_turn" Sel.s_answer_turn := by refine' Sel.funOf_mk KX G ?a ?l ?c ?k; (case a => k_is); (case l => k_is); (case c => k_is); (case k => k_is)
    have F_answer_lock : Sel.FunOf (PySem.Challenge.cw_selveshelper_s01_answers_holds.heap_1 w.params) mg "answer_lock" Sel.s_answer_lock := by refine' Sel.funOf_mk KX G ?a ?l ?c ?k; (case a => k_is); (case l => k_is); (case c => k_is); (case k => k_is)
    have F_answer_actis : Sel.FunOf (PySem.Challenge.cw_selveshelper_s01_answers_holds.heap_1 w.params) mg "answer_actis" Sel.s_answer_actis := by refine' Sel.funOf_mk KX G ?a ?l ?c ?k; (case a => k_is); (case l => k_is); (case c => k_is); (case k => k_is)
    have F_answer_acts : Sel.FunOf (PySem.Challenge.cw_selveshelper_s01_answers_holds.heap_1 w.params) mg "answer_acts" Sel.s_answer_acts := by refine' Sel.funOf_mk KX G ?a ?l ?c ?k; (case a => k_is); (case l => k_is); (case c => k_is); (case k => k_is)
    have F_none_likely : Sel.FunOf (PySem.Challenge.cw_selveshelper_s01_answers_holds.heap_1 w.params) mg "none_likely" Sel.s_none_likely := by refine' Sel.funOf_mk KX G ?a ?l ?c ?k; (case a => k_is); (case l => k_is); (case c => k_is); (case k => k_is)
    have F_surely_at : Sel.FunOf (PySem.Challenge.cw_selveshelper_s01_answers_holds.heap_1 w.params) mg "surely_at" Sel.s_surely_at := by refine' Sel.funOf_mk KX G ?a ?l ?c ?k; (case a => k_is); (case l => k_is); (case c => k_is); (case k => k_is)
    have F_ways_from : Sel.FunOf (PySem.Challenge.cw_selveshelper_s01_answers_holds.heap_1 w.params) mg "ways_from" Sel.s_ways_from := by refine' Sel.funOf_mk KX G ?a ?l ?c ?k; (case a => k_is); (case l => k_is); (case c => k_is); (case k => k_is)
    have F_one_step_on : Sel.FunOf (PySem.Challenge.cw_selveshelper_s01_answers_holds.heap_1 w.params) mg "one_step_on" Sel.s_one_step_on := by refine' Sel.funOf_mk KX G ?a ?l ?c ?k; (case a => k_is); (case l => k_is); (case c => k_is); (case k => k_is)
    have F_chances_behind : Sel.FunOf (PySem.Challenge.cw_selveshelper_s01_answers_holds.heap_1 w.params) mg "chances_behind" Sel.s_chances_behind := by refine' Sel.funOf_mk KX G ?a ?l ?c ?k; (case a => k_is); (case l => k_is); (case c => k_is); (case k => k_is)
    have F_turning_places : Sel.FunOf (PySem.Challenge.cw_selveshelper_s01_answers_holds.heap_1 w.params) mg "turning_places" Sel.s_turning_places := by refine' Sel.funOf_mk KX G ?a ?l ?c ?k; (case a => k_is); (case l => k_is); (case c => k_is); (case k => k_is)
    have F_answer_after : Sel.FunOf (PySem.Challenge.cw_selveshelper_s01_answers_holds.heap_1 w.params) mg "answer_after" Sel.s_answer_after := by refine' Sel.funOf_mk KX G ?a ?l ?c ?k; (case a => k_is); (case l => k_is); (case c => k_is); (case k => k_is)
    have F_answer_selves : Sel.FunOf (PySem.Challenge.cw_selveshelper_s01_answers_holds.heap_1 w.params) mg "answer_selves" Sel.s_answer_selves := by refine' Sel.funOf_mk KX G ?a ?l ?c ?k; (case a => k_is); (case l => k_is); (case c => k_is); (case k => k_is)
    have F_answer_turns : Sel.FunOf (PySem.Challenge.cw_selveshelper_s01_answers_holds.heap_1 w.params) mg "answer_turns" Sel.s_answer_turns := by refine' Sel.funOf_mk KX G ?a ?l ?c ?k; (case a => k_is); (case l => k_is); (case c => k_is); (case k => k_is)
    have F_answer_never : Sel.FunOf (PySem.Challenge.cw_selveshelper_s01_answers_holds.heap_1 w.params) mg "answer_never" Sel.s_answer_never := by refine' Sel.funOf_mk KX G ?a ?l ?c ?k; (case a => k_is); (case l => k_is); (case c => k_is); (case k => k_is)
    have F_read_call : Sel.FunOf (PySem.Challenge.cw_selveshelper_s01_answers_holds.heap_1 w.params) mg "read_call" Sel.s_read_call := by refine' Sel.funOf_mk KX G ?a ?l ?c ?k; (case a => k_is); (case l => k_is); (case c => k_is); (case k => k_is)
    have F_split_calls : Sel.FunOf (PySem.Challenge.cw_selveshelper_s01_answers_holds.heap_1 w.params) mg "split_calls" Sel.s_split_calls := by refine' Sel.funOf_mk KX G ?a ?l ?c ?k; (case a => k_is); (case l => k_is); (case c => k_is); (case k => k_is)
    have F_own_worth : Sel.FunOf (PySem.Challenge.cw_selveshelper_s01_answers_holds.heap_1 w.params) mg "own_worth" Sel.s_own_worth := by refine' Sel.funOf_mk KX G ?a ?l ?c ?k; (case a => k_is); (case l => k_is); (case c => k_is); (case k => k_is)
    have F_answer_ifturn : Sel.FunOf (PySem.Challenge.cw_selveshelper_s01_answers_holds.heap_1 w.params) mg "answer_ifturn" Sel.s_answer_ifturn := by refine' Sel.funOf_mk KX G ?a ?l ?c ?k; (case a => k_is); (case l => k_is); (case c => k_is); (case k => k_is)
    have F_is_one_pay : Sel.FunOf (PySem.Challenge.cw_selveshelper_s01_answers_holds.heap_1 w.params) mg "is_one_pay" Sel.s_is_one_pay := by refine' Sel.funOf_mk KX G ?a ?l ?c ?k; (case a => k_is); (case l => k_is); (case c => k_is); (case k => k_is)
    have F_answer_ifpay : Sel.FunOf (PySem.Challenge.cw_selveshelper_s01_answers_holds.heap_1 w.params) mg "answer_ifpay" Sel.s_answer_ifpay := by refine' Sel.funOf_mk KX G ?a ?l ?c ?k; (case a => k_is); (case l => k_is); (case c => k_is); (case k => k_is)
    have F_answer_about_acts : Sel.FunOf (PySem.Challenge.cw_selveshelper_s01_answers_holds.heap_1 w.params) mg "answer_about_acts" Sel.s_answer_about_acts := by refine' Sel.funOf_mk KX G ?a ?l ?c ?k; (case a => k_is); (case l => k_is); (case c => k_is); (case k => k_is)
    have F_answer_by_lights : Sel.FunOf (PySem.Challenge.cw_selveshelper_s01_answers_holds.heap_1 w.params) mg "answer_by_lights" Sel.s_answer_by_lights := by refine' Sel.funOf_mk KX G ?a ?l ?c ?k; (case a => k_is); (case l => k_is); (case c => k_is); (case k => k_is)
    have F_answer_about_stands : Sel.FunOf (PySem.Challenge.cw_selveshelper_s01_answers_holds.heap_1 w.params) mg "answer_about_stands" Sel.s_answer_about_stands := by refine' Sel.funOf_mk KX G ?a ?l ?c ?k; (case a => k_is); (case l => k_is); (case c => k_is); (case k => k_is)
    have F_answer_about_turning : Sel.FunOf (PySem.Challenge.cw_selveshelper_s01_answers_holds.heap_1 w.params) mg "answer_about_turning" Sel.s_answer_about_turning := by refine' Sel.funOf_mk KX G ?a ?l ?c ?k; (case a => k_is); (case l => k_is); (case c => k_is); (case k => k_is)
    have F_answer_call : Sel.FunOf (PySem.Challenge.cw_selveshelper_s01_answers_holds.heap_1 w.params) mg "answer_call" Sel.s_answer_call := by refine' Sel.funOf_mk KX G ?a ?l ?c ?k; (case a => k_is); (case l => k_is); (case c => k_is); (case k => k_is)
    have F_answers : Sel.FunOf (PySem.Challenge.cw_selveshelper_s01_answers_holds.heap_1 w.params) mg "answers" Sel.s_answers := by refine' Sel.funOf_mk KX G ?a ?l ?c ?k; (case a => k_is); (case l => k_is); (case c => k_is); (case k => k_is)
    have c_NO_SUCH : Sel.IntC mg "NO_SUCH" (-2) := by refine' Sel.intC_mk KX G ?a; (case a => k_is)
    have c_NOT_BEGUN : Sel.IntC mg "NOT_BEGUN" (-11) := by refine' Sel.intC_mk KX G ?a; (case a => k_is)
    have c_OUT_OF_RANGE : Sel.IntC mg "OUT_OF_RANGE" (-22) := by refine' Sel.intC_mk KX G ?a; (case a => k_is)
    have c_TOO_MANY_ACTS : Sel.IntC mg "TOO_MANY_ACTS" (-28) := by refine' Sel.intC_mk KX G ?a; (case a => k_is)
    have c_NO_ACTS : Sel.IntC mg "NO_ACTS" (-33) := by refine' Sel.intC_mk KX G ?a; (case a => k_is)
    have c_MOST_STEPS : Sel.IntC mg "MOST_STEPS" (4) := by refine' Sel.intC_mk KX G ?a; (case a => k_is)
    have c_PARTS : Sel.IntC mg "PARTS" (144403552893600) := by refine' Sel.intC_mk KX G ?a; (case a => k_is)
    have c_MOST_ACTS : Sel.IntC mg "MOST_ACTS" (3) := by refine' Sel.intC_mk KX G ?a; (case a => k_is)
    have c_BEGIN : Sel.IntC mg "BEGIN" (0) := by refine' Sel.intC_mk KX G ?a; (case a => k_is)
    have c_ACT : Sel.IntC mg "ACT" (1) := by refine' Sel.intC_mk KX G ?a; (case a => k_is)
    have c_UNACT : Sel.IntC mg "UNACT" (2) := by refine' Sel.intC_mk KX G ?a; (case a => k_is)
    have c_TURN : Sel.IntC mg "TURN" (3) := by refine' Sel.intC_mk KX G ?a; (case a => k_is)
    have c_LOCK : Sel.IntC mg "LOCK" (4) := by refine' Sel.intC_mk KX G ?a; (case a => k_is)
    have c_ACTIS : Sel.IntC mg "ACTIS" (5) := by refine' Sel.intC_mk KX G ?a; (case a => k_is)
    have c_ACTS : Sel.IntC mg "ACTS" (6) := by refine' Sel.intC_mk KX G ?a; (case a => k_is)
    have c_DOES : Sel.IntC mg "DOES" (7) := by refine' Sel.intC_mk KX G ?a; (case a => k_is)
    have c_BESTS : Sel.IntC mg "BESTS" (8) := by refine' Sel.intC_mk KX G ?a; (case a => k_is)
    have c_WORTH : Sel.IntC mg "WORTH" (9) := by refine' Sel.intC_mk KX G ?a; (case a => k_is)
    have c_BRINGS : Sel.IntC mg "BRINGS" (10) := by refine' Sel.intC_mk KX G ?a; (case a => k_is)
    have c_LIGHTS : Sel.IntC mg "LIGHTS" (11) := by refine' Sel.intC_mk KX G ?a; (case a => k_is)
    have c_IDEAL : Sel.IntC mg "IDEAL" (12) := by refine' Sel.intC_mk KX G ?a; (case a => k_is)
    have c_SHORT : Sel.IntC mg "SHORT" (13) := by refine' Sel.intC_mk KX G ?a; (case a => k_is)
    have c_AFTER : Sel.IntC mg "AFTER" (14) := by refine' Sel.intC_mk KX G ?a; (case a => k_is)
    have c_SELVES : Sel.IntC mg "SELVES" (15) := by refine' Sel.intC_mk KX G ?a; (case a => k_is)
    have c_TURNS : Sel.IntC mg "TURNS" (16) := by refine' Sel.intC_mk KX G ?a; (case a => k_is)
    have c_NEVER : Sel.IntC mg "NEVER" (17) := by refine' Sel.intC_mk KX G ?a; (case a => k_is)
    have c_IFTURN : Sel.IntC mg "IFTURN" (18) := by refine' Sel.intC_mk KX G ?a; (case a => k_is)
    have c_IFPAY : Sel.IntC mg "IFPAY" (19) := by refine' Sel.intC_mk KX G ?a; (case a => k_is)
    have t_HOW_MANY : Sel.TupC (PySem.Challenge.cw_selveshelper_s01_answers_holds.heap_1 w.params) mg "HOW_MANY" Sel.howMany := by refine' Sel.tupC_mk KX G ?a ?l ?h1 ?h2 ?h3 ?h4; (case a => k_is); (case l => k_is); (case h1 => rfl); (case h2 => rfl); (case h3 => decide); (case h4 => exact .cons ⟨_, rfl⟩ (.cons ⟨_, rfl⟩ (.cons ⟨_, rfl⟩ (.cons ⟨_, rfl⟩ (.cons ⟨_, rfl⟩ (.cons ⟨_, rfl⟩ (.cons ⟨_, rfl⟩ (.cons ⟨_, rfl⟩ (.cons ⟨_, rfl⟩ (.cons ⟨_, rfl⟩ (.cons ⟨_, rfl⟩ (.cons ⟨_, rfl⟩ (.cons ⟨_, rfl⟩ (.cons ⟨_, rfl⟩ (.cons ⟨_, rfl⟩ (.cons ⟨_, rfl⟩ (.cons ⟨_, rfl⟩ (.cons ⟨_, rfl⟩ (.cons ⟨_, rfl⟩ (.cons ⟨_, rfl⟩ (.nil)))))))))))))))))))))
    have b_abs : mg "abs" = none := PySem.W.mg_none_of KX G (by k_is)
    have b_all : mg "all" = none := PySem.W.mg_none_of KX G (by k_is)
    have b_enumerate : mg "enumerate" = none := PySem.W.mg_none_of KX G (by k_is)
    have b_len : mg "len" = none := PySem.W.mg_none_of KX G (by k_is)
    have b_list : mg "list" = none := PySem.W.mg_none_of KX G (by k_is)
    have b_max : mg "max" = none := PySem.W.mg_none_of KX G (by k_is)
    have b_range : mg "range" = none := PySem.W.mg_none_of KX G (by k_is)
    have b_reversed : mg "reversed" = none := PySem.W.mg_none_of KX G (by k_is)
    have b_sum : mg "sum" = none := PySem.W.mg_none_of KX G (by k_is)
    have A : Sel.Facts (PySem.Challenge.cw_selveshelper_s01_answers_holds.heap_1 w.params) mg CBoard CAct COutlook CCall CIdeals CChances := ⟨cls_Act, n_Act_pays, n_Act_weights, n_Act_into, n_Act_locks, cls_Board, n_Board_places, n_Board_selves, n_Board_acts, cls_Outlook, n_Outlook_scale, n_Outlook_worths, cls_Ideals, n_Ideals_scale, n_Ideals_amounts, cls_Chances, n_Chances_scale, n_Chances_parts, cls_Call, n_Call_number, n_Call_given, n_Call_row, n_Call_end, F_is_begun, F_has_place, F_has_self, F_has_act, F_has_stand, F_copy_of_act, F_copies_of_acts, F_copy_of_board, F_are_steps, F_refusal_of_stand, F_refusal_of_self, F_common_divisor, F_lowest_terms, F_all_lowest_terms, F_all_stands, F_self_behind, F_lock_behind, F_stands_behind, F_brought_by, F_brought_for_itself, F_first_best, F_all_bests, F_act_done, F_worths_at, F_no_steps_left, F_one_step_more, F_outlooks_up_to, F_outlook_with, F_ideally_brought, F_most_brought, F_ideals_with, F_answer_does, F_answer_bests, F_answer_worth, F_answer_brings, F_answer_lights, F_answer_ideal, F_answer_short, F_answer_begin, F_are_pays, F_are_weights, F_answer_act, F_answer_unact, F_answer_turn, F_answer_lock, F_answer_actis, F_answer_acts, F_none_likely, F_surely_at, F_ways_from, F_one_step_on, F_chances_behind, F_turning_places, F_answer_after, F_answer_selves, F_answer_turns, F_answer_never, F_read_call, F_split_calls, F_own_worth, F_answer_ifturn, F_is_one_pay, F_answer_ifpay, F_answer_about_acts, F_answer_by_lights, F_answer_about_stands, F_answer_about_turning, F_answer_call, F_answers, c_NO_SUCH, c_NOT_BEGUN, c_OUT_OF_RANGE, c_TOO_MANY_ACTS, c_NO_ACTS, c_MOST_STEPS, c_PARTS, c_MOST_ACTS, c_BEGIN, c_ACT, c_UNACT, c_TURN, c_LOCK, c_ACTIS, c_ACTS, c_DOES, c_BESTS, c_WORTH, c_BRINGS, c_LIGHTS, c_IDEAL, c_SHORT, c_AFTER, c_SELVES, c_TURNS, c_NEVER, c_IFTURN, c_IFPAY, t_HOW_MANY, b_abs, b_all, b_enumerate, b_len, b_list, b_max, b_range, b_reversed, b_sum⟩
    exact Sel.finish hmg F_answers (fun base f fd F => Sel.all A F)
  case S =>
    intro K H xs a hO hwi hask hx
    cases hx with
    | cons h1 h2 =>
      cases h2
      cases h1 with
      | lst hs ha =>
        have e := L2.ints_dw a.1 _ ha
        subst e
        exact ⟨_, a.1, rfl, hs, hask, fun H' p hp => .lst (L2.SqL.of hp) (L2.dw_ints _)⟩

