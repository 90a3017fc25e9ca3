import PyProof.Rows.All
import Wide.All
import OpenK.AllK
import Wide.FinOn
import PyProof.EqAt
import PyProof.EqKinds
import PyProof.TupleCall
import KE.BitLaws
import Open.SpecLaws
import KE.OsHead
import KE.OsGo
import PyFlatLaws
import PyProof.Rows.SetFrom
import PyProof.Rows.FStr
import PyProof.WalkInts
import PySem.Challenge.RW_lightrhythms_s01_answers
section
set_option Elab.async false
namespace Lt
open Bn
/-! ### totals and colours -/
theorem total_nil : total [] = 0 := rfl
theorem total_cons (x : Phase) (l : Rhythm) : total (x :: l) = x.2 + total l := by
  simp [total]
theorem total_append (a b : Rhythm) : total (a ++ b) = total a + total b := by
  simp [total]
def Pos (r : Rhythm) : Prop := ∀ x ∈ r, 1 ≤ x.2
theorem Pos.cons {x : Phase} {l : Rhythm} (h : Pos (x :: l)) : 1 ≤ x.2 ∧ Pos l :=
  ⟨h x (by simp), fun y hy => h y (by simp [hy])⟩
theorem Pos.append {a b : Rhythm} : Pos (a ++ b) ↔ Pos a ∧ Pos b := by
  constructor
  · intro h
    exact ⟨fun x hx => h x (by simp [hx]), fun x hx => h x (by simp [hx])⟩
  · rintro ⟨h1, h2⟩ x hx
    rcases List.mem_append.mp hx with h | h
    · exact h1 x h
    · exact h2 x h
theorem total_pos {r : Rhythm} (h : Pos r) (hn : r ≠ []) : 0 < total r := by
  cases r with
  | nil => exact absurd rfl hn
  | cons x l =>
    have := (h.cons).1
    rw [total_cons]
    omega
theorem total_zero {r : Rhythm} (h : Pos r) (hz : total r = 0) : r = [] := by
  cases r with
  | nil => rfl
  | cons x l =>
    have := (h.cons).1
    rw [total_cons] at hz
    omega
theorem colourIn_cons (x : Phase) (l : Rhythm) (t : Nat) : colourIn (x :: l) t = if t < x.2 then x.1 else colourIn l (t - x.2) := rfl
theorem colourIn_append : ∀ (a b : Rhythm) (t : Nat), colourIn (a ++ b) t = if t < total a then colourIn a t else colourIn b (t - total a)
  | [], b, t => by simp [total_nil]
  | x :: a, b, t => by
    rw [List.cons_append, colourIn_cons, colourIn_cons, colourIn_append a b, total_cons]
    by_cases h : t < x.2
    · rw [if_pos h, if_pos (by omega), if_pos h]
    · rw [if_neg h, if_neg h]
      by_cases h2 : t - x.2 < total a
      · rw [if_pos h2, if_pos (by omega)]
      · rw [if_neg h2, if_neg (by omega)]
        congr 1
        omega
theorem colourAt_lt {r : Rhythm} {t : Nat} (h : t < total r) : colourAt r t = colourIn r t := by
  unfold colourAt
  rw [Nat.mod_eq_of_lt h]
theorem colourAt_mod (r : Rhythm) (t : Nat) : colourAt r (t % total r) = colourAt r t := by
  unfold colourAt
  rw [Nat.mod_mod]
theorem colourAt_total (r : Rhythm) (t : Nat) : colourAt r (t + total r) = colourAt r t := by
  unfold colourAt
  rw [Nat.add_mod_right]
theorem colourAt_mul (r : Rhythm) (t k : Nat) : colourAt r (t + k * total r) = colourAt r t := by
  unfold colourAt
  rw [Nat.add_mul_mod_self_right]
theorem colourAt_congr {r : Rhythm} {t u : Nat} (h : t % total r = u % total r) : colourAt r t = colourAt r u := by
  unfold colourAt
  rw [h]
theorem colourAt_swap (a b : Rhythm) (hp : 0 < total a + total b) (t : Nat) : colourAt (b ++ a) t = colourAt (a ++ b) (total a + t) := by
  unfold colourAt
  rw [total_append, total_append, Nat.add_comm (total b)]
  have hs : t % (total a + total b) < total a + total b := Nat.mod_lt _ hp
  have e : (total a + t) % (total a + total b) = (total a + t % (total a + total b)) % (total a + total b) := by
    rw [Nat.add_mod_mod]
  rw [e]
  generalize t % (total a + total b) = s at hs
  rw [colourIn_append, colourIn_append]
  by_cases h : s < total b
  · have e2 : (total a + s) % (total a + total b) = total a + s := Nat.mod_eq_of_lt (by omega)
    rw [e2, if_pos h, if_neg (by omega)]
    congr 1
    omega
  · have e2 : (total a + s) % (total a + total b) = s - total b := by
      rw [Nat.mod_eq_sub_mod (by omega), Nat.mod_eq_of_lt (by omega)]
      omega
    rw [e2, if_neg h, if_pos (by omega)]
theorem total_turned (r : Rhythm) (k : Nat) : total (turned r k) = total r := by
  unfold turned
  rw [total_append, Nat.add_comm, ← total_append, List.take_append_drop]
theorem colourAt_turned (r : Rhythm) (k : Nat) (hp : 0 < total r) (t : Nat) : colourAt (turned r k) t = colourAt r (total (r.take k) + t) := by
  have h : total (r.take k) + total (r.drop k) = total r := by rw [← total_append, List.take_append_drop]
  have := colourAt_swap (r.take k) (r.drop k) (by omega) t
  rw [List.take_append_drop] at this
  exact this
theorem length_turned (r : Rhythm) (k : Nat) : (turned r k).length = r.length := by
  unfold turned
  rw [List.length_append, List.length_drop, List.length_take]
  omega
theorem Pos.turned {r : Rhythm} (h : Pos r) (k : Nat) : Pos (turned r k) := by
  unfold Bn.turned
  rw [← List.take_append_drop k r, Pos.append] at h
  exact Pos.append.mpr ⟨h.2, h.1⟩
/-! ### powers -/
def pow (w : Rhythm) (m : Nat) : Rhythm := (List.replicate m w).flatten
theorem pow_zero (w : Rhythm) : pow w 0 = [] := rfl
theorem pow_succ (w : Rhythm) (m : Nat) : pow w (m + 1) = w ++ pow w m := by
  simp [pow, List.replicate_succ]
theorem pow_one (w : Rhythm) : pow w 1 = w := by simp [pow]
theorem pow_add (w : Rhythm) (a b : Nat) : pow w (a + b) = pow w a ++ pow w b := by
  induction a with
  | zero => rw [Nat.zero_add, pow_zero]; rfl
  | succ a ih => rw [Nat.succ_add, pow_succ, pow_succ, ih, List.append_assoc]
theorem pow_mul (w : Rhythm) (a : Nat) : ∀ b, pow (pow w a) b = pow w (a * b)
  | 0 => rfl
  | b + 1 => by rw [pow_succ, pow_mul w a b, Nat.mul_succ, Nat.add_comm (a * b) a, pow_add]
theorem length_pow (w : Rhythm) : ∀ m, (pow w m).length = m * w.length
  | 0 => by simp [pow]
  | m + 1 => by rw [pow_succ, List.length_append, length_pow w m, Nat.succ_mul]; omega
theorem total_pow (w : Rhythm) : ∀ m, total (pow w m) = m * total w
  | 0 => by simp [pow, total]
  | m + 1 => by rw [pow_succ, total_append, total_pow w m, Nat.succ_mul]; omega
theorem colourIn_pow (w : Rhythm) (hp : 0 < total w) : ∀ (m t : Nat), t < m * total w → colourIn (pow w m) t = colourAt w t
  | 0, t, h => by omega
  | m + 1, t, h => by
    rw [pow_succ, colourIn_append]
    by_cases h2 : t < total w
    · rw [if_pos h2, colourAt_lt h2]
    · rw [if_neg h2, colourIn_pow w hp m (t - total w) (by rw [Nat.succ_mul] at h; omega)]
      have := colourAt_total w (t - total w)
      rw [← this]
      congr 1
      omega
theorem colourAt_pow (w : Rhythm) (hp : 0 < total w) (m : Nat) (hm : 1 ≤ m) (t : Nat) : colourAt (pow w m) t = colourAt w t := by
  have h1 : 0 < m * total w := Nat.mul_pos hm hp
  show colourIn (pow w m) (t % total (pow w m)) = _
  rw [total_pow, colourIn_pow w hp m _ (Nat.mod_lt _ h1)]
  apply colourAt_congr
  exact Nat.mod_mul_left_mod t m (total w)
/-! ### neighbours of different colours -/
def Alt : Rhythm → Prop
  | [] => True
  | [_] => True
  | x :: y :: l => x.1 ≠ y.1 ∧ Alt (y :: l)
theorem Alt.tail {x : Phase} {l : Rhythm} (h : Alt (x :: l)) : Alt l := by
  cases l with
  | nil => trivial
  | cons y l => exact h.2
theorem alt_append : ∀ {a b : Rhythm}, Alt (a ++ b) ↔ Alt a ∧ Alt b ∧ ∀ x y, a.getLast? = some x → b.head? = some y → x.1 ≠ y.1
  | [], b => by simp [Alt]
  | [x], [] => by simp [Alt]
  | [x], y :: b => by
    show (x.1 ≠ y.1 ∧ Alt (y :: b)) ↔ _
    constructor
    · rintro ⟨h1, h2⟩
      refine ⟨trivial, h2, fun u v hu hv => ?_⟩
      cases hu
      cases hv
      exact h1
    · rintro ⟨_, h2, h3⟩
      exact ⟨h3 x y rfl rfl, h2⟩
  | x :: z :: a, b => by
    have ih := alt_append (a := z :: a) (b := b)
    show (x.1 ≠ z.1 ∧ Alt (z :: a ++ b)) ↔ (x.1 ≠ z.1 ∧ Alt (z :: a)) ∧ _
    rw [ih]
    have e : (x :: z :: a).getLast? = (z :: a).getLast? := by simp [List.getLast?_cons_cons]
    rw [e]
    constructor
    · rintro ⟨h1, h2, h3, h4⟩
      exact ⟨⟨h1, h2⟩, h3, h4⟩
    · rintro ⟨⟨h1, h2⟩, h3, h4⟩
      exact ⟨h1, h2, h3, h4⟩
/-- two tellings without neighbours of one colour that go alike are one -/
theorem alt_unique : ∀ {f g : Rhythm}, Alt f → Alt g → Pos f → Pos g → total f = total g → (∀ t, t < total f → colourIn f t = colourIn g t) → f = g
  | [], g, _, _, _, pg, ht, _ => (total_zero pg (by rw [← ht]; rfl)).symm
  | x :: f, [], _, _, pf, _, ht, _ => by
    exfalso
    have := total_pos pf (by simp)
    rw [ht] at this
    exact absurd this (by simp [total])
  | x :: f, y :: g, af, ag, pf, pg, ht, hc => by
    have hx := pf.cons
    have hy := pg.cons
    have e0 := hc 0 (total_pos pf (by simp))
    rw [colourIn_cons, colourIn_cons, if_pos (by omega), if_pos (by omega)] at e0
    rw [total_cons, total_cons] at ht
    have key : ∀ {x y : Phase} {f g : Rhythm}, Alt (x :: f) → Pos (x :: f) → x.1 = y.1 → x.2 + total f = y.2 + total g → (∀ t, t < x.2 + total f → colourIn (x :: f) t = colourIn (y :: g) t) → ¬ x.2 < y.2 := by
      intro x y f g af pf e0 ht hc h
      cases f with
      | nil =>
        rw [total_nil] at ht
        omega
      | cons z f =>
        have hz := (pf.cons.2).cons
        have e := hc x.2 (by rw [total_cons]; omega)
        rw [colourIn_cons, if_neg (by omega), colourIn_cons, if_pos (by omega), colourIn_cons, if_pos h] at e
        exact af.1 (e0.trans e.symm)
    have h1 := key af pf e0 ht (fun t h => hc t (by rw [total_cons]; exact h))
    have h2 := key ag pg e0.symm ht.symm (fun t h => (hc t (by rw [total_cons, ht]; exact h)).symm)
    have e2 : x.2 = y.2 := by omega
    have exy : x = y := Prod.ext e0 e2
    subst exy
    congr 1
    refine alt_unique af.tail ag.tail hx.2 hy.2 (by omega) fun t h => ?_
    have e := hc (x.2 + t) (by rw [total_cons]; omega)
    rw [colourIn_cons, colourIn_cons, if_neg (by omega), if_neg (by omega)] at e
    have e3 : x.2 + t - x.2 = t := by omega
    rw [e3] at e
    exact e
/-- where the colour changes a phase begins -/
theorem boundary : ∀ {f : Rhythm} {t : Nat}, 0 < t → t < total f → colourIn f (t - 1) ≠ colourIn f t → ∃ d, 0 < d ∧ d < f.length ∧ t = total (f.take d)
  | [], t, _, h, _ => by simp [total] at h
  | x :: f, t, h0, h, hne => by
    rw [total_cons] at h
    by_cases h1 : t < x.2
    · rw [colourIn_cons, colourIn_cons, if_pos (by omega), if_pos h1] at hne
      exact absurd rfl hne
    · by_cases h2 : t = x.2
      · refine ⟨1, by omega, ?_, ?_⟩
        · cases f with
          | nil => rw [total_nil] at h; omega
          | cons y f => simp
        · rw [List.take_succ_cons, List.take_zero, total_cons, total_nil]
          omega
      · rw [colourIn_cons, colourIn_cons, if_neg (by omega), if_neg h1] at hne
        have e : t - 1 - x.2 = t - x.2 - 1 := by omega
        rw [e] at hne
        obtain ⟨d, h3, h4, h5⟩ := boundary (f := f) (t := t - x.2) (by omega) (by omega) hne
        refine ⟨d + 1, by omega, by simp; omega, ?_⟩
        rw [List.take_succ_cons, total_cons]
        omega
/-! ### round the end too -/
/-- neighbours of different colours, round the end, too: two phases or more -/
structure Cyc (f : Rhythm) : Prop where
  two : 2 ≤ f.length
  alt : Alt f
  ends : ∀ x y, f.getLast? = some x → f.head? = some y → x.1 ≠ y.1
theorem Cyc.ne {f : Rhythm} (h : Cyc f) : f ≠ [] := by
  intro e
  have := h.two
  rw [e] at this
  simp at this
theorem Cyc.swap {a b : Rhythm} (h : Cyc (a ++ b)) : Cyc (b ++ a) := by
  refine ⟨by have := h.two; rw [List.length_append] at this ⊢; omega, ?_, ?_⟩
  · have h1 := alt_append.mp h.alt
    refine alt_append.mpr ⟨h1.2.1, h1.1, fun x y hx hy => ?_⟩
    have hb : b ≠ [] := by intro e; rw [e] at hx; simp at hx
    have ha : a ≠ [] := by intro e; rw [e] at hy; simp at hy
    refine h.ends x y ?_ ?_
    · rw [List.getLast?_append, hx]; rfl
    · cases a with
      | nil => exact absurd rfl ha
      | cons z a => simpa using hy
  · intro x y hx hy
    have h1 := alt_append.mp h.alt
    cases a with
    | nil =>
      rw [List.append_nil] at hx hy
      exact h.ends x y (by simpa using hx) (by simpa using hy)
    | cons z a =>
      cases b with
      | nil =>
        rw [List.nil_append] at hx hy
        exact h.ends x y (by simpa using hx) (by simpa using hy)
      | cons u b =>
        refine h1.2.2 x y ?_ (by simpa using hy)
        rw [List.getLast?_append] at hx
        simpa using hx
theorem Cyc.turned {f : Rhythm} (h : Cyc f) (k : Nat) : Cyc (turned f k) := by
  rw [← List.take_append_drop k f] at h
  exact h.swap
/-! ### words that go with one another -/
theorem common_pow : ∀ (n : Nat) (u v : Rhythm), u.length + v.length ≤ n → u ++ v = v ++ u → ∃ z a b, u = pow z a ∧ v = pow z b
  | 0, u, v, hn, _ => by
    have h1 : u = [] := List.eq_nil_of_length_eq_zero (by omega)
    have h2 : v = [] := List.eq_nil_of_length_eq_zero (by omega)
    exact ⟨[], 0, 0, by rw [h1]; rfl, by rw [h2]; rfl⟩
  | n + 1, u, v, hn, h => by
    by_cases hu : u = []
    · exact ⟨v, 0, 1, by rw [hu]; rfl, (pow_one v).symm⟩
    by_cases hv : v = []
    · exact ⟨u, 1, 0, (pow_one u).symm, by rw [hv]; rfl⟩
    have hul : 0 < u.length := List.length_pos_iff.mpr hu
    have hvl : 0 < v.length := List.length_pos_iff.mpr hv
    by_cases hl : u.length ≤ v.length
    · -- u is a beginning of v
      have e : v = u ++ v.drop u.length := by
        have h2 := congrArg (List.take u.length) h
        rw [List.take_left, List.take_append_of_le_length hl] at h2
        have h3 := List.take_append_drop u.length v
        rw [← h2] at h3
        exact h3.symm
      generalize hw : v.drop u.length = w at e
      subst e
      rw [List.append_assoc] at h
      have h2 := List.append_cancel_left h
      have hlen : u.length + w.length ≤ n := by
        rw [List.length_append] at hn
        omega
      obtain ⟨z, a, b, h3, h4⟩ := common_pow n u w hlen h2
      exact ⟨z, a, a + b, h3, by rw [pow_add, ← h3, ← h4]⟩
    · have e : u = v ++ u.drop v.length := by
        have h2 := congrArg (List.take v.length) h
        rw [List.take_left, List.take_append_of_le_length (by omega)] at h2
        have h3 := List.take_append_drop v.length u
        rw [h2] at h3
        exact h3.symm
      generalize hw : u.drop v.length = w at e
      subst e
      rw [List.append_assoc] at h
      have h2 := List.append_cancel_left h
      have hlen : w.length + v.length ≤ n := by
        rw [List.length_append] at hn
        omega
      obtain ⟨z, a, b, h3, h4⟩ := common_pow n w v hlen h2
      exact ⟨z, b + a, b, by rw [pow_add, ← h3, ← h4], h4⟩
/-- no row of which it is so many times -/
def Prim (f : Rhythm) : Prop := ∀ z k, f = pow z k → k = 1
theorem Prim.turn {f : Rhythm} (h : Prim f) {d : Nat} (h0 : 0 < d) (h1 : d < f.length) : turned f d ≠ f := by
  intro e
  have e2 : f.drop d ++ f.take d = f.take d ++ f.drop d := by
    rw [List.take_append_drop]
    exact e
  obtain ⟨z, a, b, ha, hb⟩ := common_pow _ _ _ (Nat.le_refl _) e2
  have hk := h z (b + a) (by rw [pow_add, ← ha, ← hb, List.take_append_drop])
  have hb0 : b ≠ 0 := by
    intro q
    rw [q, pow_zero] at hb
    have := congrArg List.length hb
    rw [List.length_take] at this
    simp only [List.length_nil] at this
    omega
  have ha0 : a ≠ 0 := by
    intro q
    rw [q, pow_zero] at ha
    have := congrArg List.length ha
    rw [List.length_drop] at this
    simp only [List.length_nil] at this
    omega
  omega
theorem pow_swap (z : Rhythm) (a b : Nat) (u v : Rhythm) (hu : u = pow z a) (hv : v = pow z b) : u ++ v = v ++ u := by
  rw [hu, hv, ← pow_add, ← pow_add, Nat.add_comm]
theorem pow_turn (x : Phase) (z : Rhythm) : ∀ k, x :: pow (z ++ [x]) k = pow (x :: z) k ++ [x]
  | 0 => rfl
  | k + 1 => by
    rw [pow_succ, pow_succ, List.append_assoc (x :: z), ← pow_turn x z k]
    simp
theorem swap_pow : ∀ (b a z : Rhythm) (k : Nat), b ++ a = pow z k → ∃ z', a ++ b = pow z' k
  | [], a, z, k, e => ⟨z, by simpa using e⟩
  | x :: b, a, z, k, e => by
    cases k with
    | zero => cases e
    | succ k =>
      cases z with
      | nil =>
        exfalso
        have e0 : pow ([] : Rhythm) (k + 1) = [] := by simp [pow]
        rw [e0] at e
        cases e
      | cons y z =>
        have exy : x = y := by
          have e2 := congrArg List.head? e
          rw [pow_succ] at e2
          simpa using e2
        subst exy
        have e3 : b ++ (a ++ [x]) = pow (z ++ [x]) (k + 1) := by
          have e4 := pow_turn x z (k + 1)
          rw [← e] at e4
          have e5 : x :: pow (z ++ [x]) (k + 1) = x :: (b ++ (a ++ [x])) := by
            rw [e4]
            simp
          exact (List.cons.inj e5).2.symm
        obtain ⟨z', h⟩ := swap_pow b (a ++ [x]) (z ++ [x]) (k + 1) e3
        exact ⟨z', by rw [← h]; simp⟩
theorem Prim.swap {a b : Rhythm} (h : Prim (a ++ b)) : Prim (b ++ a) := by
  intro z k e
  obtain ⟨z', h2⟩ := swap_pow b a z k e
  exact h z' k h2
theorem Prim.turned {f : Rhythm} (h : Prim f) (k : Nat) : Prim (turned f k) := by
  rw [← List.take_append_drop k f] at h
  exact h.swap
end Lt
end
section
set_option Elab.async false
namespace Lt
open Bn
/-! ### first and last colour -/
theorem colourIn_first {x : Phase} {l : Rhythm} (h : Pos (x :: l)) : colourIn (x :: l) 0 = x.1 := by
  rw [colourIn_cons, if_pos (by have := h.cons.1; omega)]
theorem colourIn_head {f : Rhythm} {x : Phase} (h : Pos f) (hx : f.head? = some x) : colourIn f 0 = x.1 := by
  cases f with
  | nil => cases hx
  | cons y l =>
    cases hx
    exact colourIn_first h
theorem colourIn_last {f : Rhythm} {x : Phase} (h : Pos f) (hx : f.getLast? = some x) : colourIn f (total f - 1) = x.1 := by
  obtain ⟨a, rfl⟩ := List.getLast?_eq_some_iff.mp hx
  have hx1 : 1 ≤ x.2 := h x (by simp)
  rw [colourIn_append, total_append, total_cons, total_nil, if_neg (by omega), colourIn_cons, if_pos (by omega)]
theorem head_some {f : Rhythm} (h : f ≠ []) : ∃ x, f.head? = some x := by
  cases f with
  | nil => exact absurd rfl h
  | cons y l => exact ⟨y, rfl⟩
theorem last_some {f : Rhythm} (h : f ≠ []) : ∃ x, f.getLast? = some x := ⟨f.getLast h, List.getLast?_eq_some_getLast h⟩
/-- round the end the colour changes -/
theorem Cyc.wrap {f : Rhythm} (h : Cyc f) (p : Pos f) : colourIn f (total f - 1) ≠ colourIn f 0 := by
  obtain ⟨x, hx⟩ := head_some h.ne
  obtain ⟨y, hy⟩ := last_some h.ne
  rw [colourIn_head p hx, colourIn_last p hy]
  exact h.ends y x hy hx
theorem Cyc.wrapAt {f : Rhythm} (h : Cyc f) (p : Pos f) {t : Nat} (ht : 0 < t) (hz : t % total f = 0) : colourAt f (t - 1) ≠ colourAt f t := by
  have hp := total_pos p h.ne
  have e1 : colourAt f t = colourIn f 0 := by
    unfold colourAt
    rw [hz]
  have e2 : colourAt f (t - 1) = colourIn f (total f - 1) := by
    unfold colourAt
    congr 1
    obtain ⟨q, hq⟩ := Nat.dvd_of_mod_eq_zero hz
    cases q with
    | zero => simp at hq; omega
    | succ q =>
      rw [Nat.mul_succ] at hq
      have : t - 1 = (total f - 1) + total f * q := by omega
      rw [this, Nat.add_mul_mod_self_left, Nat.mod_eq_of_lt (by omega)]
  rw [e1, e2]
  exact h.wrap p
/-- where the colour changes, a turn begins -/
theorem turn_at {f : Rhythm} (p : Pos f) (hn : f ≠ []) {t : Nat} (ht : 0 < t) (hc : colourAt f (t - 1) ≠ colourAt f t) : ∃ d, d < f.length ∧ t % total f = total (f.take d) := by
  have hp := total_pos p hn
  by_cases hz : t % total f = 0
  · exact ⟨0, List.length_pos_iff.mpr hn, by rw [hz]; rfl⟩
  · have hlt := Nat.mod_lt t hp
    have e1 : (t - 1) % total f = t % total f - 1 := by
      have := Nat.div_add_mod t (total f)
      have e : t - 1 = (t % total f - 1) + total f * (t / total f) := by omega
      rw [e, Nat.add_mul_mod_self_left, Nat.mod_eq_of_lt (by omega)]
    have hc2 : colourIn f (t % total f - 1) ≠ colourIn f (t % total f) := by
      unfold colourAt at hc
      rw [e1] at hc
      exact hc
    obtain ⟨d, _, h2, h3⟩ := boundary (by omega) hlt hc2
    exact ⟨d, h2, h3⟩
theorem add_mod_left_congr (a b x m : Nat) (h : a % m = b % m) : (a + x) % m = (b + x) % m := by
  rw [Nat.add_mod, h, ← Nat.add_mod]
/-- **No time less than the period brings all colours again.** -/
theorem period_dvd {f : Rhythm} (c : Cyc f) (p : Pos f) (pr : Prim f) {u : Nat} (h : ∀ x, colourAt f (u + x) = colourAt f x) : u % total f = 0 := by
  have hp := total_pos p c.ne
  by_cases hz : u % total f = 0
  · exact hz
  · exfalso
    have hlt := Nat.mod_lt u hp
    have h2 : ∀ x, colourAt f (u % total f + x) = colourAt f x := fun x => by
      rw [← h x]
      exact colourAt_congr (add_mod_left_congr _ _ x _ (Nat.mod_mod _ _))
    generalize u % total f = v at hz hlt h2
    have hne : colourIn f (v - 1) ≠ colourIn f v := by
      have e1 : colourIn f v = colourIn f 0 := by
        have := h2 0
        rw [Nat.add_zero, colourAt_lt hlt, colourAt_lt hp] at this
        exact this
      have e2 : colourIn f (v - 1) = colourIn f (total f - 1) := by
        have := h2 (total f - 1)
        rw [colourAt_lt (show total f - 1 < total f by omega)] at this
        rw [← this, show v + (total f - 1) = (v - 1) + total f by omega, colourAt_total, colourAt_lt (by omega)]
      rw [e1, e2]
      exact c.wrap p
    obtain ⟨d, d0, d1, e⟩ := boundary (by omega) hlt hne
    refine pr.turn d0 d1 (alt_unique (c.turned d).alt c.alt (p.turned d) p (total_turned f d) fun t ht => ?_)
    rw [total_turned] at ht
    rw [← colourAt_lt (by rw [total_turned]; exact ht), colourAt_turned f d hp, ← e, h2, colourAt_lt ht]
/-! ### turns of turns -/
theorem turned_append (a b : Rhythm) : turned (a ++ b) a.length = b ++ a := by
  unfold turned
  rw [List.drop_left, List.take_left]
theorem turned_turned (w : Rhythm) {j k : Nat} (hn : w ≠ []) (hj : j < w.length) (hk : k ≤ w.length) : ∃ i, i < w.length ∧ turned (turned w j) k = turned w i := by
  have h0 : 0 < w.length := List.length_pos_iff.mpr hn
  by_cases h : j + k < w.length
  · refine ⟨j + k, h, ?_⟩
    obtain ⟨A, B, C, rfl, hA, hB⟩ : ∃ A B C, w = A ++ (B ++ C) ∧ A.length = j ∧ B.length = k :=
      ⟨w.take j, (w.drop j).take k, (w.drop j).drop k, by rw [List.take_append_drop, List.take_append_drop], by simp; omega, by simp; omega⟩
    subst hA hB
    rw [turned_append, List.append_assoc, turned_append, ← List.append_assoc A, ← List.length_append, turned_append]
    simp
  · refine ⟨j + k - w.length, by omega, ?_⟩
    obtain ⟨A, B, C, rfl, hA, hB⟩ : ∃ A B C, w = A ++ (B ++ C) ∧ A.length = j + k - w.length ∧ A.length + B.length = j :=
      ⟨w.take (j + k - w.length), (w.drop (j + k - w.length)).take (w.length - k), (w.drop (j + k - w.length)).drop (w.length - k), by rw [List.take_append_drop, List.take_append_drop], by simp; omega, by simp; omega⟩
    have e1 : turned (A ++ (B ++ C)) j = C ++ (A ++ B) := by
      rw [← List.append_assoc, ← hB, ← List.length_append, turned_append]
    have e2 : k = (C ++ A).length := by
      simp only [List.length_append] at hA hj h ⊢
      omega
    rw [e1, ← hA, turned_append, ← List.append_assoc, e2, turned_append, List.append_assoc]
/-! ### which comes first -/
theorem rowBefore_irrefl : ∀ a : Rhythm, rowBefore a a = false
  | [] => rfl
  | x :: a => by simp [rowBefore, rowBefore_irrefl a]
theorem rowBefore_cons (x y : Phase) (r s : Rhythm) : rowBefore (x :: r) (y :: s) = true ↔ x.1 < y.1 ∨ (x.1 = y.1 ∧ (x.2 < y.2 ∨ (x.2 = y.2 ∧ rowBefore r s = true))) := by
  simp [rowBefore]
theorem rowBefore_trans : ∀ {a b c : Rhythm}, rowBefore a b = true → rowBefore b c = true → rowBefore a c = true
  | [], b, c, h, _ => by simp [rowBefore] at h
  | x :: a, [], c, h, _ => by simp [rowBefore] at h
  | x :: a, y :: b, [], _, h => by simp [rowBefore] at h
  | x :: a, y :: b, z :: c, h, h' => by
    rw [rowBefore_cons] at h h' ⊢
    rcases h with h | ⟨h1, h | ⟨h2, h⟩⟩ <;> rcases h' with h' | ⟨h3, h' | ⟨h4, h'⟩⟩
    · left; omega
    · left; omega
    · left; omega
    · left; omega
    · right; exact ⟨by omega, Or.inl (by omega)⟩
    · right; exact ⟨by omega, Or.inl (by omega)⟩
    · left; omega
    · right; exact ⟨by omega, Or.inl (by omega)⟩
    · right; exact ⟨by omega, Or.inr ⟨by omega, rowBefore_trans h h'⟩⟩
theorem rowBefore_total : ∀ {a b : Rhythm}, a.length = b.length → rowBefore a b = false → rowBefore b a = false → a = b
  | [], [], _, _, _ => rfl
  | [], y :: b, h, _, _ => by simp at h
  | x :: a, [], h, _, _ => by simp at h
  | x :: a, y :: b, h, h1, h2 => by
    have h1' : ¬ rowBefore (x :: a) (y :: b) = true := by rw [h1]; exact Bool.false_ne_true
    have h2' : ¬ rowBefore (y :: b) (x :: a) = true := by rw [h2]; exact Bool.false_ne_true
    rw [rowBefore_cons] at h1' h2'
    have e1 : x.1 = y.1 := by omega
    have e2 : x.2 = y.2 := by omega
    have exy : x = y := Prod.ext e1 e2
    subst exy
    congr 1
    refine rowBefore_total (by simpa using h) ?_ ?_
    · cases e : rowBefore a b with
      | false => rfl
      | true => exact absurd (Or.inr ⟨rfl, Or.inr ⟨rfl, e⟩⟩) h1'
    · cases e : rowBefore b a with
      | false => rfl
      | true => exact absurd (Or.inr ⟨rfl, Or.inr ⟨rfl, e⟩⟩) h2'
theorem least_fold (r : Rhythm) : ∀ (ks : List Nat) (b : Rhythm) (done : Nat → Prop), (∀ k, done k → rowBefore (turned r k) b = false) →
    let f := ks.foldl (fun (b : Rhythm) (k : Nat) => if rowBefore (turned r k) b = true then turned r k else b) b
    (f = b ∨ ∃ k ∈ ks, f = turned r k) ∧ (∀ k, done k ∨ k ∈ ks → rowBefore (turned r k) f = false)
  | [], b, done, h => ⟨Or.inl rfl, fun k hk => by
      rcases hk with hk | hk
      · exact h k hk
      · cases hk⟩
  | k :: ks, b, done, h => by
    simp only [List.foldl_cons]
    by_cases hk : rowBefore (turned r k) b = true
    · rw [if_pos hk]
      have ih := least_fold r ks (turned r k) (fun j => done j ∨ j = k) (fun j hj => by
        rcases hj with hj | rfl
        · cases e : rowBefore (turned r j) (turned r k) with
          | false => rfl
          | true =>
            have := rowBefore_trans e hk
            rw [h j hj] at this
            cases this
        · exact rowBefore_irrefl _)
      refine ⟨Or.inr ?_, fun j hj => ih.2 j ?_⟩
      · rcases ih.1 with e | ⟨j, hj, e⟩
        · exact ⟨k, by simp, e⟩
        · exact ⟨j, by simp [hj], e⟩
      · rcases hj with hj | hj
        · exact Or.inl (Or.inl hj)
        · rcases List.mem_cons.mp hj with hj | hj
          · exact Or.inl (Or.inr hj)
          · exact Or.inr hj
    · rw [if_neg hk]
      have ih := least_fold r ks b (fun j => done j ∨ j = k) (fun j hj => by
        rcases hj with hj | rfl
        · exact h j hj
        · simpa using hk)
      refine ⟨?_, fun j hj => ih.2 j ?_⟩
      · rcases ih.1 with e | ⟨j, hj, e⟩
        · exact Or.inl e
        · exact Or.inr ⟨j, by simp [hj], e⟩
      · rcases hj with hj | hj
        · exact Or.inl (Or.inl hj)
        · rcases List.mem_cons.mp hj with hj | hj
          · exact Or.inl (Or.inr hj)
          · exact Or.inr hj
theorem turned_zero (r : Rhythm) : turned r 0 = r := by simp [turned]
theorem leastTurn_spec (r : Rhythm) (hn : r ≠ []) : (∃ k, k < r.length ∧ leastTurn r = turned r k) ∧ ∀ k, k < r.length → rowBefore (turned r k) (leastTurn r) = false := by
  have h0 : 0 < r.length := List.length_pos_iff.mpr hn
  have h := least_fold r (List.range r.length) r (fun _ => False) (fun _ q => q.elim)
  refine ⟨?_, fun k hk => h.2 k (Or.inr (List.mem_range.mpr hk))⟩
  rcases h.1 with e | ⟨k, hk, e⟩
  · exact ⟨0, h0, by rw [turned_zero]; exact e⟩
  · exact ⟨k, List.mem_range.mp hk, e⟩
/-! ### the one form, by what is asked of it -/
structure Canon (f : Rhythm) : Prop where
  cyc : Cyc f
  pos : Pos f
  prim : Prim f
  least : ∀ k, k < f.length → rowBefore (turned f k) f = false
theorem turned_back (f : Rhythm) (d : Nat) (h : d < f.length) (hd : 0 < d) : ∃ k, k < f.length ∧ turned (turned f d) k = f := by
  refine ⟨(f.drop d).length, by simp; omega, ?_⟩
  have : turned f d = f.drop d ++ f.take d := rfl
  rw [this, turned_append, List.take_append_drop]
/-- **Two forms that go alike, the one so much later, are one.** -/
theorem canon_unique {f g : Rhythm} (cf : Canon f) (cg : Canon g) {u : Nat} (h : ∀ x, colourAt f (u + x) = colourAt g x) : f = g := by
  have pf := total_pos cf.pos cf.cyc.ne
  have pg := total_pos cg.pos cg.cyc.ne
  -- a time from which on f goes as g: a phase of f begins there
  have hw : colourAt g (total g - 1) ≠ colourAt g (total g) := cg.cyc.wrapAt cg.pos pg (Nat.mod_self _)
  rw [← h, ← h] at hw
  have ht : 0 < u + total g := by omega
  have e1 : u + (total g - 1) = u + total g - 1 := by omega
  rw [e1] at hw
  obtain ⟨d, hd, e2⟩ := turn_at cf.pos cf.cyc.ne ht hw
  have h2 : ∀ x, colourAt (turned f d) x = colourAt g x := fun x => by
    rw [colourAt_turned f d pf, ← e2]
    rw [← colourAt_total g x, ← h]
    refine colourAt_congr ?_
    rw [Nat.mod_add_mod]
    congr 1
    omega
  -- one period
  have hpd : total f % total g = 0 := period_dvd cg.cyc cg.pos cg.prim fun x => by
    rw [← h2, ← h2]
    have := colourAt_total (turned f d) x
    rw [total_turned] at this
    rw [← this]
    congr 1
    omega
  have hpd2 : total g % total f = 0 := by
    have := period_dvd (cf.cyc.turned d) (cf.pos.turned d) (cf.prim.turned d) (u := total g) fun x => by
      rw [h2, h2, Nat.add_comm, colourAt_total]
    rw [total_turned] at this
    exact this
  have ep : total f = total g := Nat.dvd_antisymm (Nat.dvd_of_mod_eq_zero hpd2) (Nat.dvd_of_mod_eq_zero hpd)
  have eg : turned f d = g := by
    refine alt_unique (cf.cyc.turned d).alt cg.cyc.alt (cf.pos.turned d) cg.pos (by rw [total_turned]; exact ep) fun t ht => ?_
    rw [total_turned] at ht
    rw [← colourAt_lt (by rw [total_turned]; exact ht), h2, colourAt_lt (by omega)]
  by_cases hd0 : d = 0
  · rw [hd0, turned_zero] at eg
    exact eg
  · refine rowBefore_total (by rw [← eg, length_turned]) ?_ ?_
    · obtain ⟨k, hk, e⟩ := turned_back f d hd (by omega)
      rw [eg] at e
      rw [← e]
      exact cg.least k (by rw [← eg, length_turned]; exact hk)
    · rw [← eg]
      exact cf.least d hd
end Lt
end
section
set_option Elab.async false
namespace Lt
open Bn
/-! ### neighbours joined -/
def mrg (x : Phase) : Rhythm → Rhythm
  | [] => [x]
  | z :: m => if x.1 = z.1 then (x.1, x.2 + z.2) :: m else x :: z :: m
theorem mrg_cons (x z : Phase) (m : Rhythm) : mrg x (z :: m) = if x.1 = z.1 then (x.1, x.2 + z.2) :: m else x :: z :: m := rfl
theorem joined_cons (x : Phase) : ∀ l : Rhythm, joined (x :: l) = mrg x (joined l)
  | [] => rfl
  | y :: l => by
    show (match joined (y :: l) with
      | [] => [x]
      | z :: m => if x.1 = z.1 then (x.1, x.2 + z.2) :: m else x :: z :: m) = mrg x (joined (y :: l))
    cases joined (y :: l) <;> rfl
theorem colourIn_mrg (x : Phase) (m : Rhythm) (t : Nat) : colourIn (mrg x m) t = colourIn (x :: m) t := by
  cases m with
  | nil => rfl
  | cons z m =>
    rw [mrg_cons]
    by_cases h : x.1 = z.1
    · rw [if_pos h, colourIn_cons, colourIn_cons, colourIn_cons]
      by_cases h1 : t < x.2
      · rw [if_pos (show t < x.2 + z.2 by omega), if_pos h1]
      · rw [if_neg h1]
        by_cases h2 : t - x.2 < z.2
        · rw [if_pos (show t < x.2 + z.2 by omega), if_pos h2, h]
        · rw [if_neg (show ¬ t < x.2 + z.2 by omega), if_neg h2]
          congr 1
          show t - (x.2 + z.2) = _
          omega
    · rw [if_neg h]
theorem total_mrg (x : Phase) (m : Rhythm) : total (mrg x m) = x.2 + total m := by
  cases m with
  | nil => rfl
  | cons z m =>
    rw [mrg_cons]
    by_cases h : x.1 = z.1
    · rw [if_pos h, total_cons, total_cons]
      show x.2 + z.2 + _ = _
      omega
    · rw [if_neg h, total_cons]
theorem mrg_ne (x : Phase) (m : Rhythm) : mrg x m ≠ [] := by
  cases m with
  | nil => simp [mrg]
  | cons z m =>
    rw [mrg_cons]
    by_cases h : x.1 = z.1
    · rw [if_pos h]; simp
    · rw [if_neg h]; simp
theorem alt_head {x y : Phase} {l : Rhythm} (h : Alt (x :: l)) (e : x.1 = y.1) : Alt (y :: l) := by
  cases l with
  | nil => trivial
  | cons z l => exact ⟨by rw [← e]; exact h.1, h.2⟩
theorem Alt.mrg {x : Phase} {m : Rhythm} (h : Alt m) : Alt (mrg x m) := by
  cases m with
  | nil => trivial
  | cons z m =>
    rw [mrg_cons]
    by_cases e : x.1 = z.1
    · rw [if_pos e]
      exact alt_head h e.symm
    · rw [if_neg e]
      exact ⟨e, h⟩
theorem Pos.mrg {x : Phase} {m : Rhythm} (hx : 1 ≤ x.2) (h : Pos m) : Pos (mrg x m) := by
  cases m with
  | nil =>
    intro y hy
    simp [Lt.mrg] at hy
    rw [hy]
    exact hx
  | cons z m =>
    rw [mrg_cons]
    by_cases e : x.1 = z.1
    · rw [if_pos e]
      intro y hy
      rcases List.mem_cons.mp hy with hy | hy
      · rw [hy]
        show 1 ≤ x.2 + z.2
        omega
      · exact h y (by simp [hy])
    · rw [if_neg e]
      intro y hy
      rcases List.mem_cons.mp hy with hy | hy
      · rw [hy]; exact hx
      · exact h y hy
theorem colourIn_joined : ∀ (r : Rhythm) (t : Nat), colourIn (joined r) t = colourIn r t
  | [], t => rfl
  | x :: l, t => by
    rw [joined_cons, colourIn_mrg, colourIn_cons, colourIn_cons, colourIn_joined l]
theorem total_joined : ∀ (r : Rhythm), total (joined r) = total r
  | [] => rfl
  | x :: l => by rw [joined_cons, total_mrg, total_joined l, total_cons]
theorem alt_joined : ∀ (r : Rhythm), Alt (joined r)
  | [] => trivial
  | x :: l => by rw [joined_cons]; exact (alt_joined l).mrg
theorem Pos.joined : ∀ {r : Rhythm}, Pos r → Pos (joined r)
  | [], _ => fun y hy => by cases hy
  | x :: l, h => by
    rw [joined_cons]
    exact Pos.mrg h.cons.1 (Pos.joined h.cons.2)
theorem joined_ne : ∀ {r : Rhythm}, r ≠ [] → joined r ≠ []
  | [], h => absurd rfl h
  | x :: l, _ => by rw [joined_cons]; exact mrg_ne _ _
theorem colourAt_joined (r : Rhythm) (t : Nat) : colourAt (joined r) t = colourAt r t := by
  unfold colourAt
  rw [total_joined, colourIn_joined]
/-- what is joined already stays -/
theorem joined_alt : ∀ {r : Rhythm}, Alt r → joined r = r
  | [], _ => rfl
  | [x], _ => rfl
  | x :: y :: l, h => by
    rw [joined_cons, joined_alt h.2]
    rw [mrg_cons]
    rw [if_neg h.1]
/-! ### round the end too -/
theorem closed_one {r : Rhythm} {x : Phase} (h : joined r = [x]) : closed r = [(x.1, 1)] := by
  unfold closed
  rw [h]
/-- what `closed` makes of a row of two and more: the last one brought to the front, if it goes on in the first -/
theorem closed_two {r : Rhythm} {x z : Phase} {m : Rhythm} (h : joined r = x :: (m ++ [z])) : closed r = if x.1 = z.1 then (x.1, x.2 + z.2) :: m else x :: (m ++ [z]) := by
  unfold closed
  rw [h]
  have hl : (m ++ [z]).getLast? = some z := by simp
  have hd : (m ++ [z]).dropLast = m := by simp
  generalize hmz : m ++ [z] = mz at hl hd
  cases mz with
  | nil => simp at hmz
  | cons a b =>
    simp only
    rw [hl, hd]
theorem snoc_cases (l : Rhythm) (h : l ≠ []) : ∃ m z, l = m ++ [z] := ⟨l.dropLast, l.getLast h, (List.dropLast_concat_getLast h).symm⟩
structure Turns (r c : Rhythm) : Prop where
  cyc : Cyc c
  pos : Pos c
  at_ : ∃ b, ∀ t, colourAt r (b + t) = colourAt c t
  total : total c = total r
theorem closed_turns {r : Rhythm} (hp : Pos r) {x z : Phase} {m : Rhythm} (h : joined r = x :: (m ++ [z])) : Turns r (closed r) := by
  have pj := hp.joined
  have aj := alt_joined r
  have tj := total_joined r
  have cj := colourAt_joined r
  rw [h] at pj aj tj cj
  have hx := pj.cons.1
  have hmz := Pos.append.mp pj.cons.2
  have hz : 1 ≤ z.2 := hmz.2 z (by simp)
  rw [closed_two h]
  by_cases e : x.1 = z.1
  · rw [if_pos e]
    have hm : m ≠ [] := by
      intro q
      subst q
      exact aj.1 e
    have a2 : Alt (x :: m) := by
      have : Alt ((x :: m) ++ [z]) := aj
      exact (alt_append.mp this).1
    have lm : ∀ y, m.getLast? = some y → y.1 ≠ z.1 := fun y hy => by
      have : Alt ((x :: m) ++ [z]) := aj
      refine (alt_append.mp this).2.2 y z ?_ rfl
      cases m with
      | nil => exact absurd rfl hm
      | cons u m => rw [List.getLast?_cons_cons]; exact hy
    refine ⟨⟨?_, ?_, ?_⟩, ?_, ?_, ?_⟩
    · cases m with
      | nil => exact absurd rfl hm
      | cons u m => simp
    · exact alt_head a2 rfl
    · intro y u hy hu
      cases hu
      show y.1 ≠ x.1
      rw [e]
      refine lm y ?_
      cases m with
      | nil => exact absurd rfl hm
      | cons v m => rw [List.getLast?_cons_cons] at hy; exact hy
    · intro y hy
      rcases List.mem_cons.mp hy with hy | hy
      · rw [hy]
        show 1 ≤ x.2 + z.2
        omega
      · exact hmz.1 y hy
    · -- begun z earlier
      refine ⟨total (x :: m), fun t => ?_⟩
      have e1 : colourAt ((x :: m) ++ [z]) (total (x :: m) + t) = colourAt ([z] ++ (x :: m)) t := by
        rw [← colourAt_swap (x :: m) [z] (by rw [total_cons]; omega)]
      rw [← cj]
      show colourAt ((x :: m) ++ [z]) (total (x :: m) + t) = _
      rw [e1]
      have e2 : mrg z (x :: m) = (z.1, z.2 + x.2) :: m := by
        rw [mrg_cons]
        rw [if_pos e.symm]
      have e3 : (x.1, x.2 + z.2) = (z.1, z.2 + x.2) := by rw [e, Nat.add_comm]
      rw [e3, ← e2]
      unfold colourAt
      rw [total_mrg, colourIn_mrg]
      rfl
    · rw [← tj, total_cons, total_cons, total_append, total_cons, total_nil]
      show x.2 + z.2 + _ = _
      omega
  · rw [if_neg e]
    refine ⟨⟨by simp, aj, ?_⟩, pj, ⟨0, fun t => by rw [Nat.zero_add, cj]⟩, tj⟩
    intro y u hy hu
    have hl : (x :: (m ++ [z])).getLast? = some z := by
      rw [← List.cons_append]
      exact List.getLast?_concat
    rw [hl] at hy
    cases hy
    cases hu
    exact fun q => e q.symm
/-! ### once round -/
theorem onceOf_spec (r : Rhythm) (hn : r ≠ []) : ∃ m, 1 ≤ m ∧ r = pow (onceOf r) m ∧ Prim (onceOf r) ∧ onceOf r = r.take (onceOf r).length ∧ m * (onceOf r).length = r.length := by
  have h0 : 0 < r.length := List.length_pos_iff.mpr hn
  have test : ∀ d, ((r.length % (d + 1) == 0 && (List.replicate (r.length / (d + 1)) (r.take (d + 1))).flatten == r) = true) ↔ (r.length % (d + 1) = 0 ∧ pow (r.take (d + 1)) (r.length / (d + 1)) = r) := fun d => by
    simp [pow]
  have hfind : ∃ d, (List.range r.length).find? (fun (d : Nat) => r.length % (d + 1) == 0 && (List.replicate (r.length / (d + 1)) (r.take (d + 1))).flatten == r) = some d := by
    cases e : (List.range r.length).find? (fun (d : Nat) => r.length % (d + 1) == 0 && (List.replicate (r.length / (d + 1)) (r.take (d + 1))).flatten == r) with
    | some d => exact ⟨d, rfl⟩
    | none =>
      exfalso
      have := List.find?_eq_none.mp e (r.length - 1) (List.mem_range.mpr (by omega))
      apply this
      have e1 : r.length - 1 + 1 = r.length := by omega
      refine (test (r.length - 1)).mpr ⟨by rw [e1, Nat.mod_self], ?_⟩
      rw [e1, List.take_length, Nat.div_self h0, pow_one]
  obtain ⟨d, hd⟩ := hfind
  have eo : onceOf r = r.take (d + 1) := by
    unfold onceOf
    rw [hd]
  obtain ⟨hp, hm, hmin⟩ := List.find?_range_eq_some.mp hd
  have hdl : d < r.length := List.mem_range.mp hm
  have hp2 := (test d).mp hp
  have hdv := Nat.div_add_mod r.length (d + 1)
  rw [hp2.1, Nat.add_zero] at hdv
  have hlen : (onceOf r).length = d + 1 := by
    rw [eo, List.length_take]
    omega
  refine ⟨r.length / (d + 1), Nat.div_pos (by omega) (by omega), by rw [eo]; exact hp2.2.symm, ?_, by rw [hlen]; exact eo, by rw [hlen, Nat.mul_comm]; exact hdv⟩
  rw [eo]
  intro z k e
  -- r is z so many times
  have hk0 : k ≠ 0 := by
    intro q
    rw [q, pow_zero] at e
    have := congrArg List.length e
    rw [List.length_take] at this
    simp only [List.length_nil] at this
    omega
  have hzl : (d + 1) = k * z.length := by
    have := congrArg List.length e
    rw [← eo, hlen, length_pow] at this
    exact this
  have hz0 : 0 < z.length := by
    rcases Nat.eq_zero_or_pos z.length with q | q
    · rw [q] at hzl
      omega
    · exact q
  by_cases hk1 : k = 1
  · exact hk1
  · exfalso
    have hk2 : 2 ≤ k := by omega
    have hzd : z.length < d + 1 := by
      have : 2 * z.length ≤ k * z.length := Nat.mul_le_mul_right _ hk2
      omega
    have er : r = pow z (k * (r.length / (d + 1))) := by
      rw [← pow_mul, ← e]
      exact hp2.2.symm
    have hrl : r.length = (k * (r.length / (d + 1))) * z.length := by
      have := congrArg List.length er
      rw [length_pow] at this
      exact this
    have hz1 : z.length - 1 + 1 = z.length := by omega
    have := hmin (z.length - 1) (by omega)
    rw [Bool.not_eq_true'] at this
    have hpos : ((r.length % (z.length - 1 + 1) == 0 && (List.replicate (r.length / (z.length - 1 + 1)) (r.take (z.length - 1 + 1))).flatten == r) = true) := by
      refine (test (z.length - 1)).mpr ?_
      rw [hz1]
      have hmod : r.length % z.length = 0 := by rw [hrl, Nat.mul_mod_left]
      have hdiv : r.length / z.length = k * (r.length / (d + 1)) := by
        conv => lhs; rw [hrl]
        exact Nat.mul_div_cancel _ hz0
      have ht : r.take z.length = z := by
        have hpos2 : 0 < k * (r.length / (d + 1)) := Nat.mul_pos (by omega) (Nat.div_pos (by omega) (by omega))
        obtain ⟨q, hq⟩ : ∃ q, k * (r.length / (d + 1)) = q + 1 := ⟨k * (r.length / (d + 1)) - 1, by omega⟩
        conv => lhs; rw [er, hq, pow_succ]
        rw [List.take_left]
      refine ⟨hmod, ?_⟩
      rw [ht, hdiv]
      exact er.symm
    rw [hpos] at this
    cases this
/-- a telling of it: as it goes, begun so much later; no phases of one colour side by side; no telling over -/
theorem once_turns {r c : Rhythm} (h : Turns r c) : Cyc (onceOf c) ∧ Pos (onceOf c) ∧ Prim (onceOf c) ∧ ∀ t, colourAt c t = colourAt (onceOf c) t := by
  obtain ⟨m, hm, e, pr, et, el⟩ := onceOf_spec c h.cyc.ne
  generalize onceOf c = w at e pr et el
  have pw : Pos w := fun x hx => h.pos x (by rw [et] at hx; exact List.mem_of_mem_take hx)
  have hw : w ≠ [] := by
    intro q
    rw [q] at e
    have : pow ([] : Rhythm) m = [] := by simp [pow]
    rw [this] at e
    exact h.cyc.ne e
  have hcol : ∀ t, colourAt c t = colourAt w t := fun t => by
    conv => lhs; rw [e]
    exact colourAt_pow w (total_pos pw hw) m hm t
  refine ⟨?_, pw, pr, hcol⟩
  by_cases hm1 : m = 1
  · rw [hm1, pow_one] at e
    rw [← e]
    exact h.cyc
  · obtain ⟨q, hq⟩ : ∃ q, m = q + 2 := ⟨m - 2, by omega⟩
    have ac : Alt (w ++ (w ++ pow w q)) := by
      have := h.cyc.alt
      rw [e, hq, pow_succ, pow_succ] at this
      exact this
    have a1 := alt_append.mp ac
    have ends : ∀ x y, w.getLast? = some x → w.head? = some y → x.1 ≠ y.1 := fun x y hx hy => a1.2.2 x y hx (by
      cases w with
      | nil => exact absurd rfl hw
      | cons u w => simpa using hy)
    refine ⟨?_, a1.1, ends⟩
    cases w with
    | nil => exact absurd rfl hw
    | cons u w =>
      cases w with
      | nil => exact absurd rfl (ends u u rfl rfl)
      | cons v w => simp
theorem canon_least {w : Rhythm} (c : Cyc w) (p : Pos w) (pr : Prim w) : Canon (leastTurn w) := by
  obtain ⟨⟨k, hk, e⟩, hl⟩ := leastTurn_spec w c.ne
  refine ⟨by rw [e]; exact c.turned k, by rw [e]; exact p.turned k, by rw [e]; exact pr.turned k, fun j hj => ?_⟩
  have hj2 : j < w.length := by rw [e, length_turned] at hj; exact hj
  obtain ⟨i, hi, e2⟩ := turned_turned w c.ne hk (Nat.le_of_lt hj2)
  have := hl i hi
  rw [← e2, ← e] at this
  exact this
/-- **The form**: of a light that never changes its colour for 1; else what is canonical, and goes as the rhythm does, so much later. -/
inductive FormOf (r : Rhythm) : Rhythm → Prop
  | still (c : Nat) : (∀ t, colourAt r t = c) → FormOf r [(c, 1)]
  | turns {f : Rhythm} (b : Nat) : Canon f → (∀ t, colourAt r (b + t) = colourAt f t) → FormOf r f
theorem form_is {r : Rhythm} (hp : Pos r) (hn : r ≠ []) : FormOf r (form r) := by
  have hj := joined_ne hn
  have pr := total_pos hp hn
  cases e : joined r with
  | nil => exact absurd e hj
  | cons x l =>
    cases l with
    | nil =>
      have ef : form r = [(x.1, 1)] := by
        unfold form
        rw [closed_one e]
        have e1 : onceOf [(x.1, 1)] = [(x.1, 1)] := by
          obtain ⟨m, hm, e2, _, e3, e4⟩ := onceOf_spec [(x.1, 1)] (by simp)
          have : (onceOf [(x.1, 1)]).length = 1 := by
            simp only [List.length_cons, List.length_nil] at e4
            exact Nat.eq_one_of_mul_eq_one_left e4
          rw [e3, this]
          rfl
        rw [e1]
        obtain ⟨⟨k, hk, e2⟩, _⟩ := leastTurn_spec [(x.1, 1)] (by simp)
        have hk0 : k = 0 := by simp at hk; exact hk
        rw [e2, hk0, turned_zero]
      rw [ef]
      refine .still x.1 fun t => ?_
      rw [← colourAt_joined, e]
      have htot := total_joined r
      rw [e, total_cons, total_nil] at htot
      unfold colourAt
      rw [total_cons, total_nil, colourIn_cons, if_pos (by rw [Nat.add_zero]; exact Nat.mod_lt _ (by omega))]
    | cons y l =>
      obtain ⟨m, z, hmz⟩ := snoc_cases (y :: l) (by simp)
      rw [hmz] at e
      have ht := closed_turns hp e
      obtain ⟨c1, c2, c3, c4⟩ := once_turns ht
      obtain ⟨⟨k, hk, ek⟩, _⟩ := leastTurn_spec (onceOf (closed r)) c1.ne
      obtain ⟨b, hb⟩ := ht.at_
      refine .turns (b + total ((onceOf (closed r)).take k)) (canon_least c1 c2 c3) fun t => ?_
      have ef : form r = leastTurn (onceOf (closed r)) := rfl
      rw [ef, ek, colourAt_turned _ _ (total_pos c2 c1.ne), ← c4, ← hb, Nat.add_assoc]
theorem canon_changes {f : Rhythm} (c : Canon f) (k : Nat) (h : ∀ t, colourAt f t = k) : False := by
  have hp := total_pos c.pos c.cyc.ne
  have := c.cyc.wrapAt c.pos hp (Nat.mod_self _)
  rw [h, h] at this
  exact this rfl
/-- **One form is one light's, and of one light there is one form.** -/
theorem FormOf.unique {r s f g : Rhythm} {u : Nat} (hr : FormOf r f) (hs : FormOf s g) (hp : 0 < total r) (h : ∀ t, colourAt r (u + t) = colourAt s t) : f = g := by
  cases hr with
  | still c hc =>
    cases hs with
    | still d hd =>
      have : c = d := by rw [← hc (u + 0), h, hd]
      rw [this]
    | turns b cg hb =>
      exfalso
      exact canon_changes cg c fun t => by rw [← hb, ← h, hc]
  | turns b cf hb =>
    cases hs with
    | still d hd =>
      exfalso
      -- f goes as r from b on, r as s from u on
      refine canon_changes cf d fun t => ?_
      rw [← hb]
      have e : colourAt r (b + t) = colourAt r (u + (b + t + u * (total r - 1))) := by
        refine colourAt_congr ?_
        obtain ⟨q, hq⟩ : ∃ q, total r = q + 1 := ⟨total r - 1, by omega⟩
        rw [hq]
        have : u + (b + t + u * (q + 1 - 1)) = b + t + u * (q + 1) := by
          rw [Nat.add_sub_cancel, Nat.mul_succ]
          omega
        rw [this, Nat.add_mul_mod_self_right]
      rw [e, h, hd]
    | turns b' cg hb' =>
      -- colourAt f x = colourAt r (b + x); g x = s (b' + x) = r (u + b' + x)
      have key : ∀ x, colourAt f ((u + b' + b * (total r - 1)) + x) = colourAt g x := fun x => by
        rw [← hb, ← hb', ← h]
        refine colourAt_congr ?_
        obtain ⟨q, hq⟩ : ∃ q, total r = q + 1 := ⟨total r - 1, by omega⟩
        rw [hq]
        have : b + (u + b' + b * (q + 1 - 1) + x) = u + (b' + x) + b * (q + 1) := by
          rw [Nat.add_sub_cancel, Nat.mul_succ]
          omega
        rw [this, Nat.add_mul_mod_self_right]
      exact canon_unique cf cg key
end Lt
end
section
set_option Elab.async false
namespace Lt
open Bn Wqatdx
/-- from b on r goes as f does -/
def Go (r f : Rhythm) (b : Nat) : Prop := ∀ x, colourAt r (b + x) = colourAt f x
theorem Go.mod {r f : Rhythm} {b c : Nat} (h : Go r f b) (e : b % total r = c % total r) : Go r f c := fun x => by
  rw [← h x]
  exact colourAt_congr (add_mod_left_congr _ _ x _ e.symm)
/-- what a form's own time brings again, the rhythm brings again -/
theorem Go.back {r f : Rhythm} {b : Nat} (h : Go r f b) (hp : 0 < total r) (x : Nat) : colourAt r x = colourAt f (x + b * (total r - 1)) := by
  rw [← h]
  refine colourAt_congr ?_
  obtain ⟨q, hq⟩ : ∃ q, total r = q + 1 := ⟨total r - 1, by omega⟩
  rw [hq]
  have : b + (x + b * (q + 1 - 1)) = x + b * (q + 1) := by
    rw [Nat.add_sub_cancel, Nat.mul_succ]
    omega
  rw [this, Nat.add_mul_mod_self_right]
theorem Go.again {r f : Rhythm} {b : Nat} (h : Go r f b) (hp : 0 < total r) (x : Nat) : colourAt r (x + total f) = colourAt r x := by
  rw [h.back hp, h.back hp x]
  have : x + total f + b * (total r - 1) = x + b * (total r - 1) + total f := by omega
  rw [this, colourAt_total]
/-- **The time from which on it goes as the form does is one, but for whole periods.** -/
theorem Go.unique {r f : Rhythm} {b t : Nat} (hb : Go r f b) (ht : Go r f t) (hp : 0 < total r) (c : Cyc f) (p : Pos f) (pr : Prim f) : t % total f = b % total f := by
  have hT : total r % total f = 0 := period_dvd c p pr fun x => by
    rw [← hb, ← hb]
    have : b + (total r + x) = b + x + total r := by omega
    rw [this, colourAt_total]
  have hu : (t + b * (total r - 1)) % total f = 0 := period_dvd c p pr fun x => by
    have e := hb.back hp (t + x)
    rw [ht x] at e
    rw [e]
    congr 1
    omega
  have e1 : t + b * (total r - 1) + b = t + b * total r := by
    obtain ⟨q, hq⟩ : ∃ q, total r = q + 1 := ⟨total r - 1, by omega⟩
    rw [hq, Nat.add_sub_cancel, Nat.mul_succ]
    omega
  have e2 : (t + b * (total r - 1) + b) % total f = b % total f := by
    rw [Nat.add_mod, hu, Nat.zero_add, Nat.mod_mod]
  rw [← e2, e1, Nat.add_mod, Nat.mul_mod, hT, Nat.mul_zero, Nat.zero_mod, Nat.add_zero, Nat.mod_mod]
/-! ### how often the colour changes -/
def chg (g : Nat → Nat) (a : Nat) : Nat → Nat
  | 0 => 0
  | m + 1 => chg g a m + if g (a + m + 1) = g (a + m) then 0 else 1
theorem chg_add (g : Nat → Nat) (a m : Nat) : ∀ k, chg g a (m + k) = chg g a m + chg g (a + m) k
  | 0 => rfl
  | k + 1 => by
    show chg g a (m + k) + (if g (a + (m + k) + 1) = g (a + (m + k)) then 0 else 1) = chg g a m + (chg g (a + m) k + (if g (a + m + k + 1) = g (a + m + k) then 0 else 1))
    rw [chg_add g a m k, ← Nat.add_assoc a m k]
    omega
theorem chg_zero {g : Nat → Nat} {a : Nat} : ∀ {m : Nat}, chg g a m = 0 → ∀ i, i ≤ m → g (a + i) = g a
  | 0, _, i, hi => by
    have : i = 0 := by omega
    rw [this]
    rfl
  | m + 1, h, i, hi => by
    have h' : chg g a m + (if g (a + m + 1) = g (a + m) then 0 else 1) = 0 := h
    have h1 : chg g a m = 0 := by omega
    by_cases e : g (a + m + 1) = g (a + m)
    · by_cases hi2 : i = m + 1
      · rw [hi2]
        show g (a + m + 1) = g a
        rw [e]
        exact chg_zero h1 m (Nat.le_refl _)
      · exact chg_zero h1 i (by omega)
    · rw [if_neg e] at h'
      omega
theorem chg_shift {g : Nat → Nat} {p : Nat} (h : ∀ x, g (x + p) = g x) (a : Nat) : ∀ m, chg g (a + p) m = chg g a m
  | 0 => rfl
  | m + 1 => by
    show chg g (a + p) m + (if g (a + p + m + 1) = g (a + p + m) then 0 else 1) = chg g a m + (if g (a + m + 1) = g (a + m) then 0 else 1)
    rw [chg_shift h a m]
    have e1 : a + p + m + 1 = a + m + 1 + p := by omega
    have e2 : a + p + m = a + m + p := by omega
    rw [e1, e2, h, h]
theorem chg_round {g : Nat → Nat} {p : Nat} (h : ∀ x, g (x + p) = g x) : ∀ a, chg g a p = chg g 0 p
  | 0 => rfl
  | a + 1 => by
    rw [← chg_round h a]
    have e1 := chg_add g a p 1
    have e2 := chg_add g a 1 p
    have e3 := chg_shift h a 1
    rw [Nat.add_comm p 1] at e1
    omega
/-- as many changes as phases -/
theorem chg_alt {g : Nat → Nat} : ∀ {l : Rhythm} {t : Nat}, Alt l → Pos l → (∀ i, i < total l → g (t + i) = colourIn l i) → (∀ z, l.getLast? = some z → g (t + total l) ≠ z.1) → chg g t (total l) = l.length
  | [], t, _, _, _, _ => rfl
  | x :: l, t, al, pl, hg, he => by
    have hx := pl.cons.1
    have first : ∀ i, i < x.2 → g (t + i) = x.1 := fun i hi => by
      rw [hg i (by rw [total_cons]; omega), colourIn_cons, if_pos hi]
    have zero : ∀ m, m < x.2 → chg g t m = 0 := by
      intro m
      induction m with
      | zero => intro _; rfl
      | succ m ih =>
        intro hm
        show chg g t m + (if g (t + m + 1) = g (t + m) then 0 else 1) = 0
        rw [ih (by omega), if_pos (by rw [Nat.add_assoc, first (m + 1) hm, first m (by omega)])]
    have nextNe : g (t + x.2) ≠ x.1 := by
      cases l with
      | nil =>
        have := he x rfl
        rw [total_cons, total_nil, Nat.add_zero] at this
        exact this
      | cons y l =>
        have hy := pl.cons.2.cons.1
        rw [hg x.2 (by rw [total_cons, total_cons]; omega), colourIn_cons, if_neg (by omega), colourIn_cons, if_pos (by omega)]
        exact fun q => al.1 q.symm
    have one : chg g t x.2 = 1 := by
      obtain ⟨q, hq⟩ : ∃ q, x.2 = q + 1 := ⟨x.2 - 1, by omega⟩
      rw [hq]
      show chg g t q + (if g (t + q + 1) = g (t + q) then 0 else 1) = 1
      rw [zero q (by omega), if_neg (by rw [Nat.add_assoc, ← hq, first q (by omega)]; exact nextNe)]
    have rest : chg g (t + x.2) (total l) = l.length := by
      refine chg_alt al.tail pl.cons.2 (fun i hi => ?_) (fun z hz => ?_)
      · rw [Nat.add_assoc, hg (x.2 + i) (by rw [total_cons]; omega), colourIn_cons, if_neg (by omega)]
        congr 1
        omega
      · rw [Nat.add_assoc, ← total_cons]
        refine he z ?_
        cases l with
        | nil => cases hz
        | cons y l => rw [List.getLast?_cons_cons]; exact hz
    rw [total_cons, chg_add, one, rest, List.length_cons]
    omega
theorem goesAs_cons (r : Rhythm) (t : Nat) (x : Phase) (l : Rhythm) : goesAs r t (x :: l) = true ↔ colourAt r t = x.1 ∧ colourAt r (t + x.2 - 1) = x.1 ∧ goesAs r (t + x.2) l = true := by
  simp [goesAs]
/-- where only ends and beginnings are looked at there are as many changes at least, and if just as many then it goes so at all times -/
theorem chg_goes {r : Rhythm} : ∀ {l : Rhythm} {t : Nat}, Alt l → Pos l → goesAs r t l = true → (∀ z, l.getLast? = some z → colourAt r (t + total l) ≠ z.1) →
    l.length ≤ chg (colourAt r) t (total l) ∧ (chg (colourAt r) t (total l) = l.length → ∀ i, i < total l → colourAt r (t + i) = colourIn l i)
  | [], t, _, _, _, _ => ⟨Nat.zero_le _, fun _ i hi => by simp [total] at hi⟩
  | x :: l, t, al, pl, hg, he => by
    have hx := pl.cons.1
    obtain ⟨g1, g2, g3⟩ := (goesAs_cons r t x l).mp hg
    have nextNe : colourAt r (t + x.2) ≠ x.1 := by
      cases l with
      | nil =>
        have := he x rfl
        rw [total_cons, total_nil, Nat.add_zero] at this
        exact this
      | cons y l =>
        rw [((goesAs_cons r (t + x.2) y l).mp g3).1]
        exact fun q => al.1 q.symm
    obtain ⟨ih1, ih2⟩ := chg_goes (r := r) (l := l) (t := t + x.2) al.tail pl.cons.2 g3 (fun z hz => by
      rw [Nat.add_assoc, ← total_cons]
      refine he z ?_
      cases l with
      | nil => cases hz
      | cons y l => rw [List.getLast?_cons_cons]; exact hz)
    obtain ⟨q, hq⟩ : ∃ q, x.2 = q + 1 := ⟨x.2 - 1, by omega⟩
    have one : chg (colourAt r) t x.2 = chg (colourAt r) t q + 1 := by
      rw [hq]
      show chg (colourAt r) t q + (if colourAt r (t + q + 1) = colourAt r (t + q) then 0 else 1) = _
      rw [if_neg]
      intro e
      apply nextNe
      rw [hq, ← Nat.add_assoc, e]
      have : t + x.2 - 1 = t + q := by omega
      rw [← this]
      exact g2
    rw [total_cons, chg_add, one, List.length_cons]
    refine ⟨by omega, fun e i hi => ?_⟩
    have z : chg (colourAt r) t q = 0 := by omega
    by_cases h : i < x.2
    · rw [colourIn_cons, if_pos h, ← g1]
      exact chg_zero z i (by omega)
    · rw [colourIn_cons, if_neg h, ← ih2 (by omega) (i - x.2) (by omega)]
      congr 1
      omega
/-- **Where it goes as its form at beginnings and ends it goes so at all times.** -/
theorem go_of_goes {r f : Rhythm} {b t : Nat} (hb : Go r f b) (hp : 0 < total r) (c : Cyc f) (p : Pos f) (h : goesAs r t f = true) : Go r f t := by
  have pf := total_pos p c.ne
  have per := hb.again hp
  obtain ⟨x, hx⟩ := head_some c.ne
  have e0 : chg (colourAt r) b (total f) = f.length := by
    refine chg_alt c.alt p (fun i hi => by rw [hb, colourAt_lt hi]) (fun z hz => ?_)
    rw [per, ← Nat.add_zero b, hb, colourAt_lt pf, colourIn_head p hx]
    exact fun q => c.ends z x hz hx q.symm
  have e1 : chg (colourAt r) t (total f) = f.length := by rw [chg_round per t, ← chg_round per b, e0]
  have first : colourAt r t = x.1 := by
    cases f with
    | nil => cases hx
    | cons y l =>
      cases hx
      exact ((goesAs_cons r t _ _).mp h).1
  have e2 := (chg_goes c.alt p h (fun z hz => by
    rw [per, first]
    exact fun q => c.ends z x hz hx q.symm)).2 e1
  intro y
  have per2 : ∀ k z, colourAt r (z + k * total f) = colourAt r z := by
    intro k
    induction k with
    | zero => intro z; rw [Nat.zero_mul, Nat.add_zero]
    | succ k ih => intro z; rw [Nat.succ_mul, ← Nat.add_assoc, per, ih]
  have hlt := Nat.mod_lt y pf
  have dm := Nat.div_add_mod y (total f)
  have e3 : t + y = t + y % total f + (y / total f) * total f := by
    rw [Nat.mul_comm (y / total f)]
    omega
  rw [e3, per2, e2 _ hlt]
  rfl
theorem goes_of_go {r f : Rhythm} {b : Nat} (hb : Go r f b) (p : Pos f) : ∀ (l a : Rhythm), f = a ++ l → goesAs r (b + total a) l = true
  | [], a, _ => rfl
  | x :: l, a, e => by
    have hx : 1 ≤ x.2 := p x (by rw [e]; simp)
    have tf : total f = total a + (x.2 + total l) := by rw [e, total_append, total_cons]
    refine (goesAs_cons _ _ _ _).mpr ⟨?_, ?_, ?_⟩
    · rw [hb, colourAt_lt (by omega), e, colourIn_append, if_neg (by omega), colourIn_cons, if_pos (by omega)]
    · have : b + total a + x.2 - 1 = b + (total a + x.2 - 1) := by omega
      rw [this, hb, colourAt_lt (by omega), e, colourIn_append, if_neg (by omega), colourIn_cons, if_pos (by omega)]
    · have ih := goes_of_go hb p l (a ++ [x]) (by rw [e]; simp)
      rw [total_append, total_cons, total_nil, Nat.add_zero] at ih
      rw [Nat.add_assoc]
      exact ih
/-! ### the specification's beginning -/
theorem find_some {α : Type} {p : α → Bool} : ∀ {l : List α} {a : α}, a ∈ l → p a = true → ∃ x, l.find? p = some x ∧ p x = true
  | [], a, h, _ => by cases h
  | y :: l, a, h, hp => by
    rw [List.find?_cons]
    cases e : p y with
    | true => exact ⟨y, rfl, e⟩
    | false =>
      rcases List.mem_cons.mp h with rfl | h
      · rw [hp] at e
        cases e
      · exact find_some h hp
theorem beginning_go {r : Rhythm} {b : Nat} (pr : Pos r) (hn : r ≠ []) (c : Cyc (form r)) (p : Pos (form r)) (hb : Go r (form r) b) : Go r (form r) (beginning r) := by
  have hp := total_pos pr hn
  have pf := total_pos p c.ne
  have hw : colourAt (form r) (total (form r) - 1) ≠ colourAt (form r) (total (form r)) := c.wrapAt p pf (Nat.mod_self _)
  rw [← hb, ← hb] at hw
  have e1 : b + (total (form r) - 1) = b + total (form r) - 1 := by omega
  rw [e1] at hw
  obtain ⟨d, hd, e2⟩ := turn_at pr hn (by omega) hw
  have g1 : Go r (form r) (total (r.take d)) := by
    have g0 : Go r (form r) (b + total (form r)) := fun x => by
      have : b + total (form r) + x = b + (x + total (form r)) := by omega
      rw [this, hb, colourAt_total]
    refine g0.mod ?_
    rw [← e2, Nat.mod_mod]
  have g2 : goesAs r (total (r.take d)) (form r) = true := by
    have := goes_of_go g1 p (form r) [] rfl
    rw [total_nil, Nat.add_zero] at this
    exact this
  obtain ⟨t, ht, ht2⟩ := find_some (p := fun t => goesAs r t (form r)) (l := (List.range r.length).map fun (i : Nat) => total (r.take i)) (a := total (r.take d)) (List.mem_map.mpr ⟨d, List.mem_range.mpr hd, rfl⟩) g2
  have e3 : beginning r = t := by
    unfold beginning
    rw [ht]
    rfl
  rw [e3]
  exact go_of_goes hb hp c p ht2
theorem period_of_cyc {r : Rhythm} (h : 2 ≤ (form r).length) : period r = total (form r) := by
  unfold period
  generalize form r = f at h
  match f, h with
  | [], h => simp at h
  | [x], h => simp at h
  | x :: y :: l, _ => rfl
/-- **The shift**, of any times from which on the two go as their forms do. -/
theorem shiftOf_go {r s : Rhythm} (pr : Pos r) (nr : r ≠ []) (ps : Pos s) (ns : s ≠ []) (e : form r = form s) (h2 : 2 ≤ (form r).length) {a b : Nat} (ga : Go r (form r) a) (gb : Go s (form s) b) :
    shiftOf r s = some ((a % period r + period r - b % period r) % period r) := by
  have fr := form_is pr nr
  have hc : Canon (form r) := by
    cases hf : form r with
    | nil => rw [hf] at h2; simp at h2
    | cons x l =>
      rw [hf] at fr h2
      cases fr with
      | still c _ => simp at h2
      | turns _ c _ => exact c
  have pp : period r = total (form r) := period_of_cyc h2
  have pf := total_pos hc.pos hc.cyc.ne
  have e1 : beginning r % total (form r) = a % total (form r) := Go.unique ga (beginning_go pr nr hc.cyc hc.pos ga) (total_pos pr nr) hc.cyc hc.pos hc.prim
  have hc' : Canon (form s) := by rw [← e]; exact hc
  have e2 : beginning s % total (form s) = b % total (form s) := Go.unique gb (beginning_go ps ns hc'.cyc hc'.pos gb) (total_pos ps ns) hc'.cyc hc'.pos hc'.prim
  unfold shiftOf
  have em : max 1 (period r) = period r := by omega
  simp only [em]
  rw [if_pos e, pp, e1]
  rw [← e] at e2
  rw [e2]
theorem shiftOf_still {r s : Rhythm} (e : form r = form s) (h2 : (form r).length ≤ 1) : shiftOf r s = some 0 := by
  have pp : period r = 0 := by
    unfold period
    generalize form r = f at h2
    match f, h2 with
    | [], _ => rfl
    | [x], _ => rfl
    | x :: y :: l, h => simp at h
  unfold shiftOf
  rw [pp]
  have : max 1 0 = 1 := rfl
  simp only [this]
  rw [if_pos e]
  first | rfl | (rw [Nat.mod_one])
theorem shiftOf_none {r s : Rhythm} (e : form r ≠ form s) : shiftOf r s = none := by
  unfold shiftOf
  simp only
  rw [if_neg e]
end Lt
end
section
set_option Elab.async false
namespace Lt
open Bn
/-! ### bytes -/
def toB (z : Int) : UInt8 := UInt8.ofNat z.toNat
def Byte (z : Int) : Prop := 0 ≤ z ∧ z ≤ 255
theorem bytes_eq (l : List Int) : WqatdxNeutral.bytes l = l.map toB := rfl
theorem toB_nat {z : Int} (h : Byte z) : (toB z).toNat = z.toNat := by
  unfold toB
  rw [UInt8.toNat_ofNat_of_lt']
  obtain ⟨h1, h2⟩ := h
  show z.toNat < 256
  omega
theorem toB_eq {z : Int} (h : Byte z) (c : Nat) (hc : c < 256) : toB z = UInt8.ofNat c ↔ z = (c : Int) := by
  constructor
  · intro e
    have := congrArg UInt8.toNat e
    rw [toB_nat h, UInt8.toNat_ofNat_of_lt' hc] at this
    have := h.1
    omega
  · intro e
    unfold toB
    rw [e]
    rfl
/-! ### parted at the blanks -/
def splitI : List Int → List (List Int)
  | [] => [[]]
  | x :: r => match splitI r with
    | [] => [[x]]
    | w :: l => if x = 32 then [] :: w :: l else (x :: w) :: l
theorem splitI_ne : ∀ t, splitI t ≠ []
  | [] => by simp [splitI]
  | x :: r => by
    unfold splitI
    cases splitI r with
    | nil => simp
    | cons w l => simp only; split <;> simp
theorem splitI_cons (x : Int) (r : List Int) (w : List Int) (l : List (List Int)) (h : splitI r = w :: l) : splitI (x :: r) = if x = 32 then [] :: w :: l else (x :: w) :: l := by
  rw [splitI, h]
theorem splitI_blank : ∀ t, splitI (t ++ [32]) = splitI t ++ [[]]
  | [] => rfl
  | x :: r => by
    cases e : splitI r with
    | nil => exact absurd e (splitI_ne r)
    | cons w l =>
      have e2 := splitI_blank r
      rw [e] at e2
      rw [splitI_cons x r w l e, List.cons_append, splitI_cons x (r ++ [32]) w (l ++ [[]]) e2]
      split <;> rfl
theorem splitI_sign (y : Int) (hy : y ≠ 32) : ∀ (t : List Int) (ws : List (List Int)) (w : List Int), splitI t = ws ++ [w] → splitI (t ++ [y]) = ws ++ [w ++ [y]]
  | [], ws, w, h => by
    have h1 : ([[]] : List (List Int)) = ws ++ [w] := h
    have hl := congrArg List.length h1
    rw [List.length_append] at hl
    simp only [List.length_cons, List.length_nil] at hl
    have hws : ws = [] := List.eq_nil_of_length_eq_zero (by omega)
    subst hws
    have hw : [] = w := (List.cons.inj h1).1
    subst hw
    show splitI [y] = _
    rw [splitI_cons y [] [] [] rfl, if_neg hy]
    rfl
  | x :: r, ws, w, h => by
    cases e : splitI r with
    | nil => exact absurd e (splitI_ne r)
    | cons v l =>
      -- splitI r = us ++ [u]
      have hne : splitI r ≠ [] := splitI_ne r
      have hs : splitI r = (splitI r).dropLast ++ [(splitI r).getLast hne] := (List.dropLast_concat_getLast hne).symm
      generalize hus : (splitI r).dropLast = us at hs
      generalize (splitI r).getLast hne = u at hs
      have ih := splitI_sign y hy r us u hs
      rw [splitI_cons x r v l e] at h
      rw [hs] at e
      cases us with
      | nil =>
        have ev : u = v := (List.cons.inj e).1
        have el : [] = l := (List.cons.inj e).2
        subst ev el
        rw [List.cons_append, splitI_cons x (r ++ [y]) (u ++ [y]) [] ih]
        by_cases hx : x = 32
        · rw [if_pos hx] at h ⊢
          have h2 : ([[], u] : List (List Int)) = [[]] ++ [u] := rfl
          rw [h2] at h
          obtain ⟨h3, h4⟩ := List.append_inj' h rfl
          rw [← h3, ← (List.cons.inj h4).1]
          rfl
        · rw [if_neg hx] at h ⊢
          have h2 : ([x :: u] : List (List Int)) = [] ++ [x :: u] := rfl
          rw [h2] at h
          obtain ⟨h3, h4⟩ := List.append_inj' h rfl
          rw [← h3, ← (List.cons.inj h4).1]
          rfl
      | cons a us =>
        have ev : a = v := (List.cons.inj e).1
        have el : us ++ [u] = l := (List.cons.inj e).2
        subst ev el
        rw [List.cons_append, splitI_cons x (r ++ [y]) a (us ++ [u ++ [y]]) ih]
        by_cases hx : x = 32
        · rw [if_pos hx] at h ⊢
          have h2 : [] :: a :: (us ++ [u]) = ([] :: a :: us) ++ [u] := rfl
          rw [h2] at h
          obtain ⟨h3, h4⟩ := List.append_inj' h rfl
          rw [← h3, ← (List.cons.inj h4).1]
          rfl
        · rw [if_neg hx] at h ⊢
          have h2 : (x :: a) :: (us ++ [u]) = ((x :: a) :: us) ++ [u] := rfl
          rw [h2] at h
          obtain ⟨h3, h4⟩ := List.append_inj' h rfl
          rw [← h3, ← (List.cons.inj h4).1]
          rfl
theorem splitI_bytes : ∀ {t : List Int}, (∀ z ∈ t, Byte z) → ∀ w ∈ splitI t, ∀ z ∈ w, Byte z
  | [], _, w, hw, z, hz => by
    have : w = [] := by simpa [splitI] using hw
    rw [this] at hz
    cases hz
  | x :: r, h, w, hw, z, hz => by
    cases e : splitI r with
    | nil => exact absurd e (splitI_ne r)
    | cons v l =>
      have ih := splitI_bytes (t := r) fun z hz => h z (by simp [hz])
      rw [splitI_cons x r v l e] at hw
      rw [e] at ih
      by_cases hx : x = 32
      · rw [if_pos hx] at hw
        rcases List.mem_cons.mp hw with hw | hw
        · rw [hw] at hz; cases hz
        · exact ih w hw z hz
      · rw [if_neg hx] at hw
        rcases List.mem_cons.mp hw with hw | hw
        · rw [hw] at hz
          rcases List.mem_cons.mp hz with hz | hz
          · rw [hz]; exact h x (by simp)
          · exact ih v (by simp) z hz
        · exact ih w (by simp [hw]) z hz
theorem split_cons (c x : UInt8) (r : Bytes) (w : Bytes) (l : List Bytes) (h : split c r = w :: l) : split c (x :: r) = if x = c then [] :: w :: l else (x :: w) :: l := by
  rw [split, h]
theorem split_bytes : ∀ {t : List Int}, (∀ z ∈ t, Byte z) → split 32 (t.map toB) = (splitI t).map (·.map toB)
  | [], _ => rfl
  | x :: r, h => by
    cases e : splitI r with
    | nil => exact absurd e (splitI_ne r)
    | cons v l =>
      have ih := split_bytes (t := r) fun z hz => h z (by simp [hz])
      rw [e] at ih
      rw [splitI_cons x r v l e, List.map_cons, split_cons 32 (toB x) _ _ _ ih]
      have q : (toB x = 32) ↔ (x = 32) := toB_eq (h x (by simp)) 32 (by decide)
      by_cases hx : x = 32
      · rw [if_pos hx, if_pos (q.mpr hx)]
        rfl
      · rw [if_neg hx, if_neg (fun z => hx (q.mp z))]
        rfl
/-! ### decimals -/
theorem digitsIn_fuel : ∀ (f g n : Nat), n < f → n < g → digitsIn f n = digitsIn g n
  | 0, _, n, h, _ => by omega
  | _, 0, n, _, h => by omega
  | f + 1, g + 1, n, h1, h2 => by
    show (if n < 10 then [] else digitsIn f (n / 10)) ++ _ = (if n < 10 then [] else digitsIn g (n / 10)) ++ _
    by_cases h : n < 10
    · rw [if_pos h, if_pos h]
    · rw [if_neg h, if_neg h, digitsIn_fuel f g (n / 10) (by omega) (by omega)]
theorem decimal_small {n : Nat} (h : n < 10) : decimal n = [UInt8.ofNat (48 + n)] := by
  show (if n < 10 then [] else digitsIn n (n / 10)) ++ [UInt8.ofNat (48 + n % 10)] = _
  rw [if_pos h, Nat.mod_eq_of_lt h]
  rfl
theorem decimal_step {n : Nat} (h : ¬ n < 10) : decimal n = decimal (n / 10) ++ [UInt8.ofNat (48 + n % 10)] := by
  show (if n < 10 then [] else digitsIn n (n / 10)) ++ [UInt8.ofNat (48 + n % 10)] = _
  rw [if_neg h]
  unfold decimal
  rw [digitsIn_fuel n (n / 10 + 1) (n / 10) (by omega) (by omega)]
theorem decimal_two {n : Nat} (h : ¬ n < 10) (h2 : n < 100) : decimal n = [UInt8.ofNat (48 + n / 10), UInt8.ofNat (48 + n % 10)] := by
  rw [decimal_step h, decimal_small (by omega)]
  rfl
theorem decimal_three {n : Nat} (h : ¬ n < 100) (h2 : n < 1000) : decimal n = [UInt8.ofNat (48 + n / 100), UInt8.ofNat (48 + n / 10 % 10), UInt8.ofNat (48 + n % 10)] := by
  rw [decimal_step (by omega), decimal_two (by omega) (by omega)]
  have : n / 10 / 10 = n / 100 := by omega
  rw [this]
  rfl
/-! ### a length read -/
def lenLoop : Int → List Int → Int
  | acc, [] => acc
  | acc, x :: r => if x < 48 ∨ x > 57 then 0 else if acc * 10 + x - 48 > 600 then 0 else lenLoop (acc * 10 + x - 48) r
def lenOf (d : List Int) : Int := if d = [] ∨ d.head? = some 48 then 0 else lenLoop 0 d
theorem isDigit_toB {z : Int} (h : Byte z) : isDigit (toB z) = true ↔ 48 ≤ z ∧ z ≤ 57 := by
  unfold isDigit
  rw [Bool.and_eq_true, decide_eq_true_iff, decide_eq_true_iff, UInt8.le_iff_toNat_le, UInt8.le_iff_toNat_le, toB_nat h]
  have h1 := h.1
  have h2 : (48 : UInt8).toNat = 48 := rfl
  have h3 : (57 : UInt8).toNat = 57 := rfl
  rw [h2, h3]
  omega
theorem toB_of {z : Int} {c : Nat} (h : z = (c : Int)) : toB z = UInt8.ofNat c := by
  unfold toB
  rw [h]
  rfl
theorem numberIn_some {b : Bytes} {n : Nat} : numberIn b = some n ↔ (b.length ≤ 3 ∧ b.all isDigit = true ∧ b = decimal n) ∧ n = b.foldl (fun (n : Nat) (c : UInt8) => 10 * n + (c.toNat - 48)) 0 := by
  unfold numberIn
  simp only
  split
  · rename_i h
    constructor
    · intro e
      have := Option.some.inj e
      rw [this] at h
      exact ⟨h, this.symm⟩
    · rintro ⟨_, e⟩
      rw [e]
  · rename_i h
    constructor
    · intro e; cases e
    · rintro ⟨h2, e⟩
      rw [← e] at h
      exact absurd h2 h
theorem lenLoop_one {acc x : Int} (hx : 48 ≤ x ∧ x ≤ 57) (r : List Int) : lenLoop acc (x :: r) = if acc * 10 + x - 48 > 600 then 0 else lenLoop (acc * 10 + x - 48) r := by
  rw [lenLoop, if_neg (by omega)]
theorem lenLoop_bad {acc x : Int} (hx : ¬ (48 ≤ x ∧ x ≤ 57)) (r : List Int) : lenLoop acc (x :: r) = 0 := by
  rw [lenLoop, if_pos (by omega)]
theorem toNat48 {z : Int} (h : Byte z) : (toB z).toNat - 48 = (z - 48).toNat := by
  rw [toB_nat h]
  omega
/-- what is read is a number of 1 to 600, in its one way -/
def valI (acc : Nat) (d : List Int) : Nat := d.foldl (fun n z => 10 * n + (z - 48).toNat) acc
theorem valI_cons (acc : Nat) (z : Int) (d : List Int) : valI acc (z :: d) = valI (10 * acc + (z - 48).toNat) d := rfl
theorem valI_snoc (acc : Nat) (d : List Int) (z : Int) : valI acc (d ++ [z]) = 10 * valI acc d + (z - 48).toNat := by
  unfold valI
  rw [List.foldl_append]
  rfl
theorem valI_le : ∀ (d : List Int) (acc : Nat), acc ≤ valI acc d
  | [], _ => Nat.le_refl _
  | z :: d, acc => by
    have := valI_le d (10 * acc + (z - 48).toNat)
    rw [valI_cons]
    omega
theorem valI_bytes : ∀ {d : List Int} (acc : Nat), (∀ z ∈ d, Byte z) → (d.map toB).foldl (fun (n : Nat) (c : UInt8) => 10 * n + (c.toNat - 48)) acc = valI acc d
  | [], _, _ => rfl
  | z :: d, acc, h => by
    have e : (toB z).toNat - 48 = (z - 48).toNat := toNat48 (h z (by simp))
    show (d.map toB).foldl _ (10 * acc + ((toB z).toNat - 48)) = _
    rw [e, valI_bytes _ fun y hy => h y (by simp [hy])]
    rfl
theorem loop_iff {n : Nat} (hn : n ≠ 0) : ∀ (d : List Int) (acc : Nat), acc ≤ 600 → (lenLoop (acc : Int) d = (n : Int) ↔ (∀ z ∈ d, 48 ≤ z ∧ z ≤ 57) ∧ valI acc d = n ∧ n ≤ 600)
  | [], acc, ha => by
    show ((acc : Int) = (n : Int)) ↔ _ ∧ acc = n ∧ _
    constructor
    · intro h
      have e : acc = n := by omega
      exact ⟨(fun z hz => nomatch hz), e, by omega⟩
    · intro h
      rw [h.2.1]
  | x :: r, acc, ha => by
    by_cases hx : 48 ≤ x ∧ x ≤ 57
    · rw [lenLoop_one hx]
      have e : (acc : Int) * 10 + x - 48 = ((10 * acc + (x - 48).toNat : Nat) : Int) := by omega
      rw [e, valI_cons]
      by_cases h6 : ((10 * acc + (x - 48).toNat : Nat) : Int) > 600
      · rw [if_pos h6]
        have := valI_le r (10 * acc + (x - 48).toNat)
        constructor
        · intro q
          omega
        · rintro ⟨_, q1, q2⟩
          omega
      · rw [if_neg h6, loop_iff hn r (10 * acc + (x - 48).toNat) (by omega)]
        constructor
        · rintro ⟨q1, q2⟩
          refine ⟨fun z hz => ?_, q2⟩
          rcases List.mem_cons.mp hz with rfl | hz
          · exact hx
          · exact q1 z hz
        · rintro ⟨q1, q2⟩
          exact ⟨fun z hz => q1 z (by simp [hz]), q2⟩
    · rw [lenLoop_bad hx]
      constructor
      · intro q
        omega
      · rintro ⟨q, _⟩
        exact absurd (q x (by simp)) hx
theorem dec_of : ∀ (k : Nat) (d : List Int), d.length = k + 1 → (∀ z ∈ d, 48 ≤ z ∧ z ≤ 57) → d.head? ≠ some 48 → decimal (valI 0 d) = d.map toB ∧ 1 ≤ valI 0 d
  | k, d, hl, hd, hh => by
    rcases List.eq_nil_or_concat d with rfl | ⟨m, x, rfl⟩
    · simp at hl
    · rw [List.concat_eq_append] at hl hd hh ⊢
      have hx := hd x (by simp)
      have ex : toB x = UInt8.ofNat (48 + (x - 48).toNat) := toB_of (by omega)
      rw [valI_snoc, List.map_append]
      cases m with
      | nil =>
        have h48 : x ≠ 48 := fun q => hh (by rw [q]; rfl)
        show decimal (10 * 0 + (x - 48).toNat) = [toB x] ∧ 1 ≤ 10 * 0 + (x - 48).toNat
        rw [Nat.mul_zero, Nat.zero_add, decimal_small (by omega), ex]
        exact ⟨rfl, by omega⟩
      | cons y m =>
        cases k with
        | zero => simp at hl
        | succ k =>
          obtain ⟨h1, h2⟩ := dec_of k (y :: m) (by simp at hl ⊢; omega) (fun z hz => hd z (List.mem_append_left _ hz)) (fun q => hh q)
          have e1 : (10 * valI 0 (y :: m) + (x - 48).toNat) / 10 = valI 0 (y :: m) := by omega
          have e2 : (10 * valI 0 (y :: m) + (x - 48).toNat) % 10 = (x - 48).toNat := by omega
          rw [decimal_step (by omega), e1, e2, h1, ← ex]
          exact ⟨rfl, by omega⟩
theorem dec_small {n : Nat} (h0 : 1 ≤ n) (h : n ≤ 600) : (decimal n).length ≤ 3 ∧ ∀ c, (decimal n).head? = some c → c ≠ 48 := by
  have ne0 : ∀ m, m < 10 → 1 ≤ m → UInt8.ofNat (48 + m) ≠ 48 := by decide
  have ne : ∀ m, 1 ≤ m → m < 10 → UInt8.ofNat (48 + m) ≠ 48 := fun m a b => ne0 m b a
  by_cases h10 : n < 10
  · rw [decimal_small h10]
    exact ⟨by simp, fun c hc => by cases hc; exact ne n h0 h10⟩
  by_cases h100 : n < 100
  · rw [decimal_two h10 h100]
    exact ⟨by simp, fun c hc => by cases hc; exact ne _ (by omega) (by omega)⟩
  · rw [decimal_three h100 (by omega)]
    exact ⟨by simp, fun c hc => by cases hc; exact ne _ (by omega) (by omega)⟩
theorem lenOf_number {d : List Int} (hb : ∀ z ∈ d, Byte z) (n : Nat) : (numberIn (d.map toB) = some n ∧ 1 ≤ n ∧ n ≤ 600) ↔ (lenOf d = (n : Int) ∧ n ≠ 0) := by
  rw [numberIn_some, valI_bytes 0 hb]
  have dig : (d.map toB).all isDigit = true ↔ ∀ z ∈ d, 48 ≤ z ∧ z ≤ 57 := by
    rw [List.all_map, List.all_eq_true]
    constructor
    · intro h z hz
      exact (isDigit_toB (hb z hz)).mp (h z hz)
    · intro h z hz
      exact (isDigit_toB (hb z hz)).mpr (h z hz)
  rw [dig]
  unfold lenOf
  constructor
  · rintro ⟨⟨⟨_, h2, h3⟩, h4⟩, h5, h6⟩
    have hs := dec_small h5 h6
    rw [← h3] at hs
    have hne : ¬ (d = [] ∨ d.head? = some 48) := by
      rintro (q | q)
      · rw [q] at h4
        have : n = 0 := h4
        omega
      · refine hs.2 48 ?_ rfl
        cases d with
        | nil => cases q
        | cons x d =>
          have e : x = 48 := Option.some.inj q
          subst e
          rfl
    rw [if_neg hne]
    exact ⟨(loop_iff (by omega) d 0 (by omega)).mpr ⟨h2, h4.symm, h6⟩, by omega⟩
  · rintro ⟨h, hn⟩
    by_cases hne : d = [] ∨ d.head? = some 48
    · rw [if_pos hne] at h
      omega
    · rw [if_neg hne] at h
      obtain ⟨h1, h2, h3⟩ := (loop_iff hn d 0 (by omega)).mp h
      have hd : d ≠ [] := fun q => hne (.inl q)
      have hl : 0 < d.length := List.length_pos_iff.mpr hd
      obtain ⟨h4, h5⟩ := dec_of (d.length - 1) d (by omega) h1 (fun q => hne (.inr q))
      rw [h2] at h4 h5
      refine ⟨⟨⟨?_, h1, h4.symm⟩, h2.symm⟩, h5, h3⟩
      rw [← h4]
      exact (dec_small h5 h3).1
theorem lenOf_nonneg : ∀ (d : List Int), 0 ≤ lenOf d := by
  have loop : ∀ (d : List Int) (acc : Int), 0 ≤ acc → 0 ≤ lenLoop acc d := by
    intro d
    induction d with
    | nil => intro acc h; exact h
    | cons x r ih =>
      intro acc h
      rw [lenLoop]
      split
      · exact Int.le_refl _
      · split
        · exact Int.le_refl _
        · exact ih _ (by omega)
  intro d
  unfold lenOf
  split
  · exact Int.le_refl _
  · exact loop d 0 (Int.le_refl _)
theorem lenOf_le : ∀ (d : List Int), lenOf d ≤ 600 := by
  have loop : ∀ (d : List Int) (acc : Int), acc ≤ 600 → lenLoop acc d ≤ 600 := by
    intro d
    induction d with
    | nil => intro acc h; exact h
    | cons x r ih =>
      intro acc h
      rw [lenLoop]
      split
      · omega
      · split
        · omega
        · exact ih _ (by omega)
  intro d
  unfold lenOf
  split
  · omega
  · exact loop d 0 (by omega)
/-! ### a phase read -/
def colIdx (c : Int) : Option Nat := if c = 45 then some 0 else if c = 87 then some 1 else if c = 82 then some 2 else if c = 71 then some 3 else if c = 89 then some 4 else none
def phaseOf : List Int → Option Phase
  | [] => none
  | c :: d => match colIdx c with
    | none => none
    | some k => if lenOf d = 0 then none else some (k, (lenOf d).toNat)
theorem phaseOf_cons (c : Int) (d : List Int) : phaseOf (c :: d) = match colIdx c with
    | none => none
    | some k => if lenOf d = 0 then none else some (k, (lenOf d).toNat) := rfl
theorem colIdx_signs {c : Int} (h : Byte c) : SIGNS.findIdx? (fun (s : UInt8) => s == toB c) = colIdx c := by
  have q : ∀ k : Nat, k < 256 → (UInt8.ofNat k == toB c) = decide (c = (k : Int)) := fun k hk => by
    have := toB_eq h k hk
    by_cases e : c = (k : Int)
    · rw [decide_eq_true e, beq_iff_eq]
      exact (this.mpr e).symm
    · rw [decide_eq_false e, beq_eq_false_iff_ne]
      exact fun z => e (this.mp z.symm)
  have q45 := q 45 (by decide)
  have q87 := q 87 (by decide)
  have q82 := q 82 (by decide)
  have q71 := q 71 (by decide)
  have q89 := q 89 (by decide)
  unfold SIGNS colIdx
  have e45 : ((45 : UInt8) == toB c) = decide (c = 45) := q45
  have e87 : ((87 : UInt8) == toB c) = decide (c = 87) := q87
  have e82 : ((82 : UInt8) == toB c) = decide (c = 82) := q82
  have e71 : ((71 : UInt8) == toB c) = decide (c = 71) := q71
  have e89 : ((89 : UInt8) == toB c) = decide (c = 89) := q89
  simp only [List.findIdx?_cons, List.findIdx?_nil, e45, e87, e82, e71, e89]
  by_cases h1 : c = 45
  · simp [h1]
  · by_cases h2 : c = 87
    · simp [h2]
    · by_cases h3 : c = 82
      · simp [h3]
      · by_cases h4 : c = 71
        · simp [h4]
        · by_cases h5 : c = 89
          · simp [h5]
          · simp [h1, h2, h3, h4, h5]
theorem phaseIn_bytes {w : List Int} (hb : ∀ z ∈ w, Byte z) : phaseIn (w.map toB) = phaseOf w := by
  cases w with
  | nil => rfl
  | cons c d =>
    have hc := hb c (by simp)
    have hd : ∀ z ∈ d, Byte z := fun z hz => hb z (by simp [hz])
    show (match SIGNS.findIdx? (fun (s : UInt8) => s == toB c), numberIn (d.map toB) with
      | some k, some n => if 1 ≤ n ∧ n ≤ LONG then some (k, n) else none
      | _, _ => none) = _
    rw [colIdx_signs hc]
    rw [phaseOf_cons]
    cases colIdx c with
    | none => rfl
    | some k =>
      simp only
      have hn := fun n => lenOf_number hd n
      have h0 := lenOf_nonneg d
      by_cases hz : lenOf d = 0
      · rw [if_pos hz]
        cases e : numberIn (d.map toB) with
        | none => rfl
        | some n =>
          simp only
          rw [if_neg]
          rintro ⟨h1, h2⟩
          have := (hn n).mp ⟨e, h1, h2⟩
          rw [hz] at this
          omega
      · rw [if_neg hz]
        have := (hn (lenOf d).toNat).mpr ⟨by omega, by omega⟩
        rw [this.1]
        simp only
        rw [if_pos ⟨this.2.1, this.2.2⟩]
theorem phaseOf_some {w : List Int} {x : Phase} (h : phaseOf w = some x) : x.1 ≤ 4 ∧ 1 ≤ x.2 ∧ x.2 ≤ 600 := by
  cases w with
  | nil => cases h
  | cons c d =>
    rw [phaseOf_cons] at h
    have h0 := lenOf_nonneg d
    have h6 := lenOf_le d
    cases e : colIdx c with
    | none => rw [e] at h; cases h
    | some k =>
      rw [e] at h
      simp only at h
      by_cases hz : lenOf d = 0
      · rw [if_pos hz] at h; cases h
      · rw [if_neg hz] at h
        cases h
        refine ⟨?_, by show 1 ≤ (lenOf d).toNat; omega, by show (lenOf d).toNat ≤ 600; omega⟩
        show k ≤ 4
        unfold colIdx at e
        by_cases h1 : c = 45
        · rw [if_pos h1] at e; cases e; omega
        · rw [if_neg h1] at e
          by_cases h2 : c = 87
          · rw [if_pos h2] at e; cases e; omega
          · rw [if_neg h2] at e
            by_cases h3 : c = 82
            · rw [if_pos h3] at e; cases e; omega
            · rw [if_neg h3] at e
              by_cases h4 : c = 71
              · rw [if_pos h4] at e; cases e; omega
              · rw [if_neg h4] at e
                by_cases h5 : c = 89
                · rw [if_pos h5] at e; cases e; omega
                · rw [if_neg h5] at e; cases e
/-! ### a rhythm read -/
/-- the first at fault: the number, or none -/
def faultFrom : Nat → Nat → List (List Int) → Option Nat
  | _, _, [] => none
  | k, sum, w :: r => match phaseOf w with
    | none => some k
    | some x => if k = 32 ∨ 6000 < sum + x.2 then some k else faultFrom (k + 1) (sum + x.2) r
theorem faultFrom_cons (k sum : Nat) (w : List Int) (r : List (List Int)) : faultFrom k sum (w :: r) = match phaseOf w with
    | none => some k
    | some x => if k = 32 ∨ 6000 < sum + x.2 then some k else faultFrom (k + 1) (sum + x.2) r := rfl
theorem phasesFrom_cons (k sum : Nat) (b : Bytes) (r : List Bytes) : phasesFrom k sum (b :: r) = match phaseIn b with
    | none => .error k
    | some x => if PHASES ≤ k ∨ ROUND < sum + x.2 then .error k else match phasesFrom (k + 1) (sum + x.2) r with
      | .error e => .error e
      | .ok l => .ok (x :: l) := rfl
theorem phasesFrom_bytes : ∀ (ws : List (List Int)) (k sum : Nat), k ≤ 32 → (∀ w ∈ ws, ∀ z ∈ w, Byte z) →
    phasesFrom k sum (ws.map (·.map toB)) = match faultFrom k sum ws with
      | some e => .error e
      | none => .ok (ws.filterMap phaseOf)
  | [], _, _, _, _ => rfl
  | w :: r, k, sum, hk, hb => by
    rw [List.map_cons, phasesFrom_cons, phaseIn_bytes (hb w (by simp))]
    rw [faultFrom_cons]
    cases e : phaseOf w with
    | none => rfl
    | some x =>
      simp only
      have hPH : PHASES = 32 := rfl
      have hRO : ROUND = 6000 := rfl
      rw [hPH, hRO]
      by_cases h : k = 32 ∨ 6000 < sum + x.2
      · rw [if_pos (by omega), if_pos h]
      · rw [if_neg (by omega), if_neg h, phasesFrom_bytes r (k + 1) (sum + x.2) (by omega) fun w hw => hb w (by simp [hw])]
        cases faultFrom (k + 1) (sum + x.2) r with
        | some e => rfl
        | none =>
          simp only
          rw [List.filterMap_cons, e]
theorem faultFrom_all : ∀ {ws : List (List Int)} {k sum : Nat}, faultFrom k sum ws = none → ∀ w ∈ ws, ∃ x, phaseOf w = some x
  | [], _, _, _, w, hw => by cases hw
  | v :: r, k, sum, h, w, hw => by
    rw [faultFrom_cons] at h
    cases e : phaseOf v with
    | none => rw [e] at h; cases h
    | some x =>
      rw [e] at h
      simp only at h
      by_cases hk : k = 32 ∨ 6000 < sum + x.2
      · rw [if_pos hk] at h; cases h
      · rw [if_neg hk] at h
        rcases List.mem_cons.mp hw with rfl | hw
        · exact ⟨x, e⟩
        · exact faultFrom_all h w hw
theorem faultFrom_len : ∀ {ws : List (List Int)} {k sum : Nat}, k ≤ 32 → faultFrom k sum ws = none → k + ws.length ≤ 32 ∧ sum + total (ws.filterMap phaseOf) ≤ (if ws = [] then sum else 6000)
  | [], k, sum, hk, _ => ⟨by simpa using hk, by simp [total]⟩
  | v :: r, k, sum, hk, h => by
    rw [faultFrom_cons] at h
    cases e : phaseOf v with
    | none => rw [e] at h; cases h
    | some x =>
      rw [e] at h
      simp only at h
      by_cases hk2 : k = 32 ∨ 6000 < sum + x.2
      · rw [if_pos hk2] at h; cases h
      · rw [if_neg hk2] at h
        have ih := faultFrom_len (k := k + 1) (by omega) h
        rw [if_neg (by simp), List.filterMap_cons, e]
        simp only
        rw [total_cons, List.length_cons]
        refine ⟨by omega, ?_⟩
        by_cases hr : r = []
        · rw [if_pos hr] at ih
          omega
        · rw [if_neg hr] at ih
          omega
/-- the text of bytes t: its first fault -/
def faultI (t : List Int) : Option Nat := faultFrom 0 0 (splitI t)
def rhyI (t : List Int) : Rhythm := (splitI t).filterMap phaseOf
theorem readRhythm_bytes {t : List Int} (h : ∀ z ∈ t, Byte z) : readRhythm (t.map toB) = match faultI t with
    | some e => .error e
    | none => .ok (rhyI t) := by
  unfold readRhythm faultI rhyI
  rw [split_bytes h]
  exact phasesFrom_bytes (splitI t) 0 0 (by omega) (splitI_bytes h)
theorem rhyI_pos (t : List Int) : Pos (rhyI t) := by
  intro x hx
  obtain ⟨w, _, e⟩ := List.mem_filterMap.mp hx
  exact (phaseOf_some e).2.1
theorem filterMap_length {α β : Type} {g : α → Option β} : ∀ {l : List α}, (∀ w ∈ l, ∃ x, g w = some x) → (l.filterMap g).length = l.length
  | [], _ => rfl
  | w :: l, h => by
    obtain ⟨x, e⟩ := h w (by simp)
    rw [List.filterMap_cons, e]
    simp only
    rw [List.length_cons, List.length_cons, filterMap_length fun w hw => h w (by simp [hw])]
theorem rhyI_ne {t : List Int} (h : faultI t = none) : rhyI t ≠ [] := by
  intro e
  have hl := filterMap_length (faultFrom_all h)
  unfold rhyI at e
  rw [e] at hl
  have := List.length_pos_iff.mpr (splitI_ne t)
  rw [← hl] at this
  simp at this
theorem rhyI_small {t : List Int} (h : faultI t = none) : (rhyI t).length ≤ 32 ∧ total (rhyI t) ≤ 6000 := by
  have := faultFrom_len (by omega) h
  have hl := filterMap_length (faultFrom_all h)
  rw [if_neg (splitI_ne t)] at this
  unfold rhyI
  omega
end Lt
end
section
set_option Elab.async false
namespace Lt
open Bn Wqatdx
/-! ### the program's road to the form -/
def joinStep (acc : Rhythm) (x : Phase) : Rhythm := match acc.getLast? with
  | some z => if z.1 = x.1 then acc.dropLast ++ [(x.1, z.2 + x.2)] else acc ++ [x]
  | none => [x]
theorem joinStep_nil (x : Phase) : joinStep [] x = [x] := rfl
theorem joinStep_snoc (a : Rhythm) (z x : Phase) : joinStep (a ++ [z]) x = if z.1 = x.1 then a ++ [(x.1, z.2 + x.2)] else a ++ [z] ++ [x] := by
  unfold joinStep
  rw [List.getLast?_concat, List.dropLast_concat]
theorem mrg_joinStep (x y : Phase) : ∀ m : Rhythm, m ≠ [] → mrg x (joinStep m y) = joinStep (mrg x m) y := by
  intro m hm
  obtain ⟨a, z, rfl⟩ := snoc_cases m hm
  rw [joinStep_snoc]
  cases a with
  | nil =>
    rw [List.nil_append, List.nil_append, mrg_cons]
    by_cases h1 : z.1 = y.1
    · rw [if_pos h1, mrg_cons]
      by_cases h2 : x.1 = z.1
      · rw [if_pos (h2.trans h1), if_pos h2]
        have : ([(x.1, x.2 + z.2)] : Rhythm) = [] ++ [(x.1, x.2 + z.2)] := rfl
        rw [this, joinStep_snoc, if_pos (show (x.1, x.2 + z.2).1 = y.1 from h2.trans h1)]
        show [(x.1, x.2 + (z.2 + y.2))] = [(y.1, x.2 + z.2 + y.2)]
        rw [h2.trans h1, Nat.add_assoc]
      · rw [if_neg (fun q => h2 (q.trans h1.symm)), if_neg h2]
        have : ([x, z] : Rhythm) = [x] ++ [z] := rfl
        rw [this, joinStep_snoc, if_pos h1]
        rfl
    · rw [if_neg h1]
      show mrg x (z :: [y]) = _
      rw [mrg_cons]
      by_cases h2 : x.1 = z.1
      · rw [if_pos h2, if_pos h2]
        have : ([(x.1, x.2 + z.2)] : Rhythm) = [] ++ [(x.1, x.2 + z.2)] := rfl
        rw [this, joinStep_snoc, if_neg (show ¬ (x.1, x.2 + z.2).1 = y.1 from fun q => h1 (h2 ▸ q))]
        rfl
      · rw [if_neg h2, if_neg h2]
        have : ([x, z] : Rhythm) = [x] ++ [z] := rfl
        rw [this, joinStep_snoc, if_neg h1]
        rfl
  | cons u a =>
    have e1 : ∀ l : Rhythm, mrg x (u :: a ++ l) = mrg x (u :: a) ++ l := fun l => by
      rw [List.cons_append, mrg_cons, mrg_cons]
      split <;> rfl
    rw [e1, joinStep_snoc]
    by_cases h1 : z.1 = y.1
    · rw [if_pos h1, if_pos h1, e1]
    · rw [if_neg h1, if_neg h1, List.append_assoc, e1, List.append_assoc]
theorem joined_snoc (y : Phase) : ∀ l : Rhythm, joined (l ++ [y]) = joinStep (joined l) y
  | [] => rfl
  | [x] => by
    rw [List.cons_append, List.nil_append, joined_cons]
    show mrg x [y] = joinStep ([] ++ [x]) y
    rw [joinStep_snoc, mrg_cons]
    by_cases h : x.1 = y.1
    · rw [if_pos h, if_pos h, h]
      rfl
    · rw [if_neg h, if_neg h]
      rfl
  | x :: z :: l => by
    rw [List.cons_append, joined_cons, joined_snoc y (z :: l), joined_cons x, mrg_joinStep x y _ (joined_ne (by simp))]
def leadOf (runs : Rhythm) : Nat := match runs.head?, runs.getLast? with
  | some x, some z => if 1 < runs.length ∧ x.1 = z.1 then x.2 else 0
  | _, _ => 0
def roundOf (runs : Rhythm) : Rhythm := if 0 < leadOf runs then joined (runs.drop 1 ++ runs.take 1) else runs
theorem lead_snoc (x z : Phase) (m : Rhythm) : leadOf (x :: (m ++ [z])) = if x.1 = z.1 then x.2 else 0 := by
  unfold leadOf
  rw [← List.cons_append, List.getLast?_concat]
  simp only [List.cons_append, List.head?_cons]
  by_cases h : x.1 = z.1
  · rw [if_pos h, if_pos ⟨by simp, h⟩]
  · rw [if_neg h, if_neg (fun q => h q.2)]
theorem round_turns {r : Rhythm} (hp : Pos r) (h2 : 2 ≤ (joined r).length) : Cyc (roundOf (joined r)) ∧ Pos (roundOf (joined r)) ∧ Go r (roundOf (joined r)) (leadOf (joined r)) := by
  have pj := hp.joined
  have aj := alt_joined r
  have cj := colourAt_joined r
  generalize joined r = j at h2 pj aj cj
  match j, h2 with
  | [], h2 => simp at h2
  | [x], h2 => simp at h2
  | x :: y :: l, _ =>
    obtain ⟨m, z, hmz⟩ := snoc_cases (y :: l) (by simp)
    rw [hmz] at pj aj cj ⊢
    unfold roundOf
    have hx := pj.cons.1
    have pmz := pj.cons.2
    have pm := Pos.append.mp pmz
    have hz : 1 ≤ z.2 := pm.2 z (by simp)
    rw [lead_snoc]
    by_cases e : x.1 = z.1
    · rw [if_pos e, if_pos (show 0 < x.2 by omega)]
      have amz : Alt (m ++ [z]) := aj.tail
      have hm : m ≠ [] := by
        intro q
        rw [q] at aj
        exact aj.1 e
      have e1 : joined ((x :: (m ++ [z])).drop 1 ++ (x :: (m ++ [z])).take 1) = m ++ [(x.1, z.2 + x.2)] := by
        show joined ((m ++ [z]) ++ [x]) = _
        rw [joined_snoc, joined_alt amz, joinStep_snoc, if_pos e.symm]
      rw [e1]
      obtain ⟨u, hu⟩ := head_some hm
      have hxu : x.1 ≠ u.1 := by
        cases m with
        | nil => cases hu
        | cons v m =>
          cases hu
          exact aj.1
      have a1 := alt_append.mp amz
      refine ⟨⟨?_, ?_, ?_⟩, ?_, ?_⟩
      · rw [List.length_append]
        have := List.length_pos_iff.mpr hm
        show 2 ≤ m.length + 1
        omega
      · refine alt_append.mpr ⟨a1.1, trivial, fun a b ha hb => ?_⟩
        cases hb
        show a.1 ≠ x.1
        rw [e]
        exact a1.2.2 a z ha rfl
      · intro a b ha hb
        rw [List.getLast?_concat] at ha
        cases ha
        have : b = u := by
          cases m with
          | nil => cases hu
          | cons v m =>
            cases hu
            cases hb
            rfl
        rw [this]
        exact hxu
      · refine Pos.append.mpr ⟨pm.1, fun a ha => ?_⟩
        have : a = (x.1, z.2 + x.2) := by simpa using ha
        rw [this]
        show 1 ≤ z.2 + x.2
        omega
      · intro t
        rw [← cj]
        -- from x on: m ++ [z] ++ [x]
        have e2 : colourAt ((m ++ [z]) ++ [x]) t = colourAt ([x] ++ (m ++ [z])) (total [x] + t) := colourAt_swap [x] (m ++ [z]) (by rw [total_cons]; omega) t
        have e3 : total [x] = x.2 := by rw [total_cons, total_nil, Nat.add_zero]
        rw [e3] at e2
        show colourAt ([x] ++ (m ++ [z])) (x.2 + t) = _
        rw [← e2, ← colourAt_joined, joined_snoc, joined_alt amz, joinStep_snoc, if_pos e.symm]
    · rw [if_neg e, if_neg (by omega)]
      refine ⟨⟨by simp, aj, ?_⟩, pj, fun t => by rw [Nat.zero_add, cj]⟩
      intro a b ha hb
      have hl : (x :: (m ++ [z])).getLast? = some z := by
        rw [← List.cons_append]
        exact List.getLast?_concat
      rw [hl] at ha
      cases ha
      cases hb
      exact fun q => e q.symm
theorem onceOf_first {R : Rhythm} {d : Nat} (h1 : 1 ≤ d) (hd : d ≤ R.length) (hp : pow (R.take d) (R.length / d) = R) (hmin : ∀ c, 1 ≤ c → c < d → pow (R.take c) (R.length / c) ≠ R) : onceOf R = R.take d := by
  have test : ∀ d, ((R.length % (d + 1) == 0 && (List.replicate (R.length / (d + 1)) (R.take (d + 1))).flatten == R) = true) ↔ (R.length % (d + 1) = 0 ∧ pow (R.take (d + 1)) (R.length / (d + 1)) = R) := fun d => by
    simp [pow]
  have hmod : R.length % d = 0 := by
    have := congrArg List.length hp
    rw [length_pow, List.length_take, Nat.min_eq_left hd] at this
    rw [← this, Nat.mul_mod_left]
  have e1 : d - 1 + 1 = d := by omega
  have hf : (List.range R.length).find? (fun (d : Nat) => R.length % (d + 1) == 0 && (List.replicate (R.length / (d + 1)) (R.take (d + 1))).flatten == R) = some (d - 1) := by
    refine List.find?_range_eq_some.mpr ⟨(test (d - 1)).mpr ?_, List.mem_range.mpr (by omega), fun c hc => ?_⟩
    · rw [e1]
      exact ⟨hmod, hp⟩
    · rw [Bool.not_eq_true']
      cases e : (R.length % (c + 1) == 0 && (List.replicate (R.length / (c + 1)) (R.take (c + 1))).flatten == R) with
      | false => rfl
      | true => exact absurd ((test c).mp e).2 (hmin (c + 1) (by omega) (by omega))
  unfold onceOf
  rw [hf]
  show R.take (d - 1 + 1) = _
  rw [e1]
theorem onceOf_all {R : Rhythm} (hn : R ≠ []) (hmin : ∀ c, 1 ≤ c → c < R.length → pow (R.take c) (R.length / c) ≠ R) : onceOf R = R := by
  have h0 : 0 < R.length := List.length_pos_iff.mpr hn
  have := onceOf_first (R := R) (d := R.length) h0 (Nat.le_refl _) (by rw [List.take_length, Nat.div_self h0, pow_one]) hmin
  rw [List.take_length] at this
  exact this
theorem form_one {r : Rhythm} {x : Phase} (hp : Pos r) (hn : r ≠ []) (h : joined r = [x]) : form r = [(x.1, 1)] ∧ period r = 0 := by
  have hf := form_is hp hn
  have hc : ∀ t, colourAt r t = x.1 := fun t => by
    rw [← colourAt_joined, h]
    have htot := total_joined r
    rw [h, total_cons, total_nil] at htot
    have := total_pos hp hn
    unfold colourAt
    rw [total_cons, total_nil, colourIn_cons, if_pos (by rw [Nat.add_zero]; exact Nat.mod_lt _ (by omega))]
  have e : form r = [(x.1, 1)] := by
    have := FormOf.unique (u := 0) hf (FormOf.still x.1 hc) (total_pos hp hn) (fun t => by rw [Nat.zero_add])
    exact this
  refine ⟨e, ?_⟩
  unfold period
  rw [e]
theorem form_two {r : Rhythm} (hp : Pos r) (hn : r ≠ []) (h2 : 2 ≤ (joined r).length) :
    leastTurn (onceOf (roundOf (joined r))) = form r ∧ Canon (form r) ∧ period r = total (onceOf (roundOf (joined r))) ∧
      ∀ k, turned (onceOf (roundOf (joined r))) k = form r → Go r (form r) (leadOf (joined r) + total ((onceOf (roundOf (joined r))).take k)) := by
  obtain ⟨c, p, g⟩ := round_turns hp h2
  generalize roundOf (joined r) = R at c p g
  have ht : Turns R R := ⟨c, p, ⟨0, fun t => by rw [Nat.zero_add]⟩, rfl⟩
  obtain ⟨c1, c2, c3, c4⟩ := once_turns ht
  have cl := canon_least c1 c2 c3
  generalize onceOf R = w at c1 c2 c3 c4 cl
  have hw := total_pos c2 c1.ne
  have go : ∀ k, Go r (turned w k) (leadOf (joined r) + total (w.take k)) := fun k t => by
    rw [colourAt_turned w k hw, ← c4, ← g, Nat.add_assoc]
  obtain ⟨⟨k, hk, ek⟩, _⟩ := leastTurn_spec w c1.ne
  have e : leastTurn w = form r := by
    refine FormOf.unique (u := 0) (FormOf.turns (leadOf (joined r) + total (w.take k)) cl ?_) (form_is hp hn) (total_pos hp hn) (fun t => by rw [Nat.zero_add])
    rw [ek]
    exact go k
  refine ⟨e, by rw [← e]; exact cl, ?_, fun j hj => ?_⟩
  · rw [period_of_cyc (by rw [← e]; exact cl.cyc.two), ← e, ek, total_turned]
  · have := go j
    rw [hj] at this
    exact this
end Lt
end
section
set_option Elab.async false
namespace Lt
open Bn Wqatdx
/-! ### the form goes as the rhythm does -/
theorem colourAt_one (c t : Nat) : colourAt [(c, 1)] t = c := by
  unfold colourAt
  rw [total_cons, total_nil, colourIn_cons, if_pos (by show t % 1 < 1; omega)]
theorem form_go {r : Rhythm} (hp : Pos r) (hn : r ≠ []) : (∃ b, Go r (form r) b) ∧ Pos (form r) ∧ form r ≠ [] := by
  have h := form_is hp hn
  generalize form r = f at h
  cases h with
  | still c hc =>
    refine ⟨⟨0, fun t => by rw [hc, colourAt_one]⟩, fun x hx => ?_, by simp⟩
    have : x = (c, 1) := by simpa using hx
    rw [this]
    exact Nat.le_refl 1
  | turns b cf hb => exact ⟨⟨b, hb⟩, cf.pos, cf.cyc.ne⟩
theorem form_same {r s : Rhythm} (pr : Pos r) (nr : r ≠ []) (ps : Pos s) (ns : s ≠ []) {u : Nat} (h : ∀ t, colourAt r (u + t) = colourAt s t) : form r = form s :=
  FormOf.unique (form_is pr nr) (form_is ps ns) (total_pos pr nr) h
/-! ### colours changed alike -/
def mapC (g : Nat → Nat) (r : Rhythm) : Rhythm := r.map fun x => (g x.1, x.2)
theorem total_mapC (g : Nat → Nat) : ∀ r, total (mapC g r) = total r
  | [] => rfl
  | x :: l => by
    show total ((g x.1, x.2) :: mapC g l) = _
    rw [total_cons, total_cons, total_mapC g l]
theorem colourIn_mapC (g : Nat → Nat) : ∀ (r : Rhythm) (t : Nat), t < total r → colourIn (mapC g r) t = g (colourIn r t)
  | [], t, h => by simp [total] at h
  | x :: l, t, h => by
    show colourIn ((g x.1, x.2) :: mapC g l) t = _
    rw [total_cons] at h
    rw [colourIn_cons, colourIn_cons]
    by_cases h1 : t < x.2
    · rw [if_pos h1, if_pos h1]
    · rw [if_neg h1, if_neg h1, colourIn_mapC g l (t - x.2) (by omega)]
theorem colourAt_mapC (g : Nat → Nat) {r : Rhythm} (hp : 0 < total r) (t : Nat) : colourAt (mapC g r) t = g (colourAt r t) := by
  unfold colourAt
  rw [total_mapC, colourIn_mapC g r _ (Nat.mod_lt _ hp)]
theorem Pos.mapC {g : Nat → Nat} {r : Rhythm} (h : Pos r) : Pos (mapC g r) := fun x hx => by
  obtain ⟨y, hy, rfl⟩ := List.mem_map.mp hx
  exact h y hy
theorem mapC_ne {g : Nat → Nat} {r : Rhythm} (h : r ≠ []) : mapC g r ≠ [] := by
  cases r with
  | nil => exact absurd rfl h
  | cons x l => simp [mapC]
theorem form_mapC (g : Nat → Nat) {r : Rhythm} (hp : Pos r) (hn : r ≠ []) : form (mapC g (form r)) = form (mapC g r) := by
  obtain ⟨⟨b, hb⟩, pf, nf⟩ := form_go hp hn
  refine (form_same (u := b) hp.mapC (mapC_ne hn) pf.mapC (mapC_ne nf) fun t => ?_).symm
  rw [colourAt_mapC g (total_pos hp hn), colourAt_mapC g (total_pos pf nf), hb]
theorem form_form {r : Rhythm} (hp : Pos r) (hn : r ≠ []) : form (form r) = form r := by
  obtain ⟨⟨b, hb⟩, pf, nf⟩ := form_go hp hn
  exact (form_same (u := b) hp hn pf nf hb).symm
theorem plain_eq (r : Rhythm) : plain r = form (mapC (fun c => min c 1) r) := rfl
theorem plain_form {r : Rhythm} (hp : Pos r) (hn : r ≠ []) : plain (form r) = plain r := by
  rw [plain_eq, plain_eq]
  exact form_mapC _ hp hn
/-! ### which colours come in it -/
theorem colourIn_mem : ∀ {r : Rhythm} {t : Nat}, t < total r → ∃ x ∈ r, x.1 = colourIn r t
  | [], t, h => by simp [total] at h
  | x :: l, t, h => by
    rw [total_cons] at h
    rw [colourIn_cons]
    by_cases h1 : t < x.2
    · exact ⟨x, by simp, by rw [if_pos h1]⟩
    · rw [if_neg h1]
      obtain ⟨y, hy, e⟩ := colourIn_mem (r := l) (t := t - x.2) (by omega)
      exact ⟨y, by simp [hy], e⟩
theorem mem_colourIn : ∀ {r : Rhythm} {x : Phase}, Pos r → x ∈ r → ∃ t, t < total r ∧ colourIn r t = x.1
  | [], x, _, h => by cases h
  | y :: l, x, hp, h => by
    have hy := hp.cons.1
    rcases List.mem_cons.mp h with rfl | h
    · exact ⟨0, by rw [total_cons]; omega, colourIn_first hp⟩
    · obtain ⟨t, h1, h2⟩ := mem_colourIn hp.cons.2 h
      refine ⟨t + y.2, by rw [total_cons]; omega, ?_⟩
      rw [colourIn_cons, if_neg (by omega), Nat.add_sub_cancel]
      exact h2
theorem any_colour {r : Rhythm} (hp : Pos r) (hn : r ≠ []) (c : Nat) : (r.any fun (x : Phase) => x.1 == c) = true ↔ ∃ t, colourAt r t = c := by
  rw [List.any_eq_true]
  constructor
  · rintro ⟨x, hx, e⟩
    obtain ⟨t, h1, h2⟩ := mem_colourIn hp hx
    exact ⟨t, by rw [colourAt_lt h1, h2]; exact beq_iff_eq.mp e⟩
  · rintro ⟨t, e⟩
    obtain ⟨x, hx, e2⟩ := colourIn_mem (Nat.mod_lt t (total_pos hp hn))
    refine ⟨x, hx, beq_iff_eq.mpr ?_⟩
    rw [e2]
    exact e
theorem any_go {r f : Rhythm} {b : Nat} (pr : Pos r) (nr : r ≠ []) (pf : Pos f) (nf : f ≠ []) (h : Go r f b) (c : Nat) : (r.any fun (x : Phase) => x.1 == c) = (f.any fun (x : Phase) => x.1 == c) := by
  have h1 := any_colour pr nr c
  have h2 := any_colour pf nf c
  have h3 : (∃ t, colourAt r t = c) ↔ ∃ t, colourAt f t = c := by
    constructor
    · rintro ⟨t, e⟩
      exact ⟨_, by rw [← h.back (total_pos pr nr) t]; exact e⟩
    · rintro ⟨t, e⟩
      exact ⟨_, by rw [h t]; exact e⟩
  rw [Bool.eq_iff_iff, h1, h2]
  exact h3
theorem colours_form {r : Rhythm} (hp : Pos r) (hn : r ≠ []) : colours (form r) = colours r := by
  obtain ⟨⟨b, hb⟩, pf, nf⟩ := form_go hp hn
  unfold colours
  congr 1
  funext c
  exact (any_go hp hn pf nf hb c).symm
theorem character_form {r : Rhythm} (hp : Pos r) (hn : r ≠ []) : character (form r) = character r := by
  unfold character
  have e1 := colours_form hp hn
  have e2 := plain_form hp hn
  have e3 : period (form r) = period r := by
    unfold period
    rw [form_form hp hn]
  rw [e1, e2, e3]
/-! ### the next other colour -/
theorem period_again {r : Rhythm} (hp : Pos r) (hn : r ≠ []) (x : Nat) : colourAt r (x + period r) = colourAt r x := by
  obtain ⟨⟨b, hb⟩, pf, nf⟩ := form_go hp hn
  by_cases h2 : 2 ≤ (form r).length
  · rw [period_of_cyc h2]
    exact hb.again (total_pos hp hn) x
  · have : period r = 0 := by
      unfold period
      generalize form r = f at h2
      match f, h2 with
      | [], _ => rfl
      | [x], _ => rfl
      | x :: y :: l, h => simp at h
    rw [this, Nat.add_zero]
theorem still_of {r : Rhythm} (hp : Pos r) (hn : r ≠ []) (h : period r = 0) : ∃ c, ∀ t, colourAt r t = c := by
  have hf := form_is hp hn
  have hfp := (form_go hp hn).2.1
  unfold period at h
  generalize form r = f at hf h hfp
  cases hf with
  | still c hc => exact ⟨c, hc⟩
  | turns b cf hb =>
    exfalso
    have h2 := cf.cyc.two
    match f, h2, h with
    | [], h2, _ => simp at h2
    | [x], h2, _ => simp at h2
    | x :: y :: l, _, h =>
      have := total_pos hfp (by simp)
      have h' : total (x :: y :: l) = 0 := h
      omega
theorem again_mul {g : Nat → Nat} {p : Nat} (h : ∀ x, g (x + p) = g x) : ∀ k x, g (x + k * p) = g x
  | 0, x => by rw [Nat.zero_mul, Nat.add_zero]
  | k + 1, x => by rw [Nat.succ_mul, ← Nat.add_assoc, h, again_mul h k x]
/-- none: the colour never is another -/
theorem nextOf_none {r : Rhythm} {z : Nat} (hp : Pos r) (hn : r ≠ []) (h : ∀ t, colourAt r t = colourAt r z) : nextOf r z = none := by
  unfold nextOf
  have : (List.range (period r)).find? (fun (i : Nat) => colourAt r (z + i + 1) != colourAt r z) = none := by
    rw [List.find?_eq_none]
    intro i _
    rw [h]
    simp
  rw [this]
  rfl
/-- the first time behind z at which the colour is another -/
theorem nextOf_some {r : Rhythm} {z n : Nat} (hp : Pos r) (hn : r ≠ []) (hz : z < n) (hne : colourAt r n ≠ colourAt r z) (hall : ∀ m, z < m → m < n → colourAt r m = colourAt r z) : nextOf r z = some n := by
  have per := period_again hp hn
  have hlt : n - z - 1 < period r := by
    rcases Nat.lt_or_ge (n - z - 1) (period r) with h | h
    · exact h
    · exfalso
      by_cases h0 : period r = 0
      · obtain ⟨c, hc⟩ := still_of hp hn h0
        exact hne (by rw [hc, hc])
      · -- n is more than a period behind z
        have e : colourAt r (n - period r) = colourAt r n := by
          rw [← per (n - period r)]
          congr 1
          omega
        by_cases h1 : n - period r = z
        · rw [h1] at e
          exact hne e.symm
        · have := hall (n - period r) (by omega) (by omega)
          rw [e] at this
          exact hne this
  have hf : (List.range (period r)).find? (fun (i : Nat) => colourAt r (z + i + 1) != colourAt r z) = some (n - z - 1) := by
    refine List.find?_range_eq_some.mpr ⟨?_, List.mem_range.mpr hlt, fun j hj => ?_⟩
    · have e : z + (n - z - 1) + 1 = n := by omega
      rw [e, bne_iff_ne]
      exact hne
    · have := hall (z + j + 1) (by omega) (by omega)
      rw [this]
      simp
  unfold nextOf
  rw [hf]
  show some (z + (n - z - 1) + 1) = some n
  congr 1
  omega
end Lt
end
section
set_option Elab.async false
namespace Lt
open Bn
/-! ### the calls of a list -/
inductive CallIs : List (List Int) → Prop
  | one (p : Int) (t : List Int) : (p = 0 ∨ p = 1 ∨ p = 6 ∨ p = 7) → (∀ z ∈ t, Byte z) → CallIs [[p], t]
  | two (p : Int) (t u : List Int) : (p = 2 ∨ p = 3) → (∀ z ∈ t, Byte z) → (∀ z ∈ u, Byte z) → CallIs [[p], t, u]
  | timed (p z : Int) (t : List Int) : (p = 4 ∨ p = 5) → 0 ≤ z → z < 4294967296 → (∀ z ∈ t, Byte z) → CallIs [[p, z], t]
theorem bytes_all {t : List Int} (h : (t.all fun (z : Int) => WqatdxNeutral.natural z 8) = true) : ∀ z ∈ t, Byte z := fun z hz => by
  have := List.all_eq_true.mp h z hz
  unfold WqatdxNeutral.natural at this
  rw [Bool.and_eq_true, decide_eq_true_iff, decide_eq_true_iff] at this
  exact ⟨this.1, by have := this.2; omega⟩
theorem shaped {c : List (List Int)} (h : PyFlat.okCall PyWqatdx.shape c) : (∃ p t, c = [[p], t] ∧ (p = 0 ∨ p = 1 ∨ p = 6 ∨ p = 7)) ∨ (∃ p t u, c = [[p], t, u] ∧ (p = 2 ∨ p = 3)) ∨ ∃ p z t, c = [[p, z], t] ∧ (p = 4 ∨ p = 5) := by
  obtain ⟨p, a, xs, rfl, hs⟩ := h
  have one : some (0, 1) = some (a.length, xs.length) → (p = 0 ∨ p = 1 ∨ p = 6 ∨ p = 7) → ∃ p' t, (p :: a) :: xs = [[p'], t] ∧ (p' = 0 ∨ p' = 1 ∨ p' = 6 ∨ p' = 7) := by
    intro e hp
    injection e with e
    injection e with e1 e2
    have ha := List.eq_nil_of_length_eq_zero e1.symm
    obtain ⟨t, ht⟩ := List.length_eq_one_iff.mp e2.symm
    exact ⟨p, t, by rw [ha, ht], hp⟩
  have two : some (0, 2) = some (a.length, xs.length) → (p = 2 ∨ p = 3) → ∃ p' t u, (p :: a) :: xs = [[p'], t, u] ∧ (p' = 2 ∨ p' = 3) := by
    intro e hp
    injection e with e
    injection e with e1 e2
    have ha := List.eq_nil_of_length_eq_zero e1.symm
    match xs, e2 with
    | [t, u], _ => exact ⟨p, t, u, by rw [ha], hp⟩
  have timed : some (1, 1) = some (a.length, xs.length) → (p = 4 ∨ p = 5) → ∃ p' z t, (p :: a) :: xs = [[p', z], t] ∧ (p' = 4 ∨ p' = 5) := by
    intro e hp
    injection e with e
    injection e with e1 e2
    obtain ⟨z, hz⟩ := List.length_eq_one_iff.mp e1.symm
    obtain ⟨t, ht⟩ := List.length_eq_one_iff.mp e2.symm
    exact ⟨p, z, t, by rw [hz, ht], hp⟩
  unfold PyWqatdx.shape at hs
  by_cases h0 : p = 0
  · rw [if_pos h0] at hs
    exact .inl (one hs (.inl h0))
  rw [if_neg h0] at hs
  by_cases h1 : p = 1
  · rw [if_pos h1] at hs
    exact .inl (one hs (.inr (.inl h1)))
  rw [if_neg h1] at hs
  by_cases h2 : p = 2
  · rw [if_pos h2] at hs
    exact .inr (.inl (two hs (.inl h2)))
  rw [if_neg h2] at hs
  by_cases h3 : p = 3
  · rw [if_pos h3] at hs
    exact .inr (.inl (two hs (.inr h3)))
  rw [if_neg h3] at hs
  by_cases h4 : p = 4
  · rw [if_pos h4] at hs
    exact .inr (.inr (timed hs (.inl h4)))
  rw [if_neg h4] at hs
  by_cases h5 : p = 5
  · rw [if_pos h5] at hs
    exact .inr (.inr (timed hs (.inr h5)))
  rw [if_neg h5] at hs
  by_cases h6 : p = 6
  · rw [if_pos h6] at hs
    exact .inl (one hs (.inr (.inr (.inl h6))))
  rw [if_neg h6] at hs
  by_cases h7 : p = 7
  · rw [if_pos h7] at hs
    exact .inl (one hs (.inr (.inr (.inr h7))))
  rw [if_neg h7] at hs
  cases hs
theorem asked1_is {c : List (List Int)} (hs : PyFlat.okCall PyWqatdx.shape c) (h : WqatdxNeutral.asked1 c = true) : CallIs c := by
  have nat32 : ∀ {z : Int}, WqatdxNeutral.natural z 32 = true → 0 ≤ z ∧ z < 4294967296 := fun {z} q => by
    unfold WqatdxNeutral.natural at q
    rw [Bool.and_eq_true, decide_eq_true_iff, decide_eq_true_iff] at q
    exact ⟨q.1, by have := q.2; omega⟩
  have tm : ∀ {z : Int} {t : List Int}, (WqatdxNeutral.natural z 32 && t.all (fun (z : Int) => WqatdxNeutral.natural z 8)) = true → (0 ≤ z ∧ z < 4294967296) ∧ ∀ z ∈ t, Byte z := fun q => by
    rw [Bool.and_eq_true] at q
    exact ⟨nat32 q.1, bytes_all q.2⟩
  have tt : ∀ {t u : List Int}, (t.all (fun (z : Int) => WqatdxNeutral.natural z 8) && u.all (fun (z : Int) => WqatdxNeutral.natural z 8)) = true → (∀ z ∈ t, Byte z) ∧ ∀ z ∈ u, Byte z := fun q => by
    rw [Bool.and_eq_true] at q
    exact ⟨bytes_all q.1, bytes_all q.2⟩
  rcases shaped hs with ⟨p, t, rfl, hp⟩ | ⟨p, t, u, rfl, hp⟩ | ⟨p, z, t, rfl, hp⟩
  · refine .one p t hp ?_
    rcases hp with rfl | rfl | rfl | rfl <;> exact bytes_all h
  · have q : (∀ z ∈ t, Byte z) ∧ ∀ z ∈ u, Byte z := by
      rcases hp with rfl | rfl <;> exact tt h
    exact .two p t u hp q.1 q.2
  · have q : (0 ≤ z ∧ z < 4294967296) ∧ ∀ z ∈ t, Byte z := by
      rcases hp with rfl | rfl <;> exact tm h
    exact .timed p z t hp q.1.1 q.1.2 q.2
theorem whole_id {c : List (List Int)} (hs : PyFlat.okCall PyWqatdx.shape c) : PyWqatdx.whole c = c := by
  rcases shaped hs with ⟨p, t, rfl, hp⟩ | ⟨p, t, u, rfl, hp⟩ | ⟨p, z, t, rfl, hp⟩
  · rcases hp with rfl | rfl | rfl | rfl <;> rfl
  · rcases hp with rfl | rfl <;> rfl
  · rcases hp with rfl | rfl <;> rfl
def ans1 (c : List (List Int)) : List Int := (WqatdxNeutral.step () c).2
theorem played_map : ∀ cs : List (List (List Int)), PyFlat.played WqatdxNeutral.step WqatdxNeutral.start cs = cs.map ans1
  | [] => rfl
  | c :: cs => by
    show (WqatdxNeutral.step WqatdxNeutral.start c).2 :: PyFlat.played WqatdxNeutral.step (WqatdxNeutral.step WqatdxNeutral.start c).1 cs = ans1 c :: cs.map ans1
    have e : (WqatdxNeutral.step WqatdxNeutral.start c).1 = WqatdxNeutral.start := rfl
    rw [e, played_map cs]
    rfl
theorem flat_spec {l : List Int} (h : PyWqatdx.answers_asked l = true) : ∃ cs, l = PyFlat.put cs ∧ (∀ c ∈ cs, CallIs c) ∧ cs.length ≤ 400 ∧ PyWqatdx.answers l = PyFlat.told (cs.map ans1) := by
  unfold PyWqatdx.answers_asked at h
  unfold PyWqatdx.answers
  unfold PyWqatdx.calls at h ⊢
  cases e : PyFlat.calls PyWqatdx.shape l.length l with
  | none => rw [e] at h; cases h
  | some cs =>
    rw [e] at h
    simp only at h
    have hp := PyFlat.put_calls _ _ _ e
    have hw : cs.map PyWqatdx.whole = cs := by
      have q : ∀ l : List (List (List Int)), (∀ c ∈ l, PyFlat.okCall PyWqatdx.shape c) → l.map PyWqatdx.whole = l := by
        intro l
        induction l with
        | nil => intro _; rfl
        | cons c l ih =>
          intro q
          rw [List.map_cons, whole_id (q c (by simp)), ih fun d hd => q d (by simp [hd])]
      exact q cs hp.2
    rw [hw, Bool.and_eq_true] at h
    have h2 := h.2
    unfold WqatdxNeutral.asked at h2
    rw [Bool.and_eq_true, Bool.and_eq_true, Bool.and_eq_true] at h2
    refine ⟨cs, hp.1, fun c hc => asked1_is (hp.2 c hc) (List.all_eq_true.mp h2.1.1.1 c hc), by simpa using h2.1.2, ?_⟩
    simp only
    rw [hw, played_map]
theorem told_append (a b : List (List Int)) : PyFlat.told (a ++ b) = PyFlat.told a ++ PyFlat.told b := by
  simp [PyFlat.told]
theorem put_append : ∀ (a b : List (List (List Int))), PyFlat.put (a ++ b) = PyFlat.put a ++ PyFlat.put b
  | [], b => rfl
  | c :: a, b => by
    show PyFlat.put1 c ++ PyFlat.put (a ++ b) = (PyFlat.put1 c ++ PyFlat.put a) ++ PyFlat.put b
    rw [put_append a b, List.append_assoc]
end Lt
end
section
set_option Elab.async false
namespace Lt
open Bn Wqatdx
def ofT (t : List Int) (f : Rhythm → List Int) : List Int := if 1024 < t.length then [-2] else match faultI t with
  | some k => [-6, ((k : Nat) : Int)]
  | none => f (rhyI t)
/-- an answer as the list tells it -/
def flatA (a : Ans) : List Int := a.ret :: a.nums.map WqatdxNeutral.int
def bytesI (b : Bytes) : List Int := b.map fun c => ((c.toNat : Nat) : Int)
theorem of_flat {t : List Int} (h : ∀ z ∈ t, Byte z) (f : Rhythm → Ans) : flatA (of_ (WqatdxNeutral.bytes t) f) = ofT t fun r => flatA (f r) := by
  unfold of_ ofT
  have hT : TEXT = 1024 := rfl
  rw [bytes_eq, List.length_map, hT, readRhythm_bytes h]
  by_cases hl : 1024 < t.length
  · rw [if_pos hl, if_pos hl]
    rfl
  · rw [if_neg hl, if_neg hl]
    cases faultI t with
    | some k => rfl
    | none => rfl
theorem flat_bytes (b : Bytes) : flatA (bytesOut b) = ((b.length : Nat) : Int) :: bytesI b := by
  unfold flatA bytesOut bytesI
  simp only [List.map_map]
  rfl
theorem ofT_congr {t : List Int} {f g : Rhythm → List Int} (h : f (rhyI t) = g (rhyI t)) : ofT t f = ofT t g := by
  unfold ofT
  split
  · rfl
  · cases faultI t with
    | some k => rfl
    | none => exact h
theorem ans_judge {t : List Int} (h : ∀ z ∈ t, Byte z) : ans1 [[0], t] = ofT t fun r => [((r.length : Nat) : Int)] := of_flat h _
theorem ans_form {t : List Int} (h : ∀ z ∈ t, Byte z) : ans1 [[1], t] = ofT t fun r => (((Rhythm.text (form r)).length : Nat) : Int) :: bytesI (Rhythm.text (form r)) := by
  have e : ans1 [[1], t] = flatA (of_ (WqatdxNeutral.bytes t) fun r => bytesOut (Rhythm.text (form r))) := rfl
  rw [e, of_flat h]
  exact ofT_congr (flat_bytes _)
theorem ans_same {t u : List Int} (h : ∀ z ∈ t, Byte z) (g : ∀ z ∈ u, Byte z) : ans1 [[2], t, u] = ofT t fun r => ofT u fun s => [if form r = form s then 1 else 0] := by
  have e : ans1 [[2], t, u] = flatA (of_ (WqatdxNeutral.bytes t) fun r => of_ (WqatdxNeutral.bytes u) fun s => says (if form r = form s then 1 else 0)) := rfl
  rw [e, of_flat h]
  refine ofT_congr ?_
  rw [of_flat g]
  rfl
theorem ans_shift {t u : List Int} (h : ∀ z ∈ t, Byte z) (g : ∀ z ∈ u, Byte z) : ans1 [[3], t, u] = ofT t fun r => ofT u fun s => [match shiftOf r s with | none => (-3 : Int) | some k => ((k : Nat) : Int)] := by
  have e : ans1 [[3], t, u] = flatA (of_ (WqatdxNeutral.bytes t) fun r => of_ (WqatdxNeutral.bytes u) fun s => match shiftOf r s with
    | none => NO
    | some k => says (k : Nat)) := rfl
  rw [e, of_flat h]
  refine ofT_congr ?_
  rw [of_flat g]
  refine ofT_congr ?_
  cases shiftOf (rhyI t) (rhyI u) <;> rfl
theorem ans_at {t : List Int} {z : Int} (h : ∀ z ∈ t, Byte z) (hz : 0 ≤ z) : ans1 [[4, z], t] = ofT t fun r => [if 1000000 < z then (-1 : Int) else ((colourAt r z.toNat : Nat) : Int)] := by
  have e : ans1 [[4, z], t] = flatA (of_ (WqatdxNeutral.bytes t) fun r => if TIME < z.toNat then says (-1) else says (colourAt r z.toNat : Nat)) := rfl
  rw [e, of_flat h]
  refine ofT_congr ?_
  have hT : TIME = 1000000 := rfl
  rw [hT]
  by_cases hl : 1000000 < z
  · rw [if_pos hl, if_pos (by omega)]
    rfl
  · rw [if_neg hl, if_neg (by omega)]
    rfl
theorem ans_next {t : List Int} {z : Int} (h : ∀ z ∈ t, Byte z) (hz : 0 ≤ z) : ans1 [[5, z], t] = ofT t fun r => [if 1000000 < z then (-1 : Int) else match nextOf r z.toNat with | none => (-3 : Int) | some n => ((n : Nat) : Int)] := by
  have e : ans1 [[5, z], t] = flatA (of_ (WqatdxNeutral.bytes t) fun r => if TIME < z.toNat then says (-1) else match nextOf r z.toNat with
    | none => NO
    | some n => says (n : Nat)) := rfl
  rw [e, of_flat h]
  refine ofT_congr ?_
  have hT : TIME = 1000000 := rfl
  rw [hT]
  by_cases hl : 1000000 < z
  · rw [if_pos hl, if_pos (by omega)]
    rfl
  · rw [if_neg hl, if_neg (by omega)]
    cases nextOf (rhyI t) z.toNat <;> rfl
def litOf (r : Rhythm) : Nat := (((form r).filter fun (x : Phase) => x.1 != 0).map fun (x : Phase) => x.2).sum
theorem ans_period {t : List Int} (h : ∀ z ∈ t, Byte z) : ans1 [[6], t] = ofT t fun r => [((period r : Nat) : Int), ((litOf r : Nat) : Int), ((flashes r : Nat) : Int)] := of_flat h _
theorem ans_character {t : List Int} (h : ∀ z ∈ t, Byte z) : ans1 [[7], t] = ofT t fun r => (((character r).length : Nat) : Int) :: bytesI (character r) := by
  have e : ans1 [[7], t] = flatA (of_ (WqatdxNeutral.bytes t) fun r => bytesOut (character r)) := rfl
  rw [e, of_flat h]
  exact ofT_congr (flat_bytes _)
end Lt
end
section
set_option Elab.async false
namespace Lt
open Bn
/-! ### decimals, as Python writes them -/
theorem digitChar_nat : ∀ d : Nat, d < 10 → (Nat.digitChar d).toNat = 48 + d := by decide
theorem decimal_digits (n : Nat) : bytesI (decimal n) = (Nat.toDigits 10 n).map fun c => ((c.toNat : Nat) : Int) := by
  induction n using Nat.strongRecOn with
  | _ n ih =>
    have hb : ∀ d, d < 10 → (((UInt8.ofNat (48 + d)).toNat : Nat) : Int) = (((Nat.digitChar d).toNat : Nat) : Int) := fun d hd => by
      rw [digitChar_nat d hd, UInt8.toNat_ofNat_of_lt' (by show 48 + d < 256; omega)]
    by_cases h : n < 10
    · rw [decimal_small h, Nat.toDigits_of_lt_base h]
      show [(((UInt8.ofNat (48 + n)).toNat : Nat) : Int)] = [(((Nat.digitChar n).toNat : Nat) : Int)]
      rw [hb n h]
    · rw [decimal_step h, Nat.toDigits_of_base_le (by decide) (by omega)]
      unfold bytesI
      rw [List.map_append, List.map_append]
      have := ih (n / 10) (by omega)
      unfold bytesI at this
      rw [this]
      show _ ++ [(((UInt8.ofNat (48 + n % 10)).toNat : Nat) : Int)] = _ ++ [(((Nat.digitChar (n % 10)).toNat : Nat) : Int)]
      rw [hb (n % 10) (Nat.mod_lt _ (by decide))]
theorem decimal_ne (n : Nat) : decimal n ≠ [] := by
  by_cases h : n < 10
  · rw [decimal_small h]; simp
  · rw [decimal_step h]; simp
/-! ### a rhythm written -/
theorem spaced_cons2 (w v : Bytes) (r : List Bytes) : spaced (w :: v :: r) = w ++ (32 :: spaced (v :: r)) := rfl
theorem spaced_snoc : ∀ (ws : List Bytes) (w : Bytes), ws ≠ [] → spaced (ws ++ [w]) = spaced ws ++ (32 :: w)
  | [], _, h => absurd rfl h
  | [v], w, _ => rfl
  | v :: u :: ws, w, _ => by
    show spaced (v :: u :: (ws ++ [w])) = spaced (v :: u :: ws) ++ _
    have ih := spaced_snoc (u :: ws) w (by simp)
    rw [spaced_cons2, spaced_cons2, List.append_assoc]
    have : spaced (u :: (ws ++ [w])) = spaced (u :: ws) ++ 32 :: w := ih
    rw [this]
    rfl
theorem spaced_ne : ∀ (ws : List Bytes), ws ≠ [] → (∀ w ∈ ws, w ≠ []) → spaced ws ≠ []
  | [], h, _ => absurd rfl h
  | [v], _, h => h v (by simp)
  | v :: u :: ws, _, h => by
    rw [spaced_cons2]
    simp
/-- the byte of a colour -/
def signI (c : Nat) : Int := match c with
  | 0 => 45
  | 1 => 87
  | 2 => 82
  | 3 => 71
  | 4 => 89
  | _ => 45
theorem signI_eq (c : Nat) : (((SIGNS.getD c 45).toNat : Nat) : Int) = signI c := by
  match c with
  | 0 => rfl
  | 1 => rfl
  | 2 => rfl
  | 3 => rfl
  | 4 => rfl
  | c + 5 => rfl
def digI (n : Nat) : List Int := (Nat.toDigits 10 n).map fun c => ((c.toNat : Nat) : Int)
theorem phase_text (x : Phase) : bytesI (Phase.text x) = signI x.1 :: digI x.2 := by
  unfold Phase.text
  show (((SIGNS.getD x.1 45).toNat : Nat) : Int) :: bytesI (decimal x.2) = _
  rw [signI_eq, decimal_digits]
  rfl
def textI (r : Rhythm) : List Int := bytesI (Rhythm.text r)
theorem textI_nil : textI [] = [] := rfl
theorem textI_ne {r : Rhythm} (h : r ≠ []) : textI r ≠ [] := by
  unfold textI bytesI Rhythm.text
  intro e
  rw [List.map_eq_nil_iff] at e
  refine spaced_ne _ (by simpa using h) (fun w hw => ?_) e
  obtain ⟨x, _, rfl⟩ := List.mem_map.mp hw
  simp [Phase.text]
theorem textI_snoc (r : Rhythm) (x : Phase) : textI (r ++ [x]) = (if 0 < (textI r).length then textI r ++ [32] else textI r) ++ [signI x.1] ++ digI x.2 := by
  by_cases h : r = []
  · subst h
    show bytesI (Phase.text x) = _
    rw [phase_text]
    rfl
  · have hp : 0 < (textI r).length := List.length_pos_iff.mpr (textI_ne h)
    rw [if_pos hp]
    unfold textI Rhythm.text
    rw [List.map_append]
    show bytesI (spaced (r.map Phase.text ++ [Phase.text x])) = _
    rw [spaced_snoc _ _ (by simpa using h)]
    have e : bytesI (spaced (r.map Phase.text) ++ 32 :: Phase.text x) = bytesI (spaced (r.map Phase.text)) ++ (32 :: bytesI (Phase.text x)) := by
      unfold bytesI
      rw [List.map_append]
      rfl
    rw [e, phase_text]
    simp
theorem digI_len (n : Nat) (h : n < 10000000) : (digI n).length ≤ 7 := by
  unfold digI
  rw [List.length_map]
  have step : ∀ m, ¬ m < 10 → (Nat.toDigits 10 m).length = (Nat.toDigits 10 (m / 10)).length + 1 := fun m hm => by
    rw [Nat.toDigits_of_base_le (by decide) (by omega), List.length_append]
    rfl
  have one : ∀ m, m < 10 → (Nat.toDigits 10 m).length = 1 := fun m hm => by
    rw [Nat.toDigits_of_lt_base hm]
    rfl
  by_cases h1 : n < 10
  · rw [one n h1]; omega
  · rw [step n h1]
    by_cases h2 : n / 10 < 10
    · rw [one _ h2]; omega
    · rw [step _ h2]
      by_cases h3 : n / 10 / 10 < 10
      · rw [one _ h3]; omega
      · rw [step _ h3]
        by_cases h4 : n / 10 / 10 / 10 < 10
        · rw [one _ h4]; omega
        · rw [step _ h4]
          by_cases h5 : n / 10 / 10 / 10 / 10 < 10
          · rw [one _ h5]; omega
          · rw [step _ h5]
            by_cases h6 : n / 10 / 10 / 10 / 10 / 10 < 10
            · rw [one _ h6]; omega
            · rw [step _ h6]
              rw [one _ (by omega)]
              omega
theorem textI_len : ∀ (r : Rhythm), (∀ x ∈ r, x.2 < 10000000) → (textI r).length ≤ 9 * r.length := by
  have key : ∀ (n : Nat) (r : Rhythm), r.length = n → (∀ x ∈ r, x.2 < 10000000) → (textI r).length ≤ 9 * r.length := by
    intro n
    induction n with
    | zero =>
      intro r h _
      have : r = [] := List.eq_nil_of_length_eq_zero h
      rw [this]
      exact Nat.le_refl _
    | succ n ih =>
      intro r h hb
      have hne : r ≠ [] := by
        intro e
        rw [e] at h
        simp at h
      obtain ⟨m, z, rfl⟩ := snoc_cases r hne
      have hm : m.length = n := by
        rw [List.length_append] at h
        simpa using h
      have := ih m hm fun x hx => hb x (by simp [hx])
      have hd := digI_len z.2 (hb z (by simp))
      rw [textI_snoc, List.length_append, List.length_append, List.length_append]
      show _ + 1 + _ ≤ 9 * (m.length + 1)
      split
      · rw [List.length_append]
        show _ + 1 + 1 + _ ≤ _
        omega
      · omega
  exact fun r => key r.length r rfl
theorem total_mem : ∀ {r : Rhythm} {x : Phase}, x ∈ r → x.2 ≤ total r
  | [], x, h => by cases h
  | y :: r, x, h => by
    rw [total_cons]
    rcases List.mem_cons.mp h with rfl | h
    · omega
    · have := total_mem h
      omega
/-- the form is no longer than the rhythm -/
theorem form_total {r : Rhythm} (hp : Pos r) (hn : r ≠ []) : total (form r) ≤ total r ∧ (form r).length ≤ total r := by
  have hf := form_is hp hn
  have hT := total_pos hp hn
  have hl : ∀ {f : Rhythm}, Pos f → f.length ≤ total f := by
    intro f
    induction f with
    | nil => intro _; exact Nat.le_refl _
    | cons x l ih =>
      intro h
      have := ih h.cons.2
      have := h.cons.1
      rw [total_cons, List.length_cons]
      omega
  have hfp := (form_go hp hn).2.1
  generalize form r = f at hf hfp
  have key : total f ≤ total r := by
    cases hf with
    | still c _ => rw [total_cons, total_nil]; omega
    | turns b cf hb =>
      have : total r % total f = 0 := period_dvd cf.cyc cf.pos cf.prim fun x => by
        rw [← hb, ← hb]
        have : b + (total r + x) = b + x + total r := by omega
        rw [this, colourAt_total]
      exact Nat.le_of_dvd hT (Nat.dvd_of_mod_eq_zero this)
  exact ⟨key, Nat.le_trans (hl hfp) key⟩
end Lt
end
section
set_option Elab.async false
set_option linter.all false
namespace Lt
open Bn Wqatdx
/-! ### from a time on -/
structure AtT (r : Rhythm) (z k g : Nat) (x : Phase) : Prop where
  at_ : r[k]? = some x
  lt : g < x.2
  eq : z % total r = total (r.take k) + g
def fromR (r : Rhythm) (k g : Nat) (x : Phase) : Rhythm := (x.1, x.2 - g) :: (r.drop (k + 1) ++ r.take k)
variable {r : Rhythm} {z k g : Nat} {x : Phase}
theorem turned_at (h : r[k]? = some x) : turned r k = x :: (r.drop (k + 1) ++ r.take k) := by
  obtain ⟨hk, e⟩ := List.getElem?_eq_some_iff.mp h
  unfold turned
  rw [List.drop_eq_getElem_cons hk, e]
  rfl
theorem from_total (h : AtT r z k g x) : total (fromR r k g x) + g = total r := by
  have e := turned_at h.at_
  have t := total_turned r k
  rw [e, total_cons] at t
  unfold fromR
  rw [total_cons]
  have := h.lt
  show x.2 - g + total (r.drop (k + 1) ++ r.take k) + g = total r
  omega
theorem at_turn (h : AtT r z k g x) (hp : 0 < total r) (t : Nat) : colourAt r (z + t) = colourAt (turned r k) (g + t) := by
  rw [colourAt_turned r k hp]
  apply colourAt_congr
  rw [Nat.add_mod, h.eq, ← Nat.add_assoc, Nat.add_mod_mod]
theorem from_colour (h : AtT r z k g x) (hp : 0 < total r) {t : Nat} (ht : t < total (fromR r k g x)) : colourAt r (z + t) = colourIn (fromR r k g x) t := by
  have hT := from_total h
  have lt := h.lt
  rw [at_turn h hp, colourAt_lt (by rw [total_turned]; omega), turned_at h.at_, colourIn_cons]
  unfold fromR
  rw [colourIn_cons]
  show _ = if t < x.2 - g then x.1 else colourIn (r.drop (k + 1) ++ r.take k) (t - (x.2 - g))
  by_cases h1 : g + t < x.2
  · rw [if_pos h1, if_pos (by omega)]
  · rw [if_neg h1, if_neg (by omega)]
    congr 1
    omega
theorem from_back (h : AtT r z k g x) (hp : 0 < total r) {t : Nat} (h1 : total (fromR r k g x) ≤ t) (h2 : t < total r) : colourAt r (z + t) = x.1 := by
  have hT := from_total h
  have lt := h.lt
  rw [at_turn h hp]
  have e : colourAt (turned r k) (g + t) = colourAt (turned r k) (g + t - total r) := by
    rw [← colourAt_total (turned r k) (g + t - total r), total_turned]
    congr 1
    omega
  rw [e, colourAt_lt (by rw [total_turned]; omega), turned_at h.at_, colourIn_cons, if_pos (by omega)]
theorem from_pos (h : AtT r z k g x) (p : Pos r) : Pos (fromR r k g x) := by
  intro y hy
  have lt := h.lt
  unfold fromR at hy
  rcases List.mem_cons.mp hy with e | hy
  · rw [e]
    show 1 ≤ x.2 - g
    omega
  · rcases List.mem_append.mp hy with m | m
    · exact p y (List.mem_of_mem_drop m)
    · exact p y (List.mem_of_mem_take m)
theorem from_first (h : AtT r z k g x) (p : Pos r) (hp : 0 < total r) : colourAt r z = x.1 := by
  have fp := from_pos h p
  have := from_colour h hp (t := 0) (total_pos fp (by simp [fromR]))
  rw [Nat.add_zero] at this
  rw [this]
  unfold fromR
  rw [colourIn_cons, if_pos]
  show 0 < x.2 - g
  have := h.lt
  omega
theorem next_none (h : AtT r z k g x) (p : Pos r) (hn : r ≠ []) {y : Phase} (hj : joined (fromR r k g x) = [y]) : nextOf r z = none := by
  have hp := total_pos p hn
  have first := from_first h p hp
  refine nextOf_none p hn fun t => ?_
  obtain ⟨u, hu, e⟩ : ∃ u, u < total r ∧ colourAt r t = colourAt r (z + u) := by
    refine ⟨(t + (total r - z % total r)) % total r, Nat.mod_lt _ hp, ?_⟩
    apply colourAt_congr
    have hz := Nat.mod_lt z hp
    rw [Nat.add_mod_mod]
    have e1 : z + (t + (total r - z % total r)) = t + (z - z % total r + total r) := by
      have := Nat.mod_le z (total r)
      omega
    rw [e1]
    have e2 : z - z % total r = z / total r * total r := by
      have := Nat.div_add_mod z (total r)
      rw [Nat.mul_comm] at this
      omega
    rw [e2, ← Nat.add_assoc, Nat.add_mod_right, Nat.add_mul_mod_self_right]
  rw [e, first]
  by_cases hlt : u < total (fromR r k g x)
  · rw [from_colour h hp hlt, ← colourIn_joined, hj, colourIn_cons]
    have ht := total_joined (fromR r k g x)
    rw [hj, total_cons, total_nil] at ht
    rw [if_pos (by omega)]
    have f0 := from_colour h hp (t := 0) (by omega)
    rw [Nat.add_zero, first, ← colourIn_joined, hj, colourIn_cons, if_pos (by omega)] at f0
    exact f0.symm
  · exact from_back h hp (by omega) hu
theorem next_some (h : AtT r z k g x) (p : Pos r) (hn : r ≠ []) {y y2 : Phase} {l : Rhythm} (hj : joined (fromR r k g x) = y :: y2 :: l) : nextOf r z = some (z + y.2) := by
  have hp := total_pos p hn
  have fp := from_pos h p
  have jp := Pos.joined fp
  have ja := alt_joined (fromR r k g x)
  rw [hj] at jp ja
  have ht := total_joined (fromR r k g x)
  rw [hj, total_cons, total_cons] at ht
  have y1 := jp.cons.1
  have y21 := jp.cons.2.cons.1
  have col : ∀ t, t < total (fromR r k g x) → colourAt r (z + t) = colourIn (y :: y2 :: l) t := fun t q => by rw [from_colour h hp q, ← colourIn_joined, hj]
  have c0 := col 0 (by omega)
  rw [Nat.add_zero, colourIn_cons, if_pos (by omega)] at c0
  refine nextOf_some p hn (by omega) ?_ fun m h1 h2 => ?_
  · rw [col y.2 (by omega), c0, colourIn_cons, if_neg (by omega), Nat.sub_self, colourIn_cons, if_pos (by omega)]
    exact fun q => ja.1 q.symm
  · have := col (m - z) (by omega)
    rw [show z + (m - z) = m by omega, colourIn_cons, if_pos (by omega)] at this
    rw [this, c0]
end Lt
end
section
set_option Elab.async false
set_option linter.all false
namespace Lt
open Bn Wqatdx
/-! ### how long a form is -/
theorem leastTurn_length {r : Rhythm} (h : r ≠ []) : (leastTurn r).length = r.length := by
  obtain ⟨⟨k, hk, e⟩, _⟩ := leastTurn_spec r h
  rw [e]
  unfold turned
  rw [List.length_append, List.length_drop, List.length_take]
  omega
theorem joined_length : ∀ r : Rhythm, (joined r).length ≤ r.length
  | [] => Nat.le_refl _
  | x :: l => by
    have ih := joined_length l
    rw [joined_cons]
    cases e : joined l with
    | nil => simp [mrg]
    | cons z m =>
      rw [e] at ih
      rw [mrg_cons]
      rw [List.length_cons] at ih ⊢
      split <;> simp only [List.length_cons] <;> omega
theorem closed_length (r : Rhythm) : (closed r).length ≤ (joined r).length := by
  unfold closed
  match joined r with
  | [] => exact Nat.le_refl _
  | [x] => exact Nat.le_refl _
  | x :: y :: l =>
    simp only
    cases h : (y :: l).getLast? with
    | none => simp
    | some z =>
      simp only
      split
      · rw [List.length_cons, List.length_dropLast]
        simp
      · exact Nat.le_refl _
theorem once_length (R : Rhythm) : (onceOf R).length ≤ R.length := by
  unfold onceOf
  split
  · exact Nat.le_refl _
  · rw [List.length_take]
    omega
theorem form_length (r : Rhythm) : (form r).length ≤ r.length := by
  unfold form
  by_cases h : onceOf (closed r) = []
  · rw [h]
    exact Nat.zero_le _
  · rw [leastTurn_length h]
    exact Nat.le_trans (once_length _) (Nat.le_trans (closed_length r) (joined_length r))
/-! ### light and dark by turns -/
def weave : List Nat → List Nat → Rhythm
  | d :: ds, l :: ls => (0, d) :: (1, l) :: weave ds ls
  | _, _ => []
theorem weave_of : ∀ (n : Nat) (p : Rhythm), p.length ≤ n → Alt p → (∀ x ∈ p, x.1 ≤ 1) → (∀ x, p.head? = some x → x.1 = 0) → (∀ x, p.getLast? = some x → x.1 = 1) → ∃ ds ls, ds.length = ls.length ∧ p = weave ds ls
  | _, [], _, _, _, _, _ => ⟨[], [], rfl, rfl⟩
  | _, [x], _, _, _, h1, h2 => by
    have a := h1 x rfl
    have b := h2 x rfl
    omega
  | 0, _ :: _ :: _, h, _, _, _, _ => by simp at h
  | n + 1, x :: y :: l, h, ha, hc, h1, h2 => by
    have hx := h1 x rfl
    have hy : y.1 = 1 := by
      have := hc y (by simp)
      have := ha.1
      omega
    have hl : ∀ z, l.head? = some z → z.1 = 0 := by
      intro z hz
      cases l with
      | nil => cases hz
      | cons w l =>
        cases hz
        have := ha.2.1
        have := hc z (by simp)
        omega
    have hlast : ∀ z, l.getLast? = some z → z.1 = 1 := by
      intro z hz
      cases l with
      | nil => cases hz
      | cons w l =>
        apply h2 z
        rw [List.getLast?_cons_cons, List.getLast?_cons_cons]
        exact hz
    obtain ⟨ds, ls, e1, e2⟩ := weave_of n l (by simp at h; omega) (ha.2.tail) (fun z hz => hc z (by simp [hz])) hl hlast
    refine ⟨x.2 :: ds, y.2 :: ls, by simp [e1], ?_⟩
    rw [weave, ← e2, ← hx, ← hy]
theorem weave_lights : ∀ {ds ls : List Nat}, ds.length = ls.length → ((weave ds ls).filter fun (x : Phase) => decide (x.1 = 1)).map (fun (x : Phase) => x.2) = ls
  | [], [], _ => rfl
  | d :: ds, l :: ls, h => by
    have ih := weave_lights (ds := ds) (ls := ls) (by simpa using h)
    rw [weave, List.filter_cons_of_neg (by simp), List.filter_cons_of_pos (by simp), List.map_cons, ih]
theorem weave_darks : ∀ {ds ls : List Nat}, ds.length = ls.length → ((weave ds ls).filter fun (x : Phase) => decide (x.1 = 0)).map (fun (x : Phase) => x.2) = ds
  | [], [], _ => rfl
  | d :: ds, l :: ls, h => by
    have ih := weave_darks (ds := ds) (ls := ls) (by simpa using h)
    rw [weave, List.filter_cons_of_pos (by simp), List.filter_cons_of_neg (by simp), List.map_cons, ih]
theorem pairsIn_weave : ∀ {ds ls : List Nat} (l d : Nat), ds.length = ls.length → pairsIn ((1, l) :: (weave ds ls ++ [(0, d)])) = (l :: ls).zip (ds ++ [d])
  | [], [], l, d, _ => rfl
  | d' :: ds, l' :: ls, l, d, h => by
    have ih := pairsIn_weave (ds := ds) (ls := ls) l' d (by simpa using h)
    rw [weave]
    show (l, d') :: pairsIn ((1, l') :: (weave ds ls ++ [(0, d)])) = _
    rw [ih]
    rfl
def turn1 {α : Type} (l : List α) : List α := l.drop 1 ++ l.take 1
theorem pairs_weave : ∀ {ds ls : List Nat}, ds.length = ls.length → pairs (weave ds ls) = ls.zip (turn1 ds)
  | [], [], _ => rfl
  | d :: ds, l :: ls, h => by
    unfold pairs
    rw [weave]
    show pairsIn (if (0 : Nat) = 0 then turned ((0, d) :: (1, l) :: weave ds ls) 1 else _) = _
    rw [if_pos rfl]
    exact pairsIn_weave l d (by simpa using h)
/-- the plain form of a rhythm that is dark and lit -/
theorem plain_weave {r : Rhythm} (hp : Pos r) (hn : r ≠ []) (h2 : (plain r).length ≠ 1) : ∃ ds ls, ds.length = ls.length ∧ ds ≠ [] ∧ plain r = weave ds ls ∧ (∀ d ∈ ds, 1 ≤ d) ∧ ∀ l ∈ ls, 1 ≤ l := by
  have hpm := Pos.mapC (g := fun c => min c 1) hp
  have hnm := mapC_ne (g := fun c => min c 1) hn
  have hf := form_is hpm hnm
  rw [← plain_eq] at hf
  have col : ∀ x ∈ plain r, x.1 ≤ 1 := by
    intro x hx
    obtain ⟨⟨b, gb⟩, pf, nf⟩ := form_go hpm hnm
    rw [← plain_eq] at gb pf nf
    obtain ⟨t, ht, e⟩ := mem_colourIn pf hx
    rw [← e, ← colourAt_lt ht, ← gb, colourAt_mapC _ (total_pos hp hn)]
    exact Nat.min_le_right _ _
  generalize plain r = p at hf h2 col
  cases hf with
  | still c h => exact absurd rfl h2
  | turns b cn h =>
    have cyc := cn.cyc
    have two := cyc.two
    obtain ⟨x, hx⟩ := head_some cyc.ne
    obtain ⟨y, hy⟩ := last_some cyc.ne
    have ne := cyc.ends y x hy hx
    have mx : x ∈ p := List.mem_of_head? hx
    have my : y ∈ p := List.mem_of_getLast? hy
    have hx0 : x.1 = 0 := by
      rcases Nat.eq_zero_or_pos x.1 with h0 | h0
      · exact h0
      · exfalso
        have hx1 := col x mx
        have hy1 := col y my
        -- the turn that begins with the second one comes first
        match p, hx, two, cn with
        | z :: z2 :: l, hx, two, cn =>
          have ez : z = x := Option.some.inj hx
          have := cn.least 1 (by simp)
          have alt := cn.cyc.alt.1
          have z2c := col z2 (by simp)
          have z20 : z2.1 < z.1 := by
            rw [ez] at alt ⊢
            omega
          have hb : rowBefore (turned (z :: z2 :: l) 1) (z :: z2 :: l) = true := by
            show rowBefore (z2 :: (l ++ [z])) (z :: z2 :: l) = true
            rw [rowBefore_cons]
            exact .inl z20
          rw [hb] at this
          cases this
    have hy1 : y.1 = 1 := by
      have := col y my
      omega
    obtain ⟨ds, ls, e1, e2⟩ := weave_of p.length p (Nat.le_refl _) cyc.alt col (fun z hz => by rw [hx] at hz; cases hz; exact hx0) (fun z hz => by rw [hy] at hz; cases hz; exact hy1)
    refine ⟨ds, ls, e1, ?_, e2, ?_, ?_⟩
    · intro q
      rw [q] at e2
      rw [e2] at two
      simp [weave] at two
    · intro d hd
      have hm := weave_darks e1
      rw [← e2] at hm
      rw [← hm] at hd
      obtain ⟨z, hz, ez⟩ := List.mem_map.mp hd
      rw [← ez]
      exact cn.pos z (List.mem_filter.mp hz).1
    · intro d hd
      have hm := weave_lights e1
      rw [← e2] at hm
      rw [← hm] at hd
      obtain ⟨z, hz, ez⟩ := List.mem_map.mp hd
      rw [← ez]
      exact cn.pos z (List.mem_filter.mp hz).1
/-- .. of one that is lit and never dark -/
theorem plain_one {r : Rhythm} (hp : Pos r) (hn : r ≠ []) (hc : colours r ≠ []) (h1 : (plain r).length = 1) : plain r = [(1, 1)] := by
  have hpm := Pos.mapC (g := fun c => min c 1) hp
  have hnm := mapC_ne (g := fun c => min c 1) hn
  have hf := form_is hpm hnm
  rw [← plain_eq] at hf
  cases hp2 : plain r with
  | nil => rw [hp2] at h1; simp at h1
  | cons x l =>
    rw [hp2] at h1 hf
    have hl : l = [] := by
      cases l with
      | nil => rfl
      | cons y l => simp at h1
    subst hl
    cases hf with
    | still c h =>
      obtain ⟨k, hk⟩ : ∃ k, k ∈ colours r := List.exists_mem_of_ne_nil _ hc
      unfold colours at hk
      obtain ⟨hk1, hk2⟩ := List.mem_filter.mp hk
      obtain ⟨t, ht⟩ := (any_colour hp hn k).mp hk2
      have := h t
      rw [colourAt_mapC _ (total_pos hp hn), ht] at this
      have : min k 1 = 1 := by
        simp at hk1
        omega
      have hc1 : c = 1 := by omega
      rw [hc1]
    | turns b cn h =>
      have := cn.cyc.two
      simp at this
/-! ### the greatest turn -/
theorem natBefore_cons (x y : Nat) (r s : List Nat) : natBefore (x :: r) (y :: s) = true ↔ x < y ∨ (x = y ∧ natBefore r s = true) := by
  show (decide (x < y) || (x == y && natBefore r s)) = true ↔ _
  rw [Bool.or_eq_true, Bool.and_eq_true, decide_eq_true_iff, beq_iff_eq]
theorem nat_irrefl : ∀ a : List Nat, natBefore a a = false
  | [] => rfl
  | x :: a => by
    show (decide (x < x) || (x == x && natBefore a a)) = false
    rw [nat_irrefl a]
    simp
theorem nat_trans : ∀ {a b c : List Nat}, natBefore a b = true → natBefore b c = true → natBefore a c = true
  | [], _, _, h, _ => by cases h
  | _ :: _, [], _, h, _ => by cases h
  | _ :: _, _ :: _, [], _, h => by cases h
  | x :: a, y :: b, z :: c, h1, h2 => by
    rw [natBefore_cons] at h1 h2 ⊢
    rcases h1 with h1 | ⟨h1, h3⟩
    · rcases h2 with h2 | ⟨h2, h4⟩
      · exact .inl (by omega)
      · exact .inl (by omega)
    · rcases h2 with h2 | ⟨h2, h4⟩
      · exact .inl (by omega)
      · exact .inr ⟨by omega, nat_trans h3 h4⟩
theorem nat_total : ∀ {a b : List Nat}, a.length = b.length → natBefore a b = false → natBefore b a = false → a = b
  | [], [], _, _, _ => rfl
  | [], _ :: _, h, _, _ => by simp at h
  | _ :: _, [], h, _, _ => by simp at h
  | x :: a, y :: b, h, h1, h2 => by
    have h1' : ¬ natBefore (x :: a) (y :: b) = true := by rw [h1]; exact Bool.false_ne_true
    have h2' : ¬ natBefore (y :: b) (x :: a) = true := by rw [h2]; exact Bool.false_ne_true
    rw [natBefore_cons] at h1' h2'
    have e : x = y := by omega
    subst e
    have := nat_total (a := a) (b := b) (by simpa using h) (Bool.eq_false_iff.mpr fun q => h1' (.inr ⟨rfl, q⟩)) (Bool.eq_false_iff.mpr fun q => h2' (.inr ⟨rfl, q⟩))
    rw [this]
def turnN (l : List Nat) (k : Nat) : List Nat := l.drop k ++ l.take k
theorem turnN_length (l : List Nat) (k : Nat) : (turnN l k).length = l.length := by
  unfold turnN
  rw [List.length_append, List.length_drop, List.length_take]
  omega
theorem greatest_fold (l : List Nat) : ∀ (ks : List Nat) (b : List Nat) (done : List Nat), (∃ k, k ≤ l.length ∧ b = turnN l k) → (∀ k ∈ done, natBefore b (turnN l k) = false) → (∀ k ∈ ks, k < l.length) →
    (∃ k, k ≤ l.length ∧ ks.foldl (fun (b : List Nat) (k : Nat) => if natBefore b (l.drop k ++ l.take k) = true then l.drop k ++ l.take k else b) b = turnN l k) ∧
    ∀ k, k ∈ done ∨ k ∈ ks → natBefore (ks.foldl (fun (b : List Nat) (k : Nat) => if natBefore b (l.drop k ++ l.take k) = true then l.drop k ++ l.take k else b) b) (turnN l k) = false
  | [], b, done, h1, h2, _ => ⟨h1, fun k hk => by
    rcases hk with hk | hk
    · exact h2 k hk
    · cases hk⟩
  | j :: ks, b, done, h1, h2, h3 => by
    rw [List.foldl_cons]
    have hj := h3 j (by simp)
    by_cases hb : natBefore b (l.drop j ++ l.take j) = true
    · rw [if_pos hb]
      obtain ⟨g1, g2⟩ := greatest_fold l ks (l.drop j ++ l.take j) (j :: done) ⟨j, by omega, rfl⟩ (fun k hk => by
        rcases List.mem_cons.mp hk with rfl | hk
        · exact nat_irrefl _
        · cases q : natBefore (l.drop j ++ l.take j) (turnN l k) with
          | false => rfl
          | true =>
            have := nat_trans hb q
            rw [h2 k hk] at this
            cases this) (fun k hk => h3 k (by simp [hk]))
      refine ⟨g1, fun k hk => g2 k ?_⟩
      rcases hk with hk | hk
      · exact .inl (by simp [hk])
      · rcases List.mem_cons.mp hk with rfl | hk
        · exact .inl (by simp)
        · exact .inr hk
    · rw [if_neg hb]
      obtain ⟨g1, g2⟩ := greatest_fold l ks b (j :: done) h1 (fun k hk => by
        rcases List.mem_cons.mp hk with rfl | hk
        · exact Bool.eq_false_iff.mpr hb
        · exact h2 k hk) (fun k hk => h3 k (by simp [hk]))
      refine ⟨g1, fun k hk => g2 k ?_⟩
      rcases hk with hk | hk
      · exact .inl (by simp [hk])
      · rcases List.mem_cons.mp hk with rfl | hk
        · exact .inl (by simp)
        · exact .inr hk
theorem greatest_spec (l : List Nat) : (∃ k, k ≤ l.length ∧ greatestTurn l = turnN l k) ∧ ∀ k, k < l.length → natBefore (greatestTurn l) (turnN l k) = false := by
  obtain ⟨h1, h2⟩ := greatest_fold l (List.range l.length) l [] ⟨0, Nat.zero_le _, by simp [turnN]⟩ (fun k hk => by cases hk) (fun k hk => List.mem_range.mp hk)
  exact ⟨h1, fun k hk => h2 k (.inr (List.mem_range.mpr hk))⟩
theorem turnN_full (l : List Nat) : turnN l l.length = turnN l 0 := by simp [turnN]
theorem greatest_le (l : List Nat) : ∀ k, k ≤ l.length → natBefore (greatestTurn l) (turnN l k) = false := fun k hk => by
  obtain ⟨_, h2⟩ := greatest_spec l
  by_cases e : k = l.length
  · by_cases h0 : l.length = 0
    · have : l = [] := List.eq_nil_of_length_eq_zero h0
      subst this
      subst e
      rfl
    · rw [e, turnN_full]
      exact h2 0 (by omega)
  · exact h2 k (by omega)
theorem greatest_unique {l g : List Nat} (h1 : ∃ k, k ≤ l.length ∧ g = turnN l k) (h2 : ∀ k, k < l.length → natBefore g (turnN l k) = false) : g = greatestTurn l := by
  obtain ⟨⟨j, hj, ej⟩, g2⟩ := greatest_spec l
  obtain ⟨k, hk, ek⟩ := h1
  refine nat_total ?_ ?_ ?_
  · rw [ek, ej, turnN_length, turnN_length]
  · rw [ej]
    by_cases e : j = l.length
    · by_cases h0 : l.length = 0
      · have : l = [] := List.eq_nil_of_length_eq_zero h0
        subst this
        rw [ek]
        simp [turnN]
        rfl
      · rw [e, turnN_full]
        exact h2 0 (by omega)
    · exact h2 j (by omega)
  · rw [ek]
    exact greatest_le l k hk
theorem turnN_turn1 (x : Nat) (m : List Nat) (k : Nat) (hk : k ≤ m.length) : turnN (m ++ [x]) k = turnN (x :: m) (k + 1) := by
  unfold turnN
  rw [List.drop_append_of_le_length hk, List.take_append_of_le_length hk]
  show m.drop k ++ [x] ++ m.take k = m.drop k ++ (x :: m.take k)
  rw [List.append_assoc]
  rfl
theorem greatest_turn1 (x : Nat) (m : List Nat) : greatestTurn (m ++ [x]) = greatestTurn (x :: m) := by
  obtain ⟨⟨k, hk, ek⟩, g2⟩ := greatest_spec (m ++ [x])
  apply greatest_unique
  · rw [List.length_append] at hk
    by_cases e : k = m.length + 1
    · refine ⟨1, by simp, ?_⟩
      rw [ek, e]
      have : m.length + 1 = (m ++ [x]).length := by simp
      rw [this, turnN_full]
      simp [turnN]
    · refine ⟨k + 1, by simp at hk ⊢; omega, ?_⟩
      rw [ek, turnN_turn1 x m k (by simp at hk; omega)]
  · intro j hj
    cases j with
    | zero =>
      have := g2 m.length (by simp)
      have e : turnN (m ++ [x]) m.length = turnN (x :: m) 0 := by simp [turnN]
      rw [e] at this
      exact this
    | succ j =>
      rw [← turnN_turn1 x m j (by simp at hj; omega)]
      exact g2 j (by simp at hj ⊢; omega)
/-! ### groups, begun elsewhere -/
theorem runs_none {long : Nat} : ∀ (n : Nat) (a : List Nat), long ∉ a → ∀ b, runsOf long n (a ++ long :: b) = (n + a.length + 1) :: runsOf long 0 b
  | n, [], _, b => by
    show (if long = long then (n + 1) :: runsOf long 0 b else _) = _
    rw [if_pos rfl]
    rfl
  | n, x :: a, h, b => by
    have hx : ¬ x = long := fun e => h (by simp [e])
    show (if x = long then _ else runsOf long (n + 1) (a ++ long :: b)) = _
    rw [if_neg hx, runs_none (n + 1) a (fun m => h (by simp [m])) b, List.length_cons]
    congr 1
    omega
theorem runs_snoc {long : Nat} : ∀ (n : Nat) (a b : List Nat), runsOf long n (a ++ long :: b) = runsOf long n (a ++ [long]) ++ runsOf long 0 b
  | n, [], b => by
    show (if long = long then (n + 1) :: runsOf long 0 b else _) = (if long = long then (n + 1) :: runsOf long 0 [] else _) ++ _
    rw [if_pos rfl, if_pos rfl]
    rfl
  | n, x :: a, b => by
    show (if x = long then (n + 1) :: runsOf long 0 (a ++ long :: b) else runsOf long (n + 1) (a ++ long :: b)) = (if x = long then (n + 1) :: runsOf long 0 (a ++ [long]) else runsOf long (n + 1) (a ++ [long])) ++ _
    by_cases h : x = long
    · rw [if_pos h, if_pos h, runs_snoc 0 a b]
      rfl
    · rw [if_neg h, if_neg h, runs_snoc (n + 1) a b]
theorem behind_none {long : Nat} (a b : List Nat) (h : long ∉ a) : behindLong long (a ++ long :: b) = b ++ (a ++ [long]) := by
  have hf : (a ++ long :: b).findIdx? (fun (x : Nat) => x == long) = some a.length := by
    induction a with
    | nil =>
      rw [List.nil_append, List.findIdx?_cons, beq_self_eq_true]
      rfl
    | cons x a ih =>
      have hx : (x == long) = false := beq_eq_false_iff_ne.mpr fun e => h (by simp [e])
      rw [List.cons_append, List.findIdx?_cons, hx, ih (fun m => h (by simp [m]))]
      rfl
  unfold behindLong
  rw [hf]
  simp only
  congr 1
  · rw [List.drop_append]
    simp
  · rw [List.take_append, List.take_of_length_le (by omega)]
    simp
theorem split_first {long : Nat} : ∀ {l : List Nat}, long ∈ l → ∃ a b, l = a ++ long :: b ∧ long ∉ a
  | [], h => by cases h
  | x :: l, h => by
    by_cases e : x = long
    · exact ⟨[], l, by rw [e]; rfl, by simp⟩
    · obtain ⟨a, b, e1, e2⟩ := split_first (l := l) ((List.mem_cons.mp h).resolve_left fun q => e q.symm)
      refine ⟨x :: a, b, by rw [e1]; rfl, fun m => ?_⟩
      rcases List.mem_cons.mp m with q | q
      · exact e q.symm
      · exact e2 q
theorem runs_turn {long x : Nat} {m : List Nat} (h : long ∈ x :: m) : greatestTurn (runsOf long 0 (behindLong long (m ++ [x]))) = greatestTurn (runsOf long 0 (behindLong long (x :: m))) := by
  by_cases e : x = long
  · subst e
    have e1 : behindLong x (x :: m) = m ++ [x] := by
      have := behind_none (long := x) [] m (by simp)
      exact this
    rw [e1]
    by_cases hm : x ∈ m
    · obtain ⟨a, b, rfl, ha⟩ := split_first hm
      have e2 : behindLong x (a ++ x :: b ++ [x]) = b ++ [x] ++ (a ++ [x]) := by
        rw [List.append_assoc]
        exact behind_none a (b ++ [x]) ha
      rw [e2]
      have r1 : runsOf x 0 (a ++ x :: b ++ [x]) = (a.length + 1) :: runsOf x 0 (b ++ [x]) := by
        rw [List.append_assoc]
        have := runs_none (long := x) 0 a ha (b ++ [x])
        rw [Nat.zero_add] at this
        exact this
      have r2 : runsOf x 0 (b ++ [x] ++ (a ++ [x])) = runsOf x 0 (b ++ [x]) ++ [a.length + 1] := by
        have := runs_snoc (long := x) 0 b (a ++ [x])
        rw [List.append_assoc]
        rw [show [x] ++ (a ++ [x]) = x :: (a ++ [x]) from rfl, this]
        congr 1
        have := runs_none (long := x) 0 a ha []
        rw [Nat.zero_add] at this
        exact this
      rw [r1, r2]
      exact greatest_turn1 _ _
    · have := behind_none (long := x) m [] hm
      rw [this]
      rfl
  · have hm : long ∈ m := (List.mem_cons.mp h).resolve_left fun q => e q.symm
    obtain ⟨a, b, rfl, ha⟩ := split_first hm
    have e1 : behindLong long (x :: (a ++ long :: b)) = b ++ (x :: a ++ [long]) := by
      have := behind_none (long := long) (x :: a) b (fun q => by
        rcases List.mem_cons.mp q with q | q
        · exact e q.symm
        · exact ha q)
      exact this
    have e2 : behindLong long (a ++ long :: b ++ [x]) = b ++ [x] ++ (a ++ [long]) := by
      rw [List.append_assoc]
      exact behind_none a (b ++ [x]) ha
    rw [e1, e2, List.append_assoc]
    rfl
theorem foldl_max (l : List Nat) : ∀ b, (∀ x ∈ l, x ≤ l.foldl max b) ∧ b ≤ l.foldl max b ∧ (l.foldl max b = b ∨ l.foldl max b ∈ l) := by
  induction l with
  | nil => intro b; exact ⟨fun x h => by (cases h), Nat.le_refl _, .inl rfl⟩
  | cons y l ih =>
    intro b
    obtain ⟨h1, h2, h3⟩ := ih (max b y)
    rw [List.foldl_cons]
    refine ⟨fun x hx => ?_, by omega, ?_⟩
    · rcases List.mem_cons.mp hx with rfl | hx
      · omega
      · exact h1 x hx
    · rcases h3 with h3 | h3
      · rw [h3]
        rcases Nat.le_total b y with h | h
        · right
          rw [Nat.max_eq_right h]
          simp
        · left
          exact Nat.max_eq_left h
      · right
        simp [h3]
theorem max_is {l : List Nat} {m : Nat} (hm : m ∈ l) (h : ∀ x ∈ l, x ≤ m) : l.foldl max 0 = m := by
  obtain ⟨h1, h2, h3⟩ := foldl_max l 0
  have a := h1 m hm
  rcases h3 with h3 | h3
  · omega
  · have := h _ h3
    omega
theorem foldl_min (l : List Nat) : ∀ b, (∀ x ∈ l, l.foldl min b ≤ x) ∧ l.foldl min b ≤ b ∧ (l.foldl min b = b ∨ l.foldl min b ∈ l) := by
  induction l with
  | nil => intro b; exact ⟨fun x h => by (cases h), Nat.le_refl _, .inl rfl⟩
  | cons y l ih =>
    intro b
    obtain ⟨h1, h2, h3⟩ := ih (min b y)
    rw [List.foldl_cons]
    refine ⟨fun x hx => ?_, by omega, ?_⟩
    · rcases List.mem_cons.mp hx with rfl | hx
      · omega
      · exact h1 x hx
    · rcases h3 with h3 | h3
      · rw [h3]
        rcases Nat.le_total b y with h | h
        · left
          exact Nat.min_eq_left h
        · right
          rw [Nat.min_eq_right h]
          simp
      · right
        simp [h3]
theorem min_is {l : List Nat} {m b : Nat} (hm : m ∈ l) (h : ∀ x ∈ l, m ≤ x) (hb : m ≤ b) : l.foldl min b = m := by
  obtain ⟨h1, h2, h3⟩ := foldl_min l b
  have a := h1 m hm
  rcases h3 with h3 | h3
  · omega
  · have := h _ h3
    omega
theorem groups_turn1 (l : List Nat) : groups (turn1 l) = groups l := by
  cases l with
  | nil => rfl
  | cons x m =>
    show groups (m ++ [x]) = groups (x :: m)
    unfold groups
    simp only
    obtain ⟨h1, h2, h3⟩ := foldl_max (x :: m) 0
    have e : (m ++ [x]).foldl max 0 = (x :: m).foldl max 0 := by
      rcases h3 with h3 | h3
      · have hz : ∀ y ∈ m ++ [x], y = 0 := fun y hy => by
          have := h1 y (by
            rcases List.mem_append.mp hy with q | q
            · simp [q]
            · simp at q; simp [q])
          omega
        rw [h3]
        obtain ⟨g1, g2, g3⟩ := foldl_max (m ++ [x]) 0
        rcases g3 with g3 | g3
        · exact g3
        · exact hz _ g3
      · refine max_is ?_ ?_
        · rcases List.mem_cons.mp h3 with q | q
          · rw [q]; simp
          · exact List.mem_append_left _ q
        · intro y hy
          exact h1 y (by
            rcases List.mem_append.mp hy with q | q
            · simp [q]
            · simp at q; simp [q])
    rw [e]
    by_cases hm : (x :: m).foldl max 0 ∈ x :: m
    · exact runs_turn hm
    · have hx : x = 0 := by
        rcases h3 with h3 | h3
        · have := h1 x (by simp)
          omega
        · exact absurd h3 hm
      rcases h3 with h3 | h3
      · exact absurd (by rw [h3, hx]; simp) hm
      · exact absurd h3 hm
end Lt
end
section
set_option Elab.async false
set_option linter.all false
namespace Lt
open Bn
theorem zip_turn {ls s : List Nat} (h : ls.length = s.length) (k : Nat) : (ls.zip s).drop k ++ (ls.zip s).take k = (ls.drop k ++ ls.take k).zip (s.drop k ++ s.take k) := by
  rw [List.zip_append (by rw [List.length_drop, List.length_drop, h])]
  congr 1
  · unfold List.zip
    exact List.drop_zipWith
  · unfold List.zip
    exact List.take_zipWith
theorem map_fst {ls s : List Nat} (h : ls.length = s.length) : (ls.zip s).map (fun (x : Nat × Nat) => x.1) = ls := List.map_fst_zip (by omega)
theorem map_snd {ls s : List Nat} (h : ls.length = s.length) : (ls.zip s).map (fun (x : Nat × Nat) => x.2) = s := List.map_snd_zip (by omega)
theorem all_fst {ls s : List Nat} (h : ls.length = s.length) (q : Nat → Bool) : (ls.zip s).all (fun (x : Nat × Nat) => q x.1) = ls.all q := by
  conv => rhs; rw [← map_fst h]
  rw [List.all_map]
  rfl
theorem all_snd {ls s : List Nat} (h : ls.length = s.length) (q : Nat → Bool) : (ls.zip s).all (fun (x : Nat × Nat) => q x.2) = s.all q := by
  conv => rhs; rw [← map_snd h]
  rw [List.all_map]
  rfl
theorem find_snd {ls s : List Nat} (h : ls.length = s.length) (q : Nat → Bool) : (ls.zip s).findIdx? (fun (x : Nat × Nat) => q x.2) = s.findIdx? q := by
  conv => rhs; rw [← map_snd h]
  rw [List.findIdx?_map]
  rfl
theorem fold_fst {ls s : List Nat} (h : ls.length = s.length) (b : Nat) : (ls.zip s).foldl (fun (m : Nat) (x : Nat × Nat) => min m x.1) b = ls.foldl min b := by
  conv => rhs; rw [← map_fst h]
  rw [List.foldl_map]
theorem dropLast_zip {ls s : List Nat} (h : ls.length = s.length) : (ls.zip s).dropLast = ls.dropLast.zip s.dropLast := by
  rw [List.dropLast_eq_take, List.dropLast_eq_take, List.dropLast_eq_take]
  unfold List.zip
  rw [List.take_zipWith, List.length_zipWith, h, Nat.min_self]
/-- all are a, but one that is 3 a or more -/
structure OneGap (a : Nat) (ds u : List Nat) (g : Nat) (v : List Nat) : Prop where
  eq : ds = u ++ g :: v
  ul : ∀ x ∈ u, x = a
  vl : ∀ x ∈ v, x = a
  gap : 3 * a ≤ g
def gapsFrom (a : Nat) : Nat → List Nat → List Nat
  | _, [] => []
  | i, d :: ds => if 3 * a ≤ d then i :: gapsFrom a (i + 1) ds else gapsFrom a (i + 1) ds
theorem gaps_snoc (a : Nat) : ∀ (k : Nat) (l : List Nat) (x : Nat), gapsFrom a k (l ++ [x]) = gapsFrom a k l ++ if 3 * a ≤ x then [k + l.length] else []
  | k, [], x => by
    show (if 3 * a ≤ x then k :: gapsFrom a (k + 1) [] else gapsFrom a (k + 1) []) = _
    by_cases h : 3 * a ≤ x
    · rw [if_pos h, if_pos h]; rfl
    · rw [if_neg h, if_neg h]; rfl
  | k, d :: l, x => by
    have ih := gaps_snoc a (k + 1) l x
    show (if 3 * a ≤ d then k :: gapsFrom a (k + 1) (l ++ [x]) else gapsFrom a (k + 1) (l ++ [x])) = (if 3 * a ≤ d then k :: gapsFrom a (k + 1) l else gapsFrom a (k + 1) l) ++ _
    rw [ih, List.length_cons]
    have e : k + 1 + l.length = k + (l.length + 1) := by omega
    rw [e]
    by_cases h : 3 * a ≤ d
    · rw [if_pos h, if_pos h]; rfl
    · rw [if_neg h, if_neg h]
theorem gaps_all {a : Nat} (ha : 1 ≤ a) : ∀ (k : Nat) {l : List Nat}, (∀ x ∈ l, x = a) → gapsFrom a k l = []
  | _, [], _ => rfl
  | k, d :: l, h => by
    have hd := h d (by simp)
    show (if 3 * a ≤ d then _ else gapsFrom a (k + 1) l) = []
    rw [if_neg (by omega)]
    exact gaps_all ha (k + 1) fun x hx => h x (by simp [hx])
theorem count_all {a : Nat} {l : List Nat} (h : l.count a = l.length) : ∀ x ∈ l, x = a := by
  have := List.count_eq_length.mp h
  intro x hx
  exact (this x hx).symm
theorem all_count {a : Nat} {l : List Nat} (h : ∀ x ∈ l, x = a) : l.count a = l.length := List.count_eq_length.mpr fun x hx => (h x hx).symm
theorem gap_of {a : Nat} (ha : 1 ≤ a) : ∀ (k : Nat) (ds : List Nat), (gapsFrom a k ds).length = 1 → ds.count a + 1 = ds.length → ∃ u g v, OneGap a ds u g v ∧ gapsFrom a k ds = [k + u.length]
  | k, [], h, _ => by cases h
  | k, d :: ds, h, hc => by
    rw [List.count_cons, List.length_cons] at hc
    have e : gapsFrom a k (d :: ds) = if 3 * a ≤ d then k :: gapsFrom a (k + 1) ds else gapsFrom a (k + 1) ds := rfl
    rw [e] at h ⊢
    by_cases hd : 3 * a ≤ d
    · rw [if_pos hd] at h ⊢
      have hz : gapsFrom a (k + 1) ds = [] := by
        rw [List.length_cons] at h
        exact List.eq_nil_of_length_eq_zero (by omega)
      have hda : (d == a) = false := beq_eq_false_iff_ne.mpr (by omega)
      rw [hda] at hc
      simp only [Bool.false_eq_true, if_false] at hc
      refine ⟨[], d, ds, ⟨rfl, (fun x hx => nomatch hx), count_all (by omega), hd⟩, ?_⟩
      rw [hz]
      rfl
    · rw [if_neg hd] at h ⊢
      by_cases hda : d = a
      · have : (d == a) = true := by rw [hda]; exact beq_self_eq_true a
        rw [this] at hc
        simp only [if_true] at hc
        obtain ⟨u, g, v, o, eg⟩ := gap_of ha (k + 1) ds h (by omega)
        refine ⟨d :: u, g, v, ⟨by rw [o.eq]; rfl, fun x hx => ?_, o.vl, o.gap⟩, ?_⟩
        · rcases List.mem_cons.mp hx with q | q
          · rw [q, hda]
          · exact o.ul x q
        · rw [eg, List.length_cons]
          congr 1
          omega
      · have : (d == a) = false := beq_eq_false_iff_ne.mpr hda
        rw [this] at hc
        simp only [Bool.false_eq_true, if_false] at hc
        have := gaps_all ha (k + 1) (count_all (l := ds) (a := a) (by omega))
        rw [this] at h
        cases h
theorem gaps_one {a : Nat} (ha : 1 ≤ a) {v : List Nat} {g : Nat} (hv : ∀ x ∈ v, x = a) (hg : 3 * a ≤ g) : ∀ (k : Nat) (u : List Nat), (∀ x ∈ u, x = a) → gapsFrom a k (u ++ g :: v) = [k + u.length]
  | k, [], _ => by
    show (if 3 * a ≤ g then k :: gapsFrom a (k + 1) v else _) = _
    rw [if_pos hg, gaps_all ha _ hv]
    rfl
  | k, d :: u, hu => by
    have hd := hu d (by simp)
    show (if 3 * a ≤ d then _ else gapsFrom a (k + 1) (u ++ g :: v)) = _
    rw [if_neg (by omega), gaps_one ha hv hg (k + 1) u fun x hx => hu x (by simp [hx]), List.length_cons]
    congr 1
    omega
theorem gap_is {a : Nat} (ha : 1 ≤ a) {ds u v : List Nat} {g : Nat} (o : OneGap a ds u g v) : gapsFrom a 0 ds = [u.length] ∧ ds.count a + 1 = ds.length := by
  constructor
  · rw [o.eq, gaps_one ha o.vl o.gap 0 u o.ul, Nat.zero_add]
  · have hg : (g == a) = false := beq_eq_false_iff_ne.mpr (by have := o.gap; omega)
    rw [o.eq, List.count_append, List.count_cons, hg, all_count o.ul, all_count o.vl, List.length_append, List.length_cons]
    simp only [Bool.false_eq_true, if_false]
    omega
def okLit (a : Nat) (x : Nat) : Bool := x == a || x == 3 * a
def bitsOf (a : Nat) (l : List Nat) : List Nat := l.map fun x => if x = a then 0 else 1
theorem find_at {a : Nat} (ha : 1 ≤ a) {g : Nat} (hg : 3 * a ≤ g) (z : List Nat) : ∀ y : List Nat, (∀ x ∈ y, x = a) → (y ++ g :: z).findIdx? (fun x => decide (3 * a ≤ x)) = some y.length
  | [], _ => by rw [List.nil_append, List.findIdx?_cons, decide_eq_true hg]; rfl
  | d :: y, h => by
    have hd := h d (by simp)
    rw [List.cons_append, List.findIdx?_cons, decide_eq_false (by omega), find_at ha hg z y fun x hx => h x (by simp [hx])]
    rfl
theorem morse_unfold {ls s : List Nat} (h : ls.length = s.length) {a : Nat} (hm : ls.foldl min ROUND = a) : morse (ls.zip s) = match s.findIdx? (fun x => decide (3 * a ≤ x)) with
    | none => none
    | some k => if (turnN ls (k + 1)).all (okLit a) = true ∧ ((turnN s (k + 1)).dropLast.all fun x => x == a) = true then MORSE.findIdx? fun (t : List Nat) => t == bitsOf a (turnN ls (k + 1)) else none := by
  unfold morse
  simp only
  rw [fold_fst h, hm, find_snd h (fun x => decide (3 * a ≤ x))]
  cases s.findIdx? (fun x => decide (3 * a ≤ x)) with
  | none => rfl
  | some k =>
    simp only
    have hl : (turnN ls (k + 1)).length = (turnN s (k + 1)).length := by rw [turnN_length, turnN_length, h]
    rw [zip_turn h]
    change (if ((turnN ls (k + 1)).zip (turnN s (k + 1))).all (fun x => okLit a x.1) = true ∧ ((turnN ls (k + 1)).zip (turnN s (k + 1))).dropLast.all (fun x => x.2 == a) = true then MORSE.findIdx? (fun t => t == ((turnN ls (k + 1)).zip (turnN s (k + 1))).map fun x => if x.1 = a then 0 else 1) else none) = _
    have e1 : ((turnN ls (k + 1)).zip (turnN s (k + 1))).map (fun x => if x.1 = a then 0 else 1) = bitsOf a (turnN ls (k + 1)) := by
      conv => rhs; rw [← map_fst hl]
      unfold bitsOf
      rw [List.map_map]
      rfl
    rw [all_fst hl (okLit a), dropLast_zip hl, all_snd (by rw [List.length_dropLast, List.length_dropLast, hl]) (fun x => x == a), e1]
theorem turnN_perm_all (ls : List Nat) (k : Nat) (q : Nat → Bool) : (turnN ls k).all q = ls.all q := by
  unfold turnN
  rw [List.all_append, Bool.and_comm, ← List.all_append, List.take_append_drop]
theorem all_eq {a : Nat} {l : List Nat} : (l.all fun x => x == a) = true ↔ ∀ x ∈ l, x = a := by
  rw [List.all_eq_true]
  constructor
  · intro h x hx
    exact eq_of_beq (h x hx)
  · intro h x hx
    rw [h x hx]
    exact beq_self_eq_true a
theorem turnN_cut (u v : List Nat) : turnN (u ++ v) u.length = v ++ u := by
  unfold turnN
  rw [List.drop_left, List.take_left]
theorem morse_gap {ls ds u v : List Nat} {g a : Nat} (h : ls.length = ds.length) (ha : 1 ≤ a) (hm : ls.foldl min ROUND = a) (o : OneGap a ds u g v) :
    morse (ls.zip (turn1 ds)) = if ls.all (okLit a) = true then MORSE.findIdx? fun (t : List Nat) => t == bitsOf a (turnN ls u.length) else none := by
  have ht : (turn1 ds).length = ds.length := by
    unfold turn1
    rw [List.length_append, List.length_drop, List.length_take]
    omega
  rw [morse_unfold (by rw [ht, h]) hm]
  cases u with
  | nil =>
    have e : turn1 ds = v ++ [g] := by rw [o.eq]; rfl
    rw [e, find_at ha o.gap [] v o.vl]
    simp only
    have hn : v.length + 1 = ls.length := by rw [h, o.eq]; simp
    have e2 : turnN ls (v.length + 1) = turnN ls 0 := by
      rw [hn, turnN_full]
    have e3 : turnN (v ++ [g]) (v.length + 1) = v ++ [g] := by
      have : v.length + 1 = (v ++ [g]).length := by simp
      rw [this, turnN_full]
      simp [turnN]
    rw [e2, e3, turnN_perm_all, List.dropLast_concat]
    have hv := all_eq.mpr o.vl
    rw [hv]
    simp only [and_true]
    rfl
  | cons x u =>
    have hx := o.ul x (by simp)
    have hu : ∀ y ∈ u, y = a := fun y hy => o.ul y (by simp [hy])
    have e : turn1 ds = u ++ g :: (v ++ [x]) := by
      rw [o.eq]
      show u ++ g :: v ++ [x] = _
      rw [List.append_assoc]
      rfl
    rw [e, find_at ha o.gap _ u hu]
    simp only
    have e3 : turnN (u ++ g :: (v ++ [x])) (u.length + 1) = v ++ [x] ++ (u ++ [g]) := by
      have e4 : u ++ g :: (v ++ [x]) = (u ++ [g]) ++ (v ++ [x]) := by rw [List.append_assoc]; rfl
      have e5 : u.length + 1 = (u ++ [g]).length := by simp
      rw [e4, e5, turnN_cut]
    have e6 : (v ++ [x] ++ (u ++ [g])).dropLast = v ++ [x] ++ u := by
      rw [← List.append_assoc, List.dropLast_concat]
    rw [e3, e6, turnN_perm_all]
    have hall : ((v ++ [x] ++ u).all fun y => y == a) = true := all_eq.mpr fun y hy => by
      rcases List.mem_append.mp hy with q | q
      · rcases List.mem_append.mp q with q | q
        · exact o.vl y q
        · rw [List.mem_singleton.mp q, hx]
      · exact hu y q
    rw [hall]
    simp only [and_true]
    rfl
theorem morse_none {ls ds : List Nat} {a : Nat} (h : ls.length = ds.length) (hm : ls.foldl min ROUND = a) (hno : ¬ ∃ u g v, OneGap a ds u g v) : morse (ls.zip (turn1 ds)) = none := by
  have ht : (turn1 ds).length = ds.length := by
    unfold turn1
    rw [List.length_append, List.length_drop, List.length_take]
    omega
  rw [morse_unfold (by rw [ht, h]) hm]
  cases hf : (turn1 ds).findIdx? (fun x => decide (3 * a ≤ x)) with
  | none => rfl
  | some k =>
    simp only
    rw [if_neg]
    rintro ⟨_, h2⟩
    apply hno
    obtain ⟨hk, hg, _⟩ := List.findIdx?_eq_some_iff_getElem.mp hf
    have hg' := of_decide_eq_true hg
    have es : turn1 ds = (turn1 ds).take k ++ (turn1 ds)[k] :: (turn1 ds).drop (k + 1) := by
      rw [← List.drop_eq_getElem_cons hk, List.take_append_drop]
    generalize (turn1 ds)[k] = g at es hg'
    generalize hy : (turn1 ds).take k = y at es
    generalize hz : (turn1 ds).drop (k + 1) = z at es
    have hyl : y.length = k := by rw [← hy, List.length_take]; omega
    have e3 : turnN (turn1 ds) (k + 1) = z ++ (y ++ [g]) := by
      have e4 : turn1 ds = (y ++ [g]) ++ z := by rw [es, List.append_assoc]; rfl
      have e5 : k + 1 = (y ++ [g]).length := by simp [hyl]
      rw [e4, e5, turnN_cut]
    rw [e3, ← List.append_assoc, List.dropLast_concat, all_eq] at h2
    have zl : ∀ x ∈ z, x = a := fun x hx => h2 x (by simp [hx])
    have yl : ∀ x ∈ y, x = a := fun x hx => h2 x (by simp [hx])
    cases ds with
    | nil => rw [show turn1 ([] : List Nat) = [] from rfl] at hk; simp at hk
    | cons x t =>
      have ex : turn1 (x :: t) = t ++ [x] := rfl
      rw [ex] at es
      rcases List.eq_nil_or_concat z with rfl | ⟨z', x', rfl⟩
      · have : t ++ [x] = y ++ [g] := es
        obtain ⟨e1, e2⟩ := List.append_inj' this rfl
        injection e2 with e2
        exact ⟨[], g, t, (by rw [e2]; rfl), (fun q hq => nomatch hq), (by rw [e1]; exact yl), hg'⟩
      · rw [List.concat_eq_append] at es zl
        have : t ++ [x] = (y ++ g :: z') ++ [x'] := by rw [es, List.append_assoc]; rfl
        obtain ⟨e1, e2⟩ := List.append_inj' this rfl
        injection e2 with e2
        refine ⟨x :: y, g, z', by rw [e1]; rfl, fun q hq => ?_, fun q hq => zl q (by simp [hq]), hg'⟩
        rcases List.mem_cons.mp hq with r | r
        · rw [r, e2]
          exact zl x' (by simp)
        · exact yl q r
end Lt
end
section
set_option Elab.async false
set_option linter.all false
namespace Lt
open Bn
theorem nodup_dedup : ∀ (n : Nat) (l : List Nat), l.length ≤ n → l.eraseDups.Nodup
  | _, [], _ => by simp
  | 0, _ :: _, h => by simp at h
  | n + 1, x :: l, h => by
    rw [List.eraseDups_cons, List.nodup_cons]
    refine ⟨fun m => ?_, nodup_dedup n _ (Nat.le_trans (List.length_filter_le _ _) (by simpa using h))⟩
    rw [List.mem_eraseDups, List.mem_filter] at m
    simp at m
theorem nodup_le : ∀ {a b : List Nat}, a.Nodup → (∀ x ∈ a, x ∈ b) → a.length ≤ b.length
  | [], _, _, _ => Nat.zero_le _
  | x :: a, b, h, s => by
    rw [List.nodup_cons] at h
    have hx := s x (by simp)
    have := nodup_le (a := a) (b := b.erase x) h.2 fun y hy => by
      have hne : y ≠ x := fun e => h.1 (by rw [← e]; exact hy)
      exact (List.mem_erase_of_ne hne).mpr (s y (by simp [hy]))
    rw [List.length_erase_of_mem hx] at this
    have hb : 0 < b.length := List.length_pos_of_mem hx
    rw [List.length_cons]
    omega
theorem sizes_same {a b : List Nat} (h : ∀ x, x ∈ a ↔ x ∈ b) : (sizes a).length = (sizes b).length := by
  unfold sizes
  apply Nat.le_antisymm
  · exact nodup_le (nodup_dedup _ a (Nat.le_refl _)) fun x hx => by
      rw [List.mem_eraseDups] at hx ⊢
      exact (h x).mp hx
  · exact nodup_le (nodup_dedup _ b (Nat.le_refl _)) fun x hx => by
      rw [List.mem_eraseDups] at hx ⊢
      exact (h x).mpr hx
theorem mem_turn1 (l : List Nat) (x : Nat) : x ∈ turn1 l ↔ x ∈ l := by
  unfold turn1
  conv => rhs; rw [← List.take_append_drop 1 l]
  rw [List.mem_append, List.mem_append]
  exact Or.comm
theorem turn1_length (l : List Nat) : (turn1 l).length = l.length := by
  unfold turn1
  rw [List.length_append, List.length_drop, List.length_take]
  omega
theorem sum_turn1 (l : List Nat) : (turn1 l).sum = l.sum := by
  unfold turn1
  conv => rhs; rw [← List.take_append_drop 1 l]
  rw [List.sum_append, List.sum_append, Nat.add_comm]
theorem many_eq {ls ds : List Nat} (h : ls.length = ds.length) {m : Nat} (hm : m ∈ ds) (hmin : ∀ x ∈ ds, m ≤ x) (hr : m ≤ ROUND) : manyName (ls.zip (turn1 ds)) =
    if (sizes ls).length = 1 ∧ (sizes ds).length = 2 then grouped (flashName (ls.headD 0) (ls.headD 0 + m)) ds
    else if (sizes ds).length = 1 ∧ (sizes ls).length = 2 ∧ ds.sum ≤ ls.sum then grouped (ascii "Oc") ls
    else match morse (ls.zip (turn1 ds)) with
      | some k => ascii "Mo(" ++ [UInt8.ofNat (65 + k), 41]
      | none => ascii "Ir" := by
  have h' : ls.length = (turn1 ds).length := by rw [turn1_length, h]
  unfold manyName
  simp only
  rw [map_fst h', map_snd h', sizes_same (mem_turn1 ds), sum_turn1]
  have e1 : (turn1 ds).foldl min ROUND = m := min_is ((mem_turn1 ds m).mpr hm) (fun x hx => hmin x ((mem_turn1 ds x).mp hx)) hr
  have e2 : ∀ b, grouped b (turn1 ds) = grouped b ds := fun b => by
    unfold grouped
    rw [groups_turn1]
  rw [e1, e2]
  cases morse (ls.zip (turn1 ds)) <;> rfl
theorem dark_many {l : List (Nat × Nat)} (h : l.length ≠ 1) : darkName l = manyName l := by
  match l, h with
  | [], _ => rfl
  | [x], h => exact absurd rfl h
  | _ :: _ :: _, _ => rfl
theorem flash_ne (a b : Nat) : flashName a b ≠ ascii "F" ∧ (flashName a b).length ≤ 3 := by
  unfold flashName
  repeat' split
  all_goals exact ⟨by decide, by decide⟩
theorem plusses_len : ∀ {l : List Nat}, (∀ x ∈ l, (decimal x).length ≤ 7) → (plusses l).length ≤ 8 * l.length
  | [], _ => Nat.le_refl _
  | [n], h => by
    have := h n (by simp)
    show (decimal n).length ≤ 8 * 1
    omega
  | n :: m :: r, h => by
    have ih := plusses_len (l := m :: r) fun x hx => h x (by simp [hx])
    have := h n (by simp)
    show (decimal n ++ (43 :: plusses (m :: r))).length ≤ _
    rw [List.length_append, List.length_cons, List.length_cons]
    omega
theorem grouped_len {b : Bytes} {l : List Nat} (h : ∀ x ∈ groups l, (decimal x).length ≤ 7) (hl : (groups l).length ≤ l.length) : (grouped b l).length ≤ b.length + 2 + 8 * l.length ∧ 2 ≤ (grouped b l).length := by
  have := plusses_len h
  unfold grouped
  rw [List.length_append, List.length_cons, List.length_append]
  constructor
  · show b.length + ((plusses (groups l)).length + 1 + 1) ≤ _
    omega
  · show 2 ≤ b.length + ((plusses (groups l)).length + 1 + 1)
    omega
theorem dark_one (l d : Nat) : darkName [(l, d)] ≠ ascii "F" ∧ (darkName [(l, d)]).length ≤ 3 := by
  have e : darkName [(l, d)] = if l = d then ascii "Iso" else if d < l then ascii "Oc" else flashName l (l + d) := rfl
  rw [e]
  split
  · exact ⟨by decide, by decide⟩
  split
  · exact ⟨by decide, by decide⟩
  · exact flash_ne _ _
end Lt
end
section
-- CHANGE: your row's module here, as the last of these rows
set_option Elab.async false
set_option linter.all false
set_option maxRecDepth 100000
namespace L2
open PySem PySem.Spec PyProof.Rows
abbrev Key := Sum Int Str
def keyIs : Key → Value → Bool
  | .inl k, v => Value.isInt k v
  | .inr x, v => Value.isStrOf x v
def keyH (w : World) : Key → Int
  | .inl k => hashInt k
  | .inr x => hashStr w x
theorem keyIs_shape : ∀ {k : Key} {v : Value}, keyIs k v = true → (∃ i t, k = Sum.inl i ∧ v = Value.int i t) ∨ (∃ x t, k = Sum.inr x ∧ v = Value.str x t)
  | .inl i, v, h => by
    obtain ⟨t, e⟩ := Value.isInt_shape (k := i) (v := v) h
    exact .inl ⟨i, t, rfl, e⟩
  | .inr x, v, h => by
    obtain ⟨t, e⟩ := Value.isStrOf_shape (x := x) (v := v) h
    exact .inr ⟨x, t, rfl, e⟩
theorem keyIs_int (i : Int) (t : Tok) : keyIs (.inl i) (.int i t) = true := by simp [keyIs, Value.isInt]
theorem keyIs_str (x : Str) (t : Tok) : keyIs (.inr x) (.str x t) = true := by simp [keyIs, Value.isStrOf]
theorem key_ll (a b : Int) : decide ((Sum.inl a : Key) = Sum.inl b) = (a == b) := by
  by_cases e : a = b
  · subst e; simp
  · have h : ¬ (Sum.inl a : Key) = Sum.inl b := fun q => e (Sum.inl.inj q)
    rw [decide_eq_false h]
    exact (beq_eq_false_iff_ne.mpr e).symm
theorem key_rr (a b : Str) : decide ((Sum.inr a : Key) = Sum.inr b) = decide (a = b) := by
  by_cases e : a = b
  · subst e; simp
  · have h : ¬ (Sum.inr a : Key) = Sum.inr b := fun q => e (Sum.inr.inj q)
    rw [decide_eq_false h, decide_eq_false e]
theorem key_lr (a : Int) (b : Str) : decide ((Sum.inl a : Key) = Sum.inr b) = false := decide_eq_false (fun q => nomatch q)
theorem key_rl (a : Str) (b : Int) : decide ((Sum.inr a : Key) = Sum.inl b) = false := decide_eq_false (fun q => nomatch q)
def mixKind (prog : Program) (w : World) : PySem.KeyKind prog w Key where
  is := keyIs
  hash := keyH w
  inj := fun v a b ha hb => by
    rcases keyIs_shape ha with ⟨i, t, rfl, rfl⟩ | ⟨x, t, rfl, rfl⟩
    · rcases keyIs_shape hb with ⟨j, u, rfl, e⟩ | ⟨y, u, rfl, e⟩
      · injection e with e1 _; rw [e1]
      · exact nomatch e
    · rcases keyIs_shape hb with ⟨j, u, rfl, e⟩ | ⟨y, u, rfl, e⟩
      · exact nomatch e
      · injection e with e1 _; rw [e1]
  byValue := fun k v h => by
    rcases keyIs_shape h with ⟨i, t, rfl, rfl⟩ | ⟨x, t, rfl, rfl⟩ <;> rfl
  pyHash := fun hv h => by
    rcases keyIs_shape hv with ⟨i, t, rfl, rfl⟩ | ⟨x, t, rfl, rfl⟩
    · exact wpAny_pyHash_int h
    · exact wpAny_pyHash_str h
  eqBool := fun hu hv h => by
    rcases keyIs_shape hu with ⟨i, t, rfl, rfl⟩ | ⟨x, t, rfl, rfl⟩
    · rcases keyIs_shape hv with ⟨j, u, rfl, rfl⟩ | ⟨y, u, rfl, rfl⟩
      · rw [key_ll] at h; exact wpAny_eqBool_int h
      · rw [key_lr] at h; exact SeqAt.EqAt.int_str i t y u _ _ _ _ h
    · rcases keyIs_shape hv with ⟨j, u, rfl, rfl⟩ | ⟨y, u, rfl, rfl⟩
      · rw [key_rl] at h; exact SeqAt.EqAt.str_int x t j u _ _ _ _ h
      · rw [key_rr] at h; exact wpAny_eqBool_str h
  «strs» := fun k x t v h => by
    rcases keyIs_shape h with ⟨i, u, rfl, e⟩ | ⟨y, u, rfl, e⟩
    · exact nomatch e
    · injection e with e1 _
      subst e1
      cases v <;> rfl
theorem mixKind_int (prog : Program) (w : World) (i : Int) (t : Tok) : (mixKind prog w).is (.inl i) (.int i t) = true := keyIs_int i t
theorem mixKind_str (prog : Program) (w : World) (x : Str) (t : Tok) : (mixKind prog w).is (.inr x) (.str x t) = true := keyIs_str x t
end L2
namespace L2
open PySem PySem.Spec PyProof.Rows
inductive V where
  | non | bl (b : Bool) | int (i : Int) | str (x : Str) | byt (b : Array UInt8) | flt (b : UInt64) | ref (a : Addr) | ty (n : String)
  deriving DecidableEq
def RelV : V → Value → Prop
  | .non, u => u = Value.none
  | .bl b, u => u = Value.bool b
  | .int i, u => ∃ t, u = Value.int i t
  | .str x, u => ∃ t, u = Value.str x t
  | .byt b, u => ∃ t, u = Value.bytes b t
  | .flt b, u => ∃ t, u = Value.float b t
  | .ref a, u => u = Value.ref a
  | .ty n, u => u = Value.type n
abbrev Vals : List V → List Value → Prop := Paired RelV
theorem Vals.length {xs : List V} {us : List Value} (r : Vals xs us) : xs.length = us.length := Paired.length r
theorem Vals.get : ∀ {xs : List V} {us : List Value} {i : Nat} {x : V}, Vals xs us → xs[i]? = some x → ∃ u, us[i]? = some u ∧ RelV x u
  | _, _, _, _, .nil, e => by simp at e
  | _, _, 0, _, .cons r _, e => by simp at e; subst e; exact ⟨_, rfl, r⟩
  | _, _, i + 1, x, .cons _ t, e => by
    obtain ⟨u, h1, h2⟩ := Vals.get (i := i) (x := x) t (by simpa using e)
    exact ⟨u, by simpa using h1, h2⟩
theorem Vals.set {x : V} {u : Value} (r : RelV x u) : ∀ {xs : List V} {us : List Value} (i : Nat), Vals xs us → Vals (xs.set i x) (us.set i u)
  | _, _, _, .nil => .nil
  | _, _, 0, .cons _ t => .cons r t
  | _, _, i + 1, .cons q t => .cons q (Vals.set r i t)
theorem Vals.append : ∀ {xs ys : List V} {us ws : List Value}, Vals xs us → Vals ys ws → Vals (xs ++ ys) (us ++ ws)
  | _, _, _, _, .nil, s => s
  | _, _, _, _, .cons r t, s => .cons r (Vals.append t s)
theorem Vals.take : ∀ {xs : List V} {us : List Value} (n : Nat), Vals xs us → Vals (xs.take n) (us.take n)
  | _, _, 0, _ => .nil
  | _, _, _ + 1, .nil => .nil
  | _, _, n + 1, .cons r t => .cons r (Vals.take n t)
theorem Vals.drop : ∀ {xs : List V} {us : List Value} (n : Nat), Vals xs us → Vals (xs.drop n) (us.drop n)
  | _, _, 0, r => r
  | _, _, _ + 1, .nil => .nil
  | _, _, n + 1, .cons _ t => Vals.drop n t
def RelO : Option V → Option Value → Prop
  | some v, some u => RelV v u
  | none, none => True
  | _, _ => False
def KV {κ : Type} : List (κ × V) → List (κ × Value) → Prop := Paired fun (p : κ × V) (q : κ × Value) => p.1 = q.1 ∧ RelV p.2 q.2
def kV : Key → V
  | .inl i => .int i
  | .inr x => .str x
inductive HO where
  /-- a list -/
  | lst (xs : List V)
  /-- a tuple (never changes) -/
  | tup (xs : List V)
  /-- a dict whose keys are ints and texts; one whose keys are tuples of ints and texts (the empty one is both) -/
  | dK (kvs : List (Key × V)) | dT (kvs : List (List Key × V))
  /-- a set of ints: its members, its size -/
  | set (S : Int → Bool) (n : Nat)
  /-- an instance of the class at C, its dict at dx, its attributes -/
  | ins (C dx : Addr) (fs : List (Str × V))
  /-- the dict of the instance at x -/
  | own (x : Addr)
  /-- the dict of an exception -/
  | xd (fs : List (Str × V))
  /-- a bound method, f of x -/
  | met (f x : Addr)
  /-- a range object lo, lo + 1, .. below hi -/
  | rng (lo hi : Int)
  /-- a thing that is known to the object (the script; a dict while a loop walks it): read, never written while it is so -/
  | frz (o : Obj) (u : HO)
  /-- a code object's table -/
  | tbl (ps : Array Value)
  /-- any other thing, by what is true of its one object (a def of one's own: SetO a S n := HO.ext fun h => ..) -/
  | ext (φ : Heap → Prop)
abbrev Hp := Addr → Option HO
def upd (H : Hp) (a : Addr) (o : HO) : Hp := fun b => if b = a then some o else H b
theorem upd_same {H : Hp} {a : Addr} {o : HO} : upd H a o a = some o := by unfold upd; rw [if_pos rfl]
theorem upd_ne {H : Hp} {a b : Addr} {o : HO} (h : b ≠ a) : upd H a o b = H b := by unfold upd; rw [if_neg h]
theorem ne_of {H : Hp} {a b : Addr} {o u : HO} (h : H a = some o) (h' : H b = some u) (d : o ≠ u) : a ≠ b := by
  intro e; subst e; rw [h] at h'; exact d (Option.some.inj h')
theorem ne_of_none {H : Hp} {a b : Addr} {o : HO} (h : H a = some o) (h' : H b = none) : a ≠ b := by
  intro e; subst e; rw [h] at h'; cases h'
section
variable (P : Program) (w : World)
def ObjOk (H : Hp) (h : Heap) (a : Addr) : HO → Prop
  | .lst xs => xs.length ≤ sizeLine ∧ ∃ (its : List Value) (n : Nat), Vals xs its ∧ h.get? a = some { cls := .type "list", data := .seq its.toArray n }
  | .tup xs => xs.length ≤ sizeLine ∧ ∃ its : List Value, Vals xs its ∧ IsTup h a its.toArray
  | .dK kvs => kvs.length ≤ sizeLine ∧ (a == sysModules) = false ∧ ∃ vs, KV kvs vs ∧ h.DictOf (mixKind P w) a vs
  | .dT kvs => kvs.length ≤ sizeLine ∧ (a == sysModules) = false ∧ ∃ xs : List (List Key × Addr × Value),
      Paired (fun (p : List Key × V) (q : List Key × Addr × Value) => p.1 = q.1 ∧ H q.2.1 = some (.tup (p.1.map kV)) ∧ RelV p.2 q.2.2) kvs xs ∧
      ∃ o es ep, h.get? a = some o ∧ o.ExactDict ∧ o.data = .dict es ep ∧ es.toList = xs.map (entryOfKey (tupleKind (mixKind P w))) ∧ (xs.map (·.1)).Nodup
  | .set S n => h.SetOf (intKind P w) a S n
  | .ins C dx fs => H dx = some (.own a) ∧ fs.length ≤ 1000 ∧ dx ≠ a ∧ h.get? a = some (PySem.W.instObj C dx) ∧
      ∃ mA, h.Ns1 dx mA ∧ (∀ f, RelO (fs.lookup f) (mA f)) ∧ PySem.Within mA (fs.map (·.1))
  | .own _ => ∃ o, h.get? a = some o
  | .xd fs => ∃ mA, h.Ns1 a mA ∧ ∀ f, RelO (fs.lookup f) (mA f)
  | .rng lo hi => ∃ t u v, h.get? a = some { cls := .type "range", data := .fields #[.int lo t, .int hi u, .int 1 v] }
  | .frz o u => h.get? a = some o ∧ ObjOk H h a u
  | .tbl ps => h.get? a = some { cls := .none, data := .fields ps }
  | .met f x => h.get? a = some (PySem.W.methodObj (.ref f) (.ref x))
  | .ext φ => φ h ∧ (∃ o, h.get? a = some o) ∧ ∀ h1 h2 : Heap, φ h1 → (∀ o, h1.get? a = some o → h2.get? a = some o) → φ h2
def HOk (H : Hp) (h : Heap) : Prop := ∀ a o, H a = some o → ObjOk P w H h a o
end
section
variable {P : Program} {w : World} {H H' : Hp} {h h' : Heap} {a : Addr} {o : HO}
theorem ObjOk.lt (x : ObjOk P w H h a o) : a < h.objs.size := by
  cases o with
  | lst xs => obtain ⟨_, _, _, _, e⟩ := x; exact Heap.lt_size e
  | tup xs => obtain ⟨_, _, _, p⟩ := x; exact p.lt
  | dK kvs => obtain ⟨_, _, _, _, o, _, _, e, _⟩ := x; exact Heap.lt_size e
  | dT kvs => obtain ⟨_, _, _, _, o, _, _, e, _⟩ := x; exact Heap.lt_size e
  | set S n => obtain ⟨o, _, _, _, e, _⟩ := x; exact Heap.lt_size e
  | ins C dx fs => obtain ⟨_, _, _, e, _⟩ := x; exact Heap.lt_size e
  | own y => obtain ⟨_, e⟩ := x; exact Heap.lt_size e
  | xd fs => obtain ⟨_, ⟨_, _, _, e, _⟩, _⟩ := x; exact Heap.lt_size e
  | rng lo hi => obtain ⟨_, _, _, e⟩ := x; exact Heap.lt_size e
  | frz ob u => obtain ⟨e, _⟩ := x; exact Heap.lt_size e
  | tbl ps => exact Heap.lt_size (show h.get? a = some _ from x)
  | met f y => exact Heap.lt_size (show h.get? a = some _ from x)
  | ext φ => obtain ⟨_, ⟨_, e⟩, _⟩ := x; exact Heap.lt_size e
theorem Paired.mapP {α β : Type} {F G : α → β → Prop} : ∀ {l₁ : List α} {l₂ : List β}, Paired F l₁ l₂ → (∀ a b, F a b → G a b) → Paired G l₁ l₂
  | _, _, .nil, _ => .nil
  | _, _, .cons r t, f => .cons (f _ _ r) (Paired.mapP t f)
theorem ObjOk.stay (x : ObjOk P w H h a o) (k : ∀ b u, (b = a ∨ H b = some (.own a)) → h.get? b = some u → h'.get? b = some u)
    (ho : ∀ b, H b = some (.own a) → H' b = some (.own a)) (ht : ∀ b xs, H b = some (.tup xs) → H' b = some (.tup xs)) : ObjOk P w H' h' a o := by
  induction o with
  | lst xs => obtain ⟨z, its, n, r, e⟩ := x; exact ⟨z, its, n, r, k _ _ (.inl rfl) e⟩
  | tup xs => obtain ⟨z, its, r, ob, e, c⟩ := x; exact ⟨z, its, r, ob, k _ _ (.inl rfl) e, c⟩
  | dK kvs => obtain ⟨z, y, vs, r, ob, es, ep, e, c⟩ := x; exact ⟨z, y, vs, r, ob, es, ep, k _ _ (.inl rfl) e, c⟩
  | dT kvs =>
    obtain ⟨z, y, xs, r, ob, es, ep, e, c⟩ := x
    exact ⟨z, y, xs, Paired.mapP r fun p q z => ⟨z.1, ht _ _ z.2.1, z.2.2⟩, ob, es, ep, k _ _ (.inl rfl) e, c⟩
  | set S n => obtain ⟨ob, es, ep, t, e, c⟩ := x; exact ⟨ob, es, ep, t, k _ _ (.inl rfl) e, c⟩
  | ins C dx fs =>
    obtain ⟨d, z, ne, e, mA, ⟨od, es, ep, e2, c⟩, r⟩ := x
    exact ⟨ho _ d, z, ne, k _ _ (.inl rfl) e, mA, ⟨od, es, ep, k _ _ (.inr d) e2, c⟩, r⟩
  | own y => obtain ⟨ob, e⟩ := x; exact ⟨ob, k _ _ (.inl rfl) e⟩
  | xd fs => obtain ⟨mA, ⟨od, es, ep, e, c⟩, r⟩ := x; exact ⟨mA, ⟨od, es, ep, k _ _ (.inl rfl) e, c⟩, r⟩
  | rng lo hi => obtain ⟨t, u, v, e⟩ := x; exact ⟨t, u, v, k _ _ (.inl rfl) e⟩
  | frz ob u ih => obtain ⟨e, q⟩ := x; exact ⟨k _ _ (.inl rfl) e, ih q⟩
  | tbl ps =>
    have e : h.get? a = some { cls := .none, data := .fields ps } := x
    show h'.get? a = some { cls := .none, data := .fields ps }
    exact k a _ (.inl rfl) e
  | met f y =>
    have e : h.get? a = some (PySem.W.methodObj (.ref f) (.ref y)) := x
    show h'.get? a = some (PySem.W.methodObj (.ref f) (.ref y))
    exact k a _ (.inl rfl) e
  | ext φ => obtain ⟨p, ⟨o, e⟩, st⟩ := x; exact ⟨st _ _ p fun o q => k _ _ (.inl rfl) q, ⟨o, k _ _ (.inl rfl) e⟩, st⟩
theorem HOk.lt (x : HOk P w H h) (e : H a = some o) : a < h.objs.size := (x a o e).lt
theorem HOk.fresh (x : HOk P w H h) (e : h.objs.size ≤ a) : H a = none := by
  cases q : H a with
  | none => rfl
  | some u => exact absurd (Nat.lt_of_lt_of_le (x.lt q) e) (Nat.lt_irrefl _)
theorem HOk.kept (x : HOk P w H h) (k : ∀ b u, h.get? b = some u → h'.get? b = some u) : HOk P w H h' := fun a o e =>
  (x a o e).stay (fun b u _ q => k b u q) (fun _ q => q) fun _ _ q => q
theorem HOk.laid (x : HOk P w H h) (k : ∀ b u, h.get? b = some u → h'.get? b = some u) (hp : h.objs.size ≤ a) (new : ObjOk P w (upd H a o) h' a o) : HOk P w (upd H a o) h' := fun b u e => by
  have hn := x.fresh hp
  by_cases hb : b = a
  · subst hb; rw [upd_same] at e; cases e; exact new
  · rw [upd_ne hb] at e
    exact (x b u e).stay (fun c v _ q => k c v q) (fun c q => by rw [upd_ne (ne_of_none q hn)]; exact q) fun c xs q => by rw [upd_ne (ne_of_none q hn)]; exact q
end
def Rd (H : Hp) (a : Addr) (u : HO) : Prop := H a = some u ∨ ∃ o, H a = some (.frz o u)
theorem Rd.ok {P : Program} {w : World} {H : Hp} {h : Heap} {a : Addr} {u : HO} (r : Rd H a u) (x : HOk P w H h) : ObjOk P w H h a u := by
  rcases r with r | ⟨o, r⟩
  · exact x a u r
  · obtain ⟨_, q⟩ := x a _ r
    exact q
def Mut : Option HO → Prop
  | some (.lst _) => True
  | some (.dK _) => True
  | some (.dT _) => True
  | some (.set _ _) => True
  | some (.ins _ _ _) => True
  | some (.ext _) => True
  | _ => False
section
variable {P : Program} {w : World} {H : Hp} {h h' : Heap} {x e : Addr} {o' : HO}
theorem HOk.write (ok : HOk P w H h) (mu : Mut (H x)) (he : e = x ∨ H e = some (.own x)) (k : ∀ b u, b ≠ e → h.get? b = some u → h'.get? b = some u) (heo : ∃ u, h'.get? e = some u)
    (new : ObjOk P w (upd H x o') h' x o') : HOk P w (upd H x o') h' := fun b u q => by
  have nown : ∀ c y, H c = some (.own y) → c ≠ x := fun c y r z => by subst z; rw [r] at mu; exact mu
  have ntup : ∀ c xs, H c = some (.tup xs) → c ≠ x := fun c xs r z => by subst z; rw [r] at mu; exact mu
  by_cases hb : b = x
  · subst hb; rw [upd_same] at q; cases q; exact new
  · rw [upd_ne hb] at q
    by_cases hbe : b = e
    · have q' : H b = some (.own x) := by
        rcases he with z | z
        · exact absurd (hbe.trans z) hb
        · rw [hbe]; exact z
      rw [q] at q'; cases q'
      obtain ⟨v, hv⟩ := heo
      exact ⟨v, by rw [hbe]; exact hv⟩
    · refine (ok b u q).stay (fun c v hc r => k c v ?_ r) (fun c r => by rw [upd_ne (nown c b r)]; exact r) fun c xs r => by rw [upd_ne (ntup c xs r)]; exact r
      rcases hc with rfl | hc
      · exact hbe
      · rintro rfl
        rcases he with z | z
        · exact nown c b hc z
        · rw [hc] at z; cases z; exact hb rfl
end
structure Un (fs ex : List Addr) (H H' : Hp) (h h' : Heap) : Prop where
  keep : ∀ b o, h.get? b = some o → H b = none → b ∉ fs → b ∉ ex → h'.get? b = some o
  slot : ∀ b o, h.get? b = some o → H b = none → b ∈ fs → b ∉ ex → ∃ sl, h'.get? b = some { o with slots := sl }
  free : ∀ b o, h.get? b = some o → H b = none → b ∉ ex → H' b = none
  there : ∀ b o, h.get? b = some o → b ∉ ex → ∃ o', h'.get? b = some o'
  tups : ∀ b xs, H b = some (.tup xs) → H' b = some (.tup xs)
  frzs : ∀ b o u, H b = some (.frz o u) → H' b = some (.frz o u)
  tbls : ∀ b ps, H b = some (.tbl ps) → ∃ more, H' b = some (.tbl (ps ++ more))
section
variable {fs fs' ex ex' : List Addr} {H H1 H2 : Hp} {h h1 h2 h' : Heap} {a x e : Addr} {o : HO}
theorem Un.any (u : Un fs ex H H1 h h1) {b : Addr} {ob : Obj} (q : h.get? b = some ob) (n : H b = none) (hx : b ∉ ex) : ∃ sl, h1.get? b = some { ob with slots := sl } := by
  by_cases hb : b ∈ fs
  · exact u.slot b ob q n hb hx
  · exact ⟨ob.slots, u.keep b ob q n hb hx⟩
theorem Un.kept (k : ∀ b u, h.get? b = some u → h'.get? b = some u) : Un fs ex H H h h' :=
  ⟨fun b ob q _ _ _ => k b ob q, fun b ob q _ _ _ => ⟨ob.slots, k b ob q⟩, fun _ _ _ n _ => n, fun b ob q _ => ⟨ob, k b ob q⟩, fun _ _ q => q, fun _ _ _ q => q, fun _ ps q => ⟨#[], by rw [q]; simp⟩⟩
theorem Un.refl : Un fs ex H H h h := Un.kept fun _ _ q => q
theorem Un.laid (k : ∀ b u, h.get? b = some u → h'.get? b = some u) (hp : h.objs.size ≤ a) (hn : H a = none) : Un fs ex H (upd H a o) h h' where
  keep := fun b u q _ _ _ => k b u q
  slot := fun b u q _ _ _ => ⟨u.slots, k b u q⟩
  free := fun b u q n _ => by rw [upd_ne (Nat.ne_of_lt (Nat.lt_of_lt_of_le (Heap.lt_size q) hp))]; exact n
  there := fun b u q _ => ⟨u, k b u q⟩
  tups := fun b xs q => by rw [upd_ne (ne_of_none q hn)]; exact q
  frzs := fun b u xs q => by rw [upd_ne (ne_of_none q hn)]; exact q
  tbls := fun b ps q => ⟨#[], by rw [upd_ne (ne_of_none q hn), q]; simp⟩
theorem Un.write (mu : Mut (H x)) (he : e = x ∨ H e = some (.own x)) (k : ∀ b u, b ≠ e → h.get? b = some u → h'.get? b = some u) (heo : ∃ u, h'.get? e = some u) : Un fs ex H (upd H x o) h h' := by
  have hx : ∀ b, H b = none → b ≠ x := fun b n z => by subst z; rw [n] at mu; exact mu
  have hb : ∀ b, H b = none → b ≠ e := fun b n z => by
    subst z
    rcases he with r | r
    · exact hx b n r
    · rw [n] at r; cases r
  have hm : ∀ b u, H b = some u → ¬ Mut (some u) → b ≠ x := fun b u q nm z => by subst z; rw [q] at mu; exact nm mu
  refine ⟨fun b u q n _ _ => k b u (hb b n) q, fun b u q n _ _ => ⟨u.slots, k b u (hb b n) q⟩, fun b u q n _ => by rw [upd_ne (hx b n)]; exact n, fun b u q _ => ?_,
    fun b xs q => by rw [upd_ne (hm b _ q fun z => z)]; exact q, fun b u xs q => by rw [upd_ne (hm b _ q fun z => z)]; exact q, fun b ps q => ⟨#[], by rw [upd_ne (hm b _ q fun z => z), q]; simp⟩⟩
  by_cases hbe : b = e
  · subst hbe; exact heo
  · exact ⟨u, k b u hbe q⟩
end
def trk (h : Heap) (H : Hp) : List Addr := (List.range h.objs.size).filter fun a => (H a).isSome
def hidT (h : Heap) (H : Hp) : Heap := PySem.W.hideAll h (trk h H)
theorem hidT_size (h : Heap) (H : Hp) : (hidT h H).objs.size = h.objs.size := PySem.W.hideAll_size _ _
theorem hidT_get {h : Heap} {H : Hp} {b : Addr} {o : Obj} (e : h.get? b = some o) (n : H b = none) : (hidT h H).get? b = some o :=
  PySem.W.hideAll_get _ e fun hm => by
    have q : (H b).isSome = true := (List.mem_filter.mp hm).2
    rw [n] at q; simp at q
theorem of_hidT {h : Heap} {H : Hp} {b : Addr} {o : Obj} (e : (hidT h H).get? b = some o) : h.get? b = some o ∧ H b = none := by
  have e' : h.get? b = some o := PySem.W.of_hideAll (trk h H) e
  refine ⟨e', ?_⟩
  cases q : H b with
  | none => rfl
  | some x =>
    have hm : b ∈ trk h H := List.mem_filter.mpr ⟨List.mem_range.mpr (Heap.lt_size e'), by simp [q]⟩
    have z : (hidT h H).get? b = none := PySem.W.hideAll_none (trk h H) hm
    rw [z] at e; cases e
end L2
namespace L2
open PySem PySem.Spec PyProof.Rows
structure Mod (K : PySem.W.Frag) (mg : Str → Option Value) (base : Heap) : Prop where
  kin : K.In base
  glob : base.Ns mainGlobals mg
  blt : ∃ mb, base.Ns builtinsNs mb ∧ ∀ x : Str, x ≠ "__name__" → mb x = bootBuiltins x
  nolimit : base.NoLimit
structure Cx where
  prog : Program
  w : World
  K : PySem.W.Frag
  mg : Str → Option Value
  base : Heap
  A : Around
  N : List Str
  s_0 : Shared
  H_0 : Hp
  env : Env
  outer : List Env
  stack : List Env
  ex : List Addr
  fn : Str → Bool
  calm : Bool
  pn : List (Addr × Obj)
  xe : Value → Shared → Prop
def frs (l : List Env) : List Addr := l.filterMap (·.frame)
abbrev Cx.fs (X : Cx) : List Addr := frs X.outer
def Vis (sc : Scope) (x : Str) : Prop := sc.names.lookup x = some .local ∨ sc.names.lookup x = some .cell ∨ sc.names.lookup x = some .free
def Loc (sc : Scope) (x : Str) : Prop := sc.names.lookup x = some .local ∨ sc.names.lookup x = some .cell
def Look (env : Env) (h : Heap) (m : Str → Option Value) (x : Str) (u : Value) : Prop :=
  (env.kindOf x = some .local ∧ m x = some u) ∨ ((env.kindOf x = some .cell ∨ env.kindOf x = some .free) ∧ ∃ c, env.cells.lookup x = some c ∧ h.IsCell c (some u))
structure Cx.Ok (X : Cx) : Prop where
  mod : Mod X.K X.mg X.base
  kind : X.env.scope.kind = .function
  glob : X.env.globals = mainGlobals
  blt : X.env.builtins = builtinsNs
  above : X.s_0.heap.objs.size ≤ X.env.locals
  inj : ∀ x y c, X.env.cells.lookup x = some c → X.env.cells.lookup y = some c → x = y
  has : ∀ x, (X.env.kindOf x = some .cell ∨ X.env.kindOf x = some .free) → ∃ c, X.env.cells.lookup x = some c
  cab : ∀ x c, X.fn x = true → X.env.cells.lookup x = some c → X.s_0.heap.objs.size ≤ c
  hd : X.calm = true → X.A.handled = none
  frames : X.A.frames = some X.stack
  stk : X.stack = X.outer ∨ (X.stack = X.env :: X.outer ∧ X.env.frame = some X.env.locals)
  exf : ∀ b ∈ X.ex, b ≠ X.env.locals ∧ ∀ x c, X.env.cells.lookup x = some c → c ≠ b
  bs : ∀ b o, X.base.get? b = some o → X.s_0.heap.get? b = some o ∧ X.H_0 b = none
  bsz : X.base.objs.size ≤ X.s_0.heap.objs.size
  noex : ∀ b o, X.base.get? b = some o → b ∉ X.ex
  exfs : ∀ b ∈ X.ex, b ∉ X.fs
  funs : X.s_0.heap.FunFrames X.base X.outer
  frf : ∀ b ∈ X.fs, X.H_0 b = none
structure Inv (X : Cx) (pins : List (Addr × Obj)) (σ : List (Option V)) (H : Hp) (s : Shared) : Prop where
  ok : X.Ok
  os : s.os = X.s_0.os
  bare : AllBare s.gens
  base : Un X.fs X.ex X.H_0 H X.s_0.heap s.heap
  loc : ∃ m, s.heap.Ns X.env.locals m ∧ ∀ (i : Nat) (x : Str) (v : V), X.N[i]? = some x → σ[i]? = some (some v) → Vis X.env.scope x → ∃ u, RelV v u ∧ Look X.env s.heap m x u
  cell : ∀ x c, X.env.cells.lookup x = some c → ∃ v, s.heap.IsCell c v
  free : H X.env.locals = none
  freeC : ∀ x c, X.env.cells.lookup x = some c → H c = none
  pin : ∀ p ∈ X.pn ++ pins, s.heap.get? p.1 = some p.2 ∧ H p.1 = none ∧ p.1 ≠ X.env.locals ∧ p.1 ∉ X.fs ∧ ∀ v, p.2.data ≠ .cell v
  hok : HOk X.prog X.w H s.heap
  len : σ.length = X.N.length
section
variable {X : Cx} {pins : List (Addr × Obj)} {σ : List (Option V)} {H H' : Hp} {s : Shared} {h' : Heap}
theorem Cx.Ok.nofr (ok : X.Ok) {b : Addr} {o : Obj} (e : X.base.get? b = some o) : b ∉ X.fs := fun hb => by
  have := (ok.funs.mem hb).1
  rw [e] at this; cases this
theorem Inv.bs (I : Inv X pins σ H s) : ∀ b o, X.base.get? b = some o → s.heap.get? b = some o ∧ H b = none := fun b o e =>
  ⟨I.base.keep b o (I.ok.bs b o e).1 (I.ok.bs b o e).2 (I.ok.nofr e) (I.ok.noex b o e), I.base.free b o (I.ok.bs b o e).1 (I.ok.bs b o e).2 (I.ok.noex b o e)⟩
theorem Inv.bk (I : Inv X pins σ H s) : ∀ b o, X.base.get? b = some o → s.heap.get? b = some o := fun b o e => (I.bs b o e).1
theorem Inv.mod (I : Inv X pins σ H s) : Mod X.K X.mg X.base := I.ok.mod
theorem Inv.kIn (I : Inv X pins σ H s) : X.K.In s.heap := I.ok.mod.kin.keeps I.bk
theorem Inv.fr (I : Inv X pins σ H s) : ∃ m, Fr X.base X.env.locals s.heap m :=
  let ⟨m, hn, _⟩ := I.loc
  ⟨m, hn, I.bk, Nat.le_trans I.ok.bsz I.ok.above⟩
theorem Inv.lt (I : Inv X pins σ H s) : X.env.locals < s.heap.objs.size := let ⟨_, hn, _⟩ := I.loc; hn.lt
theorem Inv.sz (I : Inv X pins σ H s) : X.s_0.heap.objs.size ≤ s.heap.objs.size := Nat.le_trans I.ok.above (Nat.le_of_lt I.lt)
theorem Inv.nofs (I : Inv X pins σ H s) {a : Addr} (h : s.heap.objs.size ≤ a) : a ∉ X.fs := fun hb => by
  obtain ⟨_, o, ho, _⟩ := I.ok.funs.mem hb
  exact absurd (Nat.lt_of_lt_of_le (Heap.lt_size ho) (Nat.le_trans I.sz h)) (Nat.lt_irrefl _)
theorem Inv.cne (I : Inv X pins σ H s) : ∀ x c, X.env.cells.lookup x = some c → c ≠ X.env.locals := fun x c e z => by
  obtain ⟨v, o, ho, hd⟩ := I.cell x c e
  obtain ⟨m, ⟨o', es, ep, ho', hd', _⟩, _⟩ := I.loc
  rw [z, ho'] at ho; cases ho; rw [hd'] at hd; cases hd
theorem Inv.funs (I : Inv X pins σ H s) : s.heap.FunFrames X.base X.outer := by
  have all : ∀ (l : List Env), (∀ b ∈ frs l, b ∈ X.fs) → X.s_0.heap.FunFrames X.base l → s.heap.FunFrames X.base l := by
    intro l
    induction l with
    | nil => intro _ _; trivial
    | cons env r ih =>
      intro hs hl
      obtain ⟨hk, ⟨L, o, hf, hn, ho, hd⟩, hr⟩ := hl
      have hL : L ∈ X.fs := hs L (by unfold frs; rw [List.filterMap_cons, hf]; exact List.mem_cons_self)
      obtain ⟨sl, e⟩ := I.base.slot L o ho (I.ok.frf L hL) hL fun z => I.ok.exfs L z hL
      exact ⟨hk, ⟨L, _, hf, hn, e, hd⟩, ih (fun b hb => hs b (by unfold frs; rw [List.filterMap_cons, hf]; exact List.mem_cons_of_mem _ hb)) hr⟩
  exact all X.outer (fun _ hb => hb) I.ok.funs
theorem Inv.stack (I : Inv X pins σ H s) : s.heap.FunFrames X.base X.stack := by
  rcases I.ok.stk with e | ⟨e, hf⟩
  · rw [e]; exact I.funs
  · rw [e]
    obtain ⟨m, hn, _⟩ := I.loc
    refine .cons (by rw [I.ok.kind]; decide) hf hn ?_ I.funs
    exact Heap.get?_none_of_le (Nat.le_trans I.ok.bsz I.ok.above)
theorem Inv.stkSub (I : Inv X pins σ H s) : ∀ b ∈ frs X.stack, b ∈ X.env.locals :: X.fs := fun b hb => by
  rcases I.ok.stk with e | ⟨e, hf⟩
  · rw [e] at hb; exact List.mem_cons_of_mem _ hb
  · rw [e] at hb
    unfold frs at hb
    rw [List.filterMap_cons, hf] at hb
    exact hb
theorem Inv.stkFree (I : Inv X pins σ H s) : ∀ b ∈ frs X.stack, H b = none := fun b hb => by
  rcases List.mem_cons.mp (I.stkSub b hb) with e | hb
  · rw [e]; exact I.free
  · obtain ⟨_, o, ho, _⟩ := I.ok.funs.mem hb
    exact I.base.free b o ho (I.ok.frf b hb) fun z => I.ok.exfs b z hb
theorem Inv.step {g' : Array GenState} {t' : Nat} {d' : Drawn} {ch : List Addr} (I : Inv X pins σ H s)
    (hch : ∀ b ∈ ch, (b ∈ X.ex ∨ X.s_0.heap.objs.size ≤ b) ∧ b ≠ X.env.locals ∧ (∀ x c, X.env.cells.lookup x = some c → c ≠ b) ∧ ∀ p ∈ X.pn ++ pins, p.1 ≠ b)
    (keep : ∀ b o, b ≠ X.env.locals → b ∉ X.fs → b ∉ ch → s.heap.get? b = some o → H b = none → h'.get? b = some o)
    (slot : ∀ b o, b ≠ X.env.locals → b ∈ X.fs → b ∉ ch → s.heap.get? b = some o → H b = none → ∃ sl, h'.get? b = some { o with slots := sl }) (free : ∀ b o, b ∉ ch → s.heap.get? b = some o → H b = none → H' b = none)
    (there : ∀ b o, b ∉ ch → s.heap.get? b = some o → ∃ o', h'.get? b = some o')
    (tups : ∀ b xs, H b = some (.tup xs) → H' b = some (.tup xs)) (frzs : ∀ b o u, H b = some (.frz o u) → H' b = some (.frz o u)) (tbls : ∀ b ps, H b = some (.tbl ps) → ∃ more, H' b = some (.tbl (ps ++ more)))
    (ns : ∀ m, s.heap.Ns X.env.locals m → h'.Ns X.env.locals m) (hok : HOk X.prog X.w H' h') (hg : AllBare g') :
    Inv X pins σ H' { s with heap := h', gens := g', drawn := d', toks := t' } := by
  have neL : ∀ b o, X.s_0.heap.get? b = some o → b ≠ X.env.locals := fun b o e => Nat.ne_of_lt (Nat.lt_of_lt_of_le (Heap.lt_size e) I.ok.above)
  have neC : ∀ b o, X.s_0.heap.get? b = some o → b ∉ X.ex → b ∉ ch := fun b o e hx hb => by
    rcases (hch b hb).1 with z | z
    · exact hx z
    · exact absurd (Nat.lt_of_lt_of_le (Heap.lt_size e) z) (Nat.lt_irrefl _)
  have cellK : ∀ x c, X.env.cells.lookup x = some c → ∀ v, s.heap.IsCell c v → h'.IsCell c v := fun x c e v ⟨o, ho, hd⟩ => by
    have nch : c ∉ ch := fun z => (hch c z).2.2.1 x c e rfl
    by_cases hc : c ∈ X.fs
    · obtain ⟨sl, q⟩ := slot c o (I.cne x c e) hc nch ho (I.freeC x c e)
      exact ⟨_, q, hd⟩
    · exact ⟨o, keep c o (I.cne x c e) hc nch ho (I.freeC x c e), hd⟩
  refine ⟨I.ok, I.os, hg, ⟨fun b o e n hb hx => ?_, fun b o e n hb hx => ?_, fun b o e n hx => ?_, fun b o e hx => ?_, fun b xs e => tups b xs (I.base.tups b xs e), fun b o xs e => frzs b o xs (I.base.frzs b o xs e), fun b ps e => ?_⟩, ?_, fun x c e => ?_, ?_, fun x c e => ?_, fun p hp => ?_, hok, I.len⟩
  · exact keep b o (neL b o e) hb (neC b o e hx) (I.base.keep b o e n hb hx) (I.base.free b o e n hx)
  · obtain ⟨sl, e1⟩ := I.base.slot b o e n hb hx
    obtain ⟨sl', e2⟩ := slot b _ (neL b o e) hb (neC b o e hx) e1 (I.base.free b o e n hx)
    exact ⟨sl', e2⟩
  · obtain ⟨o', e1⟩ := I.base.there b o e hx
    exact free b o' (neC b o e hx) e1 (I.base.free b o e n hx)
  · obtain ⟨o', e1⟩ := I.base.there b o e hx
    exact there b o' (neC b o e hx) e1
  · obtain ⟨m1, e1⟩ := I.base.tbls b ps e
    obtain ⟨m2, e2⟩ := tbls b _ e1
    exact ⟨m1 ++ m2, by rw [e2, Array.append_assoc]⟩
  · obtain ⟨m, hn, hl⟩ := I.loc
    refine ⟨m, ns m hn, fun i x v e1 e2 e3 => ?_⟩
    obtain ⟨u, r, l⟩ := hl i x v e1 e2 e3
    refine ⟨u, r, ?_⟩
    rcases l with l | ⟨k, c, e, z⟩
    · exact .inl l
    · exact .inr ⟨k, c, e, cellK x c e _ z⟩
  · obtain ⟨v, z⟩ := I.cell x c e
    exact ⟨v, cellK x c e v z⟩
  · obtain ⟨m, ⟨o, _, _, ho, _⟩, _⟩ := I.loc
    exact free _ o (fun z => (hch _ z).2.1 rfl) ho I.free
  · obtain ⟨v, o, ho, hd⟩ := I.cell x c e
    exact free c o (fun z => (hch c z).2.2.1 x c e rfl) ho (I.freeC x c e)
  · obtain ⟨e, n, ne, nf, d⟩ := I.pin p hp
    have nch : p.1 ∉ ch := fun z => (hch p.1 z).2.2.2 p hp rfl
    exact ⟨keep p.1 p.2 ne nf nch e n, free p.1 p.2 nch e n, ne, nf, d⟩
theorem Inv.un {t' : Nat} (I : Inv X pins σ H s) (u : Un X.fs [] H H' s.heap h') (hok : HOk X.prog X.w H' h') : Inv X pins σ H' { s with heap := h', toks := t' } := by
  obtain ⟨m, ⟨o, es, ep, ho, r⟩, _⟩ := id I.loc
  obtain ⟨sl, hL⟩ := u.any ho I.free (by simp)
  exact I.step (g' := s.gens) (d' := s.drawn) (ch := []) (fun _ z => nomatch z) (fun b o _ hb _ e n => u.keep b o e n hb (by simp)) (fun b o _ hb _ e n => u.slot b o e n hb (by simp)) (fun b o _ e n => u.free b o e n (by simp)) (fun b o _ e => u.there b o e (by simp)) u.tups u.frzs u.tbls (fun m' hm => by
    obtain ⟨o', es', ep', ho', r'⟩ := hm
    rw [ho] at ho'; cases ho'
    exact ⟨_, es', ep', hL, r'⟩) hok I.bare
theorem Inv.call {g' : Array GenState} {t' : Nat} {d' : Drawn} {ch : List Addr} (I : Inv X pins σ H s) (u : Un (frs X.stack) ch H H' s.heap h') (hok : HOk X.prog X.w H' h') (hg : AllBare g')
    (hch : ∀ b ∈ ch, (b ∈ X.ex ∨ X.s_0.heap.objs.size ≤ b) ∧ b ≠ X.env.locals ∧ (∀ x c, X.env.cells.lookup x = some c → c ≠ b) ∧ ∀ p ∈ X.pn ++ pins, p.1 ≠ b) :
    Inv X pins σ H' { s with heap := h', gens := g', drawn := d', toks := t' } := by
  obtain ⟨m, ⟨o, es, ep, ho, r⟩, _⟩ := id I.loc
  obtain ⟨sl, hL⟩ := u.any ho I.free fun z => (hch _ z).2.1 rfl
  exact I.step (ch := ch) hch (fun b o hL hb hc e n => u.keep b o e n (fun z => (List.mem_cons.mp (I.stkSub b z)).elim hL hb) hc) (fun b o _ _ hc e n => u.any e n hc) (fun b o hc e n => u.free b o e n hc) (fun b o hc e => u.there b o e hc) u.tups u.frzs u.tbls (fun m' hm => by
    obtain ⟨o', es', ep', ho', r'⟩ := hm
    rw [ho] at ho'; cases ho'
    exact ⟨_, es', ep', hL, r'⟩) hok hg
theorem Inv.turned {t' : Nat} {it : Addr} (I : Inv X pins σ H s) (k : ∀ b o, b ≠ it → s.heap.get? b = some o → h'.get? b = some o) (hn : H it = none) (hL : it ≠ X.env.locals)
    (h1 : it ∈ X.ex ∨ X.s_0.heap.objs.size ≤ it) (h2 : ∀ x c, X.env.cells.lookup x = some c → c ≠ it) (h3 : ∀ p ∈ X.pn ++ pins, p.1 ≠ it) : Inv X pins σ H { s with heap := h', toks := t' } := by
  have nit : ∀ b u, H b = some u → b ≠ it := fun b u e z => by rw [z, hn] at e; cases e
  refine I.step (g' := s.gens) (d' := s.drawn) (ch := [it]) (fun b hb => ?_) (fun b o _ _ hc e _ => k b o (fun z => hc (by simp [z])) e) (fun b o _ _ hc e _ => ⟨o.slots, k b o (fun z => hc (by simp [z])) e⟩) (fun _ _ _ _ n => n)
    (fun b o hc e => ⟨o, k b o (fun z => hc (by simp [z])) e⟩) (fun _ _ e => e) (fun _ _ _ e => e) (fun b ps e => ⟨#[], by rw [e]; simp⟩) (fun m hm => ?_) (fun b u e => ?_) I.bare
  · have e : b = it := by simpa using hb
    subst e
    exact ⟨h1, hL, h2, h3⟩
  · obtain ⟨o, es, ep, ho, r⟩ := hm
    exact ⟨o, es, ep, k _ o (Ne.symm hL) ho, r⟩
  · refine (I.hok b u e).stay (fun c v hc q => k c v ?_ q) (fun _ q => q) fun _ _ q => q
    rcases hc with z | z
    · rw [z]; exact nit b u e
    · exact nit c _ z
theorem Inv.tok (I : Inv X pins σ H s) (t : Nat) : Inv X pins σ H { s with toks := t } := I.un (h' := s.heap) (t' := t) Un.refl I.hok
theorem Inv.kept {t' : Nat} (I : Inv X pins σ H s) (k : ∀ b u, s.heap.get? b = some u → h'.get? b = some u) : Inv X pins σ H { s with heap := h', toks := t' } := I.un (Un.kept k) (I.hok.kept k)
theorem Inv.laid {a : Addr} {o : HO} {t' : Nat} (I : Inv X pins σ H s) (k : ∀ b u, s.heap.get? b = some u → h'.get? b = some u) (hp : s.heap.objs.size ≤ a) (new : ObjOk X.prog X.w (upd H a o) h' a o) :
    Inv X pins σ (upd H a o) { s with heap := h', toks := t' } := I.un (Un.laid k hp (I.hok.fresh hp)) (I.hok.laid k hp new)
theorem Inv.write {x e : Addr} {o : HO} {t' : Nat} (I : Inv X pins σ H s) (mu : Mut (H x)) (he : e = x ∨ H e = some (.own x)) (k : ∀ b u, b ≠ e → s.heap.get? b = some u → h'.get? b = some u) (heo : ∃ u, h'.get? e = some u)
    (new : ObjOk X.prog X.w (upd H x o) h' x o) : Inv X pins σ (upd H x o) { s with heap := h', toks := t' } := I.un (Un.write mu he k heo) (I.hok.write mu he k heo new)
theorem Inv.weak {σ' : List (Option V)} (I : Inv X pins σ H s) (hl : σ'.length = σ.length) (w : ∀ (i : Nat) v, σ'[i]? = some (some v) → σ[i]? = some (some v)) : Inv X pins σ' H s :=
  ⟨I.ok, I.os, I.bare, I.base, let ⟨m, hn, hl'⟩ := I.loc; ⟨m, hn, fun i x v e1 e2 e3 => hl' i x v e1 (w i v e2) e3⟩, I.cell, I.free, I.freeC, I.pin, I.hok, hl.trans I.len⟩
theorem Inv.pins_of {pins' : List (Addr × Obj)} (I : Inv X pins σ H s) (h : ∀ p ∈ pins', s.heap.get? p.1 = some p.2 ∧ H p.1 = none ∧ p.1 ≠ X.env.locals ∧ p.1 ∉ X.fs ∧ ∀ v, p.2.data ≠ .cell v) : Inv X pins' σ H s :=
  ⟨I.ok, I.os, I.bare, I.base, I.loc, I.cell, I.free, I.freeC, fun p hp => (List.mem_append.mp hp).elim (fun z => I.pin p (List.mem_append_left _ z)) (h p), I.hok, I.len⟩
theorem nodup_ix {N : List Str} (hN : N.Nodup) {i j : Nat} {x : Str} (a : N[i]? = some x) (b : N[j]? = some x) : i = j := by
  obtain ⟨h1, e1⟩ := List.getElem?_eq_some_iff.mp a
  obtain ⟨h2, e2⟩ := List.getElem?_eq_some_iff.mp b
  exact (List.getElem_inj hN).mp (e1.trans e2.symm)
theorem store_ok2 {M : Model} {A : Around} {E : Value → Shared → Prop} {i : Nat} {x : Str} {v : V} {u : Value} {Q : Unit → Shared → Prop} (I : Inv X pins σ H s) (hN : X.N.Nodup) (hi : X.N[i]? = some x) (hx : Loc X.env.scope x) (r : RelV v u)
    (h : ∀ s', Inv X pins (σ.set i (some v)) H s' → (∃ a, Heap.SameBut a s.heap s'.heap ∧ (a = X.env.locals ∨ X.env.cells.lookup x = some a)) → Q () s') (hf : X.fn x = true ∨ X.env.scope.names.lookup x = some .local := by first | exact .inl rfl | exact .inr rfl | assumption) : wpAny M A (storeName X.env x u) Q E s := by
  obtain ⟨m, hn, hl⟩ := id I.loc
  have hcls : (X.env.scope.kind == .class || (X.env.scope.kind == .module && X.env.locals != X.env.globals)) = false := by rw [I.ok.kind]; rfl
  have hiσ : i < σ.length := by rw [I.len]; exact (List.getElem?_eq_some_iff.mp hi).1
  have cne := I.cne
  have tracked : ∀ {a : Addr} {h' : Heap}, (∃ o, s.heap.get? a = some o ∧ H a = none) → Heap.SameBut a s.heap h' → HOk X.prog X.w H h' := fun {a h'} ha hs b ob e => by
    obtain ⟨_, _, hfree⟩ := ha
    refine (I.hok b ob e).stay (fun c w' hc q => (hs.2 c ?_).trans q) (fun _ q => q) fun _ _ q => q
    rintro rfl
    rcases hc with rfl | hc
    · rw [hfree] at e; cases e
    · rw [hfree] at hc; cases hc
  rcases hx with hk | hk
  · refine wpAny_storeName_local hk hn (fun h' hn' hs => ?_) hcls
    obtain ⟨oL, _, _, hoL, _⟩ := id hn
    refine h _ ⟨I.ok, I.os, I.bare, ⟨fun b o e n hb hx => ?_, fun b o e n hb hx => ?_, I.base.free, fun b o e hx => ?_, I.base.tups, I.base.frzs, I.base.tbls⟩, ⟨_, hn', fun j y v' e1 e2 e3 => ?_⟩, fun y c e => ?_, I.free, I.freeC, fun p hp => ?_, tracked ⟨oL, hoL, I.free⟩ hs, by simpa using I.len⟩ ⟨_, hs, .inl rfl⟩
    · exact (hs.2 b (Nat.ne_of_lt (Nat.lt_of_lt_of_le (Heap.lt_size e) I.ok.above))).trans (I.base.keep b o e n hb hx)
    · obtain ⟨sl, e1⟩ := I.base.slot b o e n hb hx
      exact ⟨sl, (hs.2 b (Nat.ne_of_lt (Nat.lt_of_lt_of_le (Heap.lt_size e) I.ok.above))).trans e1⟩
    · obtain ⟨o', e1⟩ := I.base.there b o e hx
      exact ⟨o', (hs.2 b (Nat.ne_of_lt (Nat.lt_of_lt_of_le (Heap.lt_size e) I.ok.above))).trans e1⟩
    · by_cases hj : j = i
      · subst hj
        rw [hi] at e1; cases e1
        rw [List.getElem?_set_self hiσ] at e2
        cases e2
        exact ⟨u, r, .inl ⟨hk, by simp⟩⟩
      · rw [List.getElem?_set_ne (Ne.symm hj)] at e2
        obtain ⟨u', r', q⟩ := hl j y v' e1 e2 e3
        refine ⟨u', r', ?_⟩
        rcases q with ⟨k, e⟩ | ⟨k, c, e, z⟩
        · refine .inl ⟨k, ?_⟩
          have : y ≠ x := fun e => hj (nodup_ix hN e1 (e ▸ hi))
          simp [this, e]
        · exact .inr ⟨k, c, e, z.sameBut hs (cne y c e)⟩
    · obtain ⟨w', z⟩ := I.cell y c e
      exact ⟨w', z.sameBut hs (cne y c e)⟩
    · obtain ⟨e, n, ne, nf, d⟩ := I.pin p hp
      exact ⟨(hs.2 p.1 ne).trans e, n, ne, nf, d⟩
  · have hfn : X.fn x = true := by
      rcases hf with z | z
      · exact z
      · rw [z] at hk; cases hk
    obtain ⟨c, hc⟩ := I.ok.has x (.inl hk)
    obtain ⟨w', z⟩ := I.cell x c hc
    refine wpAny_storeName_cell I.ok.kind hk hc z (fun h' hc' hs => ?_)
    obtain ⟨oc, hoc, hocd⟩ := id z
    refine h { s with heap := h' } ⟨I.ok, I.os, I.bare, ⟨fun b o e n hb hx => ?_, fun b o e n hb hx => ?_, I.base.free, fun b o e hx => ?_, I.base.tups, I.base.frzs, I.base.tbls⟩, ⟨m, hn.sameBut hs (Ne.symm (cne x c hc)), fun j y v' e1 e2 e3 => ?_⟩, fun y c' e => ?_, I.free, I.freeC, fun p hp => ?_, tracked ⟨oc, hoc, I.freeC x c hc⟩ hs, by simpa using I.len⟩ ⟨c, hs, .inr hc⟩
    · exact (hs.2 b (Nat.ne_of_lt (Nat.lt_of_lt_of_le (Heap.lt_size e) (I.ok.cab x c hfn hc)))).trans (I.base.keep b o e n hb hx)
    · obtain ⟨sl, e1⟩ := I.base.slot b o e n hb hx
      exact ⟨sl, (hs.2 b (Nat.ne_of_lt (Nat.lt_of_lt_of_le (Heap.lt_size e) (I.ok.cab x c hfn hc)))).trans e1⟩
    · obtain ⟨o', e1⟩ := I.base.there b o e hx
      exact ⟨o', (hs.2 b (Nat.ne_of_lt (Nat.lt_of_lt_of_le (Heap.lt_size e) (I.ok.cab x c hfn hc)))).trans e1⟩
    · by_cases hj : j = i
      · subst hj
        rw [hi] at e1; cases e1
        rw [List.getElem?_set_self hiσ] at e2
        cases e2
        exact ⟨u, r, .inr ⟨.inl hk, c, hc, hc'⟩⟩
      · rw [List.getElem?_set_ne (Ne.symm hj)] at e2
        obtain ⟨u', r', q⟩ := hl j y v' e1 e2 e3
        refine ⟨u', r', ?_⟩
        rcases q with q | ⟨k, c', e, z'⟩
        · exact .inl q
        · refine .inr ⟨k, c', e, z'.sameBut hs ?_⟩
          rintro rfl
          exact hj (nodup_ix hN e1 (I.ok.inj _ _ _ e hc ▸ hi))
    · by_cases hcc : c' = c
      · subst hcc; exact ⟨_, hc'⟩
      · obtain ⟨w2, z2⟩ := I.cell y c' e
        exact ⟨w2, z2.sameBut hs hcc⟩
    · obtain ⟨e, n, ne, nf, d⟩ := I.pin p hp
      refine ⟨(hs.2 p.1 ?_).trans e, n, ne, nf, d⟩
      intro q
      rw [q, hoc] at e
      have q' : oc = p.2 := Option.some.inj e
      exact d w' (by rw [← q']; exact hocd)
theorem store_ok {M : Model} {A : Around} {E : Value → Shared → Prop} {i : Nat} {x : Str} {v : V} {u : Value} {Q : Unit → Shared → Prop} (I : Inv X pins σ H s) (hN : X.N.Nodup) (hi : X.N[i]? = some x) (hx : Loc X.env.scope x) (r : RelV v u)
    (h : ∀ s', Inv X pins (σ.set i (some v)) H s' → Q () s') (hf : X.fn x = true ∨ X.env.scope.names.lookup x = some .local := by first | exact .inl rfl | exact .inr rfl | assumption) : wpAny M A (storeName X.env x u) Q E s :=
  store_ok2 I hN hi hx r (fun s' I' _ => h s' I') hf
theorem Inv.call' {s' : Shared} {ch : List Addr} (I : Inv X pins σ H s) (ho : s'.os = s.os) (u : Un (frs X.stack) ch H H' s.heap s'.heap) (hok : HOk X.prog X.w H' s'.heap) (hg : AllBare s'.gens)
    (hch : ∀ b ∈ ch, (b ∈ X.ex ∨ X.s_0.heap.objs.size ≤ b) ∧ b ≠ X.env.locals ∧ (∀ x c, X.env.cells.lookup x = some c → c ≠ b) ∧ ∀ p ∈ X.pn ++ pins, p.1 ≠ b) : Inv X pins σ H' s' := by
  obtain ⟨h', g', d', t', o'⟩ := s'
  have e : o' = s.os := ho
  subst e
  exact I.call (g' := g') (t' := t') (d' := d') u hok hg hch
end
abbrev XK := Value → Option Addr → Hp → Prop
abbrev St := List (Option V)
abbrev VK := V → Hp → Prop
abbrev TE := St → Hp → VK → Prop
abbrev TT := St → Hp → (Bool → Hp → Prop) → Prop
abbrev TA := St → Hp → (List V → Hp → Prop) → Prop
structure Ends where
  nx : St → Hp → Prop
  rt : VK
  bk : St → Hp → Prop := fun _ _ => False
  ct : St → Hp → Prop := fun _ _ => False
abbrev TS := Ends → St → Hp → Prop
def EP (X : Cx) (pins : List (Addr × Obj)) (σ : St) (Q : VK) (u : Value) (s' : Shared) : Prop := ∃ v H', Inv X pins σ H' s' ∧ RelV v u ∧ Q v H'
def TP (X : Cx) (pins : List (Addr × Obj)) (σ : St) (Q : Bool → Hp → Prop) (b : Bool) (s' : Shared) : Prop := ∃ H', Inv X pins σ H' s' ∧ Q b H'
def AP (X : Cx) (pins : List (Addr × Obj)) (σ : St) (Q : List V → Hp → Prop) (us : List Value) (s' : Shared) : Prop := ∃ vs H', Inv X pins σ H' s' ∧ Vals vs us ∧ Q vs H'
def SP (X : Cx) (pins : List (Addr × Obj)) (D : Ends) (f : Flow) (s' : Shared) : Prop :=
  match f with
  | .next => ∃ σ' H', Inv X pins σ' H' s' ∧ D.nx σ' H'
  | .brk => ∃ σ' H', Inv X pins σ' H' s' ∧ D.bk σ' H'
  | .cont => ∃ σ' H', Inv X pins σ' H' s' ∧ D.ct σ' H'
  | .ret u => ∃ v σ' H', Inv X pins σ' H' s' ∧ RelV v u ∧ D.rt v H'
def PE (X : Cx) (e : Expr) (t : TE) : Prop :=
  ∀ (pins : List (Addr × Obj)) (s : Shared) (σ : St) (H : Hp) (Q : VK), Inv X pins σ H s → t σ H Q → wpAny (model X.prog X.w) X.A (eval e X.env) (EP X pins σ Q) X.xe s
def PT (X : Cx) (e : Expr) (t : TT) : Prop :=
  ∀ (pins : List (Addr × Obj)) (s : Shared) (σ : St) (H : Hp) (Q : Bool → Hp → Prop), Inv X pins σ H s → t σ H Q → wpAny (model X.prog X.w) X.A (isTrue e X.env (eval e X.env)) (TP X pins σ Q) X.xe s
def PW (X : Cx) (e : Expr) (t : TT) : Prop :=
  ∀ (whole : Sem Value) (pins : List (Addr × Obj)) (s : Shared) (σ : St) (H : Hp) (Q : Bool → Hp → Prop), Inv X pins σ H s → t σ H Q → wpAny (model X.prog X.w) X.A (isTrue e X.env whole) (TP X pins σ Q) X.xe s
theorem PW.pt {X : Cx} {e : Expr} {t : TT} (h : PW X e t) : PT X e t := h _
def PA (X : Cx) (es : List Expr) (t : TA) : Prop :=
  ∀ (pos : Pos) (pins : List (Addr × Obj)) (s : Shared) (σ : St) (H : Hp) (Q : List V → Hp → Prop), Inv X pins σ H s → t σ H Q → wpAny (model X.prog X.w) X.A (spliced (backTo pos (starEach es X.env))) (AP X pins σ Q) X.xe s
def PS (X : Cx) (st : Stmt) (t : TS) : Prop :=
  ∀ (pins : List (Addr × Obj)) (s : Shared) (σ : St) (H : Hp) (D : Ends), Inv X pins σ H s → t D σ H → wpAny (model X.prog X.w) X.A (exec st X.env) (SP X pins D) X.xe s
def PSs (X : Cx) (st : List Stmt) (t : TS) : Prop :=
  ∀ (pins : List (Addr × Obj)) (s : Shared) (σ : St) (H : Hp) (D : Ends), Inv X pins σ H s → t D σ H → wpAny (model X.prog X.w) X.A (execs st X.env) (SP X pins D) X.xe s
theorem thn {α : Type} {t : Sem α} {Q Q' : α → Shared → Prop} {M : Model} {A : Around} {E : Value → Shared → Prop} {s : Shared} (h : wpAny M A t Q E s) (hQ : ∀ a s, Q a s → Q' a s) : wpAny M A t Q' E s := wpAny_mono h hQ fun _ _ x => x
end L2
namespace L2
open PySem PySem.Spec PyProof.Rows
section
variable {X : Cx}
theorem bin {a b : Expr} {ta tb : TE} (ha : PE X a ta) (hb : PE X b tb) {pins : List (Addr × Obj)} {s : Shared} {σ : St} {H : Hp} {R : V → V → Hp → Prop} (I : Inv X pins σ H s) (h : ta σ H fun x H1 => tb σ H1 fun y H2 => R x y H2)
    {α : Type} {Q : α → Shared → Prop} {f : Value → Value → Sem α}
    (hf : ∀ v u s2 x y H2, Inv X pins σ H2 s2 → RelV x v → RelV y u → R x y H2 → wpAny (model X.prog X.w) X.A (f v u) Q X.xe s2) :
    wpAny (model X.prog X.w) X.A (eval a X.env) (fun v s₁ => wpAny (model X.prog X.w) X.A (eval b X.env) (fun u s₂ => wpAny (model X.prog X.w) X.A (f v u) Q X.xe s₂) X.xe s₁) X.xe s := by
  refine thn (ha pins s σ H _ I h) fun v s1 ⟨x, H1, I1, r1, q1⟩ => ?_
  refine thn (hb pins s1 σ H1 _ I1 q1) fun u s2 ⟨y, H2, I2, r2, q2⟩ => ?_
  exact hf v u s2 x y H2 I2 r1 r2 q2
def tVar (i : Nat) : TE := fun σ H Q => ∃ v, σ[i]? = some (some v) ∧ Q v H
def tC (v : V) : TE := fun _ H Q => Q v H
theorem pe_var {i : Nat} {x : Str} {pos : Pos} (hN : X.N[i]? = some x) (hv : Vis X.env.scope x) (hd : (x == ("__debug__" : Str)) = false := by decide) (hcd : (x == ("__classdict__" : Str)) = false := by decide) : PE X (.Name x pos) (tVar i) := by
  intro pins s σ H Q I h
  obtain ⟨v, e, h⟩ := h
  obtain ⟨m, hn, hl⟩ := I.loc
  obtain ⟨u, r, l⟩ := hl i x v hN e hv
  have fin : EP X pins σ Q u s := ⟨v, H, I, r, h⟩
  rcases l with ⟨hk, hm⟩ | ⟨hk, c, hc, hcell⟩
  · exact wpAny_Name (wpAny_loadName_local I.ok.kind hk hn hm fin) hd
  · rcases hk with hk | hk
    · exact wpAny_Name (wpAny_loadName_cell I.ok.kind hk hc hcell fin) hd
    · exact wpAny_Name (wpAny_loadName_free I.ok.kind hk hc hcell fin hcd) hd
theorem pe_int {i j pos} : PE X (.Constant (.int i) j pos) (tC (.int i)) := fun _ _ _ H _ I h => wpAny_Constant_int ⟨.int i, H, I.tok _, ⟨_, rfl⟩, h⟩
theorem pe_non {j pos} : PE X (.Constant .none j pos) (tC .non) := fun _ _ _ H _ I h => Constant_none ⟨.non, H, I, rfl, h⟩
theorem pe_str {x j pos} : PE X (.Constant (.str x) j pos) (tC (.str x)) := fun _ _ _ H _ I h => Calls.Constant_str ⟨.str x, H, I.tok _, ⟨_, rfl⟩, h⟩
def Gl (X : Cx) (x : Str) : Prop := X.env.kindOf x = some .globalImplicit
theorem ld_glob {E : Value → Shared → Prop} {pins : List (Addr × Obj)} {s : Shared} {σ : St} {H : Hp} {x : Str} {u : Value} {pos : Pos} {Q : Value → Shared → Prop} (I : Inv X pins σ H s) (hg : Gl X x) (hm : X.mg x = some u) (h : Q u s)
    (hd : (x == ("__debug__" : Str)) = false := by decide) : wpAny (model X.prog X.w) X.A (eval (.Name x pos) X.env) Q E s :=
  Calls.Name_function_global I.ok.kind hg (Calls.loadGlobal_global (by rw [I.ok.glob]; exact I.mod.glob.keeps I.bk) hm h) hd
theorem ld_blt {E : Value → Shared → Prop} {pins : List (Addr × Obj)} {s : Shared} {σ : St} {H : Hp} {x : Str} {u : Value} {pos : Pos} {Q : Value → Shared → Prop} (I : Inv X pins σ H s) (hg : Gl X x) (hm : X.mg x = none) (hv : bootBuiltins x = some u) (h : Q u s)
    (hn : x ≠ "__name__" := by decide) (hd : (x == ("__debug__" : Str)) = false := by decide) : wpAny (model X.prog X.w) X.A (eval (.Name x pos) X.env) Q E s := by
  obtain ⟨mb, h1, h2⟩ := I.mod.blt
  exact Calls.Name_function_global I.ok.kind hg (Calls.loadGlobal_builtin (by rw [I.ok.glob]; exact I.mod.glob.keeps I.bk) hm (by rw [I.ok.blt]; exact h1.keeps I.bk) ((h2 x hn).trans hv) h) hd
theorem pe_glob {x : Str} {v : V} {u : Value} {pos : Pos} (hg : Gl X x) (hm : X.mg x = some u) (r : RelV v u) (hd : (x == ("__debug__" : Str)) = false := by decide) : PE X (.Name x pos) (tC v) :=
  fun _ _ _ H _ I h => ld_glob I hg hm ⟨v, H, I, r, h⟩ hd
variable {a b : Expr} {ta tb : TE} {pos : Pos}
def PC (X : Cx) (op : CmpOp) (a b : Expr) (t : TE) : Prop :=
  ∀ (pins : List (Addr × Obj)) (s : Shared) (σ : St) (H : Hp) (Q : VK), Inv X pins σ H s → t σ H Q →
    wpAny (model X.prog X.w) X.A (eval a X.env) (fun v s₁ => wpAny (model X.prog X.w) X.A (eval b X.env) (fun u s₂ => wpAny (model X.prog X.w) X.A (compareOp op v u) (EP X pins σ Q) X.xe s₂) X.xe s₁) X.xe s
theorem nobehind (b : Expr) {op : CmpOp} (h : op ≠ .In) (h2 : op ≠ .NotIn) : behindInMarks op b = false := by
  have e1 : (op == CmpOp.In) = false := by cases op <;> first | rfl | exact absurd rfl h
  have e2 : (op == CmpOp.NotIn) = false := by cases op <;> first | rfl | exact absurd rfl h2
  cases b <;> simp [behindInMarks, e1, e2]
def tIsN (ta : TE) : TE := fun σ H Q => ta σ H fun x H1 => Q (.bl (decide (x = .non))) H1
theorem RelV.none_iff {x : V} {v : Value} (r : RelV x v) : (v == Value.none) = decide (x = .non) := by
  cases x with
  | non => cases r; rfl
  | bl _ => cases r; rfl
  | int _ => obtain ⟨t, rfl⟩ := r; rfl
  | str _ => obtain ⟨t, rfl⟩ := r; rfl
  | byt _ => obtain ⟨t, rfl⟩ := r; rfl
  | flt _ => obtain ⟨t, rfl⟩ := r; rfl
  | ref _ => cases r; rfl
  | ty _ => cases r; rfl
theorem pc_isN {j pos'} (ha : PE X a ta) : PC X .Is a (.Constant .none j pos') (tIsN ta) := by
  intro pins s σ H Q I h
  refine thn (ha pins s σ H _ I h) fun v s1 ⟨x, H1, I1, r1, q1⟩ => ?_
  exact Constant_none (is_none_gen ⟨.bl _, H1, I1, by rw [r1.none_iff]; rfl, q1⟩)
def tB (t : TE) : TT := fun σ H Q => t σ H fun x H1 => ∃ c, x = .bl c ∧ Q c H1
theorem pt_cmp {op : CmpOp} {t : TE} (h : PC X op a b t) (h1 : behindInMarks op b = false := by first | exact nobehind _ (by decide) (by decide) | rfl) : PT X (.Compare a [op] [b] pos) (tB t) := by
  intro pins s σ H Q I hw
  refine wpAny_isTrue_Compare1 (thn (h pins s σ H _ I hw) fun v s1 h1 => thn h1 fun u s2 h2 => thn h2 fun c s3 ⟨x, H1, I1, r1, q1⟩ => ?_) h1
  obtain ⟨d, rfl, q⟩ := q1
  cases r1
  exact wpAny_truthy_bool ⟨H1, I1, q⟩
theorem pt_val {e : Expr} {t : TE} (h : PE X e t) (he : ∀ whole, isTrue e X.env whole = (do let v ← whole; standAt e.pos; holding [v] (truthy v)) := by intro _; rfl) : PT X e (tB t) := by
  intro pins s σ H Q I hw
  refine isTrue_plain (thn (h pins s σ H _ I hw) fun v s1 ⟨x, H1, I1, r1, q1⟩ => ?_) (he _)
  obtain ⟨d, rfl, q⟩ := q1
  cases r1
  exact wpAny_truthy_bool ⟨H1, I1, q⟩
variable {tA tB' : TT} {rest : List Expr}
def tAnd (t u : TT) : TT := fun σ H Q => t σ H fun c H1 => if c = true then u σ H1 Q else Q false H1
def tOr (t u : TT) : TT := fun σ H Q => t σ H fun c H1 => if c = true then Q true H1 else u σ H1 Q
def tNot (t : TT) : TT := fun σ H Q => t σ H fun c H1 => Q (!c) H1
theorem pw_and1 (ha : PT X a tA) : PW X (.BoolOp .And [a] pos) tA := by
  intro wh pins s σ H Q I h
  refine isTrue_and (thn (ha pins s σ H Q I h) fun c s1 e => ?_)
  cases c with
  | true => exact isTrue_and_nil e
  | false => exact e
theorem pw_or1 (ha : PT X a tA) : PW X (.BoolOp .Or [a] pos) tA := by
  intro wh pins s σ H Q I h
  refine isTrue_or (thn (ha pins s σ H Q I h) fun c s1 e => ?_)
  cases c with
  | false => exact isTrue_or_nil e
  | true => exact e
theorem pw_and (ha : PT X a tA) (hb : PW X (.BoolOp .And (b :: rest) pos) tB') : PW X (.BoolOp .And (a :: b :: rest) pos) (tAnd tA tB') := by
  intro wh pins s σ H Q I h
  refine isTrue_and (thn (ha pins s σ H _ I h) fun c s1 ⟨H1, I1, q1⟩ => ?_)
  cases c with
  | true => exact hb wh pins s1 σ H1 Q I1 q1
  | false => exact ⟨H1, I1, q1⟩
theorem pw_or (ha : PT X a tA) (hb : PW X (.BoolOp .Or (b :: rest) pos) tB') : PW X (.BoolOp .Or (a :: b :: rest) pos) (tOr tA tB') := by
  intro wh pins s σ H Q I h
  refine isTrue_or (thn (ha pins s σ H _ I h) fun c s1 ⟨H1, I1, q1⟩ => ?_)
  cases c with
  | true => exact ⟨H1, I1, q1⟩
  | false => exact hb wh pins s1 σ H1 Q I1 q1
theorem pt_not (ha : PT X a tA) : PT X (.UnaryOp .Not a pos) (tNot tA) := by
  intro pins s σ H Q I h
  exact isTrue_not (ha pins s σ H (fun c H1 => Q (!c) H1) I h)
def tIf (t : TT) (ta tb : TE) : TE := fun σ H Q => t σ H fun c H1 => if c = true then ta σ H1 Q else tb σ H1 Q
theorem pe_ifExp {c : Expr} (hc : PT X c tA) (ha : PE X a ta) (hb : PE X b tb) : PE X (.IfExp c a b pos) (tIf tA ta tb) := by
  intro pins s σ H Q I h
  refine wpAny_IfExp (thn (hc pins s σ H _ I h) fun d s1 ⟨H1, I1, q1⟩ => ?_)
  cases d with
  | true => exact ha pins s1 σ H1 Q I1 q1
  | false => exact hb pins s1 σ H1 Q I1 q1
end
end L2
namespace L2
open PySem PySem.Spec PyProof.Rows
def SqL (K : PySem.W.Frag) (H : Hp) (a : Addr) (xs : List V) : Prop :=
  Rd H a (.lst xs) ∨
    ∃ (o : Obj) (its : Array Value) (n : Nat), K.lookup a = some o ∧ o.cls = .type "list" ∧ o.dict = none ∧ o.data = .seq its n ∧ its.size ≤ sizeLine ∧ Vals xs its.toList
def SqT (K : PySem.W.Frag) (H : Hp) (a : Addr) (xs : List V) : Prop :=
  Rd H a (.tup xs) ∨
    ∃ (o : Obj) (its : Array Value) (n : Nat), K.lookup a = some o ∧ o.cls = .type "tuple" ∧ o.data = .seq its n ∧ its.size ≤ sizeLine ∧ Vals xs its.toList
def absV : Value → Option V
  | .none => some .non
  | .bool b => some (.bl b)
  | .int i _ => some (.int i)
  | .str x _ => some (.str x)
  | .bytes b _ => some (.byt b)
  | .float b _ => some (.flt b)
  | .ref a => some (.ref a)
  | .type n => some (.ty n)
  | _ => none
theorem RelV.abs {x : V} {u : Value} (r : RelV x u) : absV u = some x := by
  cases x with
  | non => cases r; rfl
  | bl _ => cases r; rfl
  | int _ => obtain ⟨t, rfl⟩ := r; rfl
  | str _ => obtain ⟨t, rfl⟩ := r; rfl
  | byt _ => obtain ⟨t, rfl⟩ := r; rfl
  | flt _ => obtain ⟨t, rfl⟩ := r; rfl
  | ref _ => cases r; rfl
  | ty _ => cases r; rfl
theorem RelV.inj {x y : V} {u : Value} (r : RelV x u) (q : RelV y u) : x = y := Option.some.inj (r.abs.symm.trans q.abs)
theorem Vals.inj : ∀ {xs ys : List V} {us : List Value}, Vals xs us → Vals ys us → xs = ys
  | _, _, _, .nil, .nil => rfl
  | _, _, _, .cons r t, .cons r' t' => by rw [r.inj r', Vals.inj t t']
section
variable {X : Cx} {pins : List (Addr × Obj)} {σ : St} {H : Hp} {s : Shared} {a : Addr} {xs ys : List V}
theorem SqL.of {K : PySem.W.Frag} (h : H a = some (.lst xs)) : SqL K H a xs := .inl (.inl h)
theorem SqT.of {K : PySem.W.Frag} (h : H a = some (.tup xs)) : SqT K H a xs := .inl (.inl h)
theorem Inv.list (I : Inv X pins σ H s) (h : SqL X.K H a xs) : ∃ its : List Value, Vals xs its ∧ PlainL s.heap a its.toArray ∧ xs.length ≤ sizeLine := by
  rcases h with h | ⟨o, its, n, hk, hc, hd, hs, hz, r⟩
  · obtain ⟨z, its, n, r, e⟩ := h.ok I.hok
    exact ⟨its, r, ⟨_, n, e, rfl, rfl, rfl⟩, z⟩
  · refine ⟨its.toList, r, ⟨o, n, I.kIn a o hk, hc, hd, by simpa using hs⟩, ?_⟩
    have e := r.length
    simp only [Array.length_toList] at e
    omega
theorem Inv.tuple (I : Inv X pins σ H s) (h : SqT X.K H a xs) : ∃ its : List Value, Vals xs its ∧ IsTup s.heap a its.toArray ∧ xs.length ≤ sizeLine := by
  rcases h with h | ⟨o, its, n, hk, hc, hs, hz, r⟩
  · obtain ⟨z, its, r, p⟩ := h.ok I.hok
    exact ⟨its, r, p, z⟩
  · refine ⟨its.toList, r, ⟨o, I.kIn a o hk, hc, n, by simpa using hs⟩, ?_⟩
    have e := r.length
    simp only [Array.length_toList] at e
    omega
theorem Inv.list_inj (I : Inv X pins σ H s) (h : SqL X.K H a xs) (h' : SqL X.K H a ys) : xs = ys := by
  obtain ⟨its, r, ⟨o, n, e, _, _, d⟩, _⟩ := I.list h
  obtain ⟨its', r', ⟨o', n', e', _, _, d'⟩, _⟩ := I.list h'
  rw [e] at e'; cases e'
  rw [d] at d'
  injection d' with d1 _
  have : its = its' := by simpa using congrArg Array.toList d1
  subst this
  exact r.inj r'
theorem Inv.tuple_inj (I : Inv X pins σ H s) (h : SqT X.K H a xs) (h' : SqT X.K H a ys) : xs = ys := by
  obtain ⟨its, r, ⟨o, e, _, n, d⟩, _⟩ := I.tuple h
  obtain ⟨its', r', ⟨o', e', _, n', d'⟩, _⟩ := I.tuple h'
  rw [e] at e'; cases e'
  rw [d] at d'
  injection d' with d1 _
  have : its = its' := by simpa using congrArg Array.toList d1
  subst this
  exact r.inj r'
end
abbrev Cx.wish (X : Cx) (E : Value → Shared → Prop) : Cx := { X with xe := E }
abbrev Cx.nox (X : Cx) : Cx := X.wish fun _ _ => False
theorem Cx.Ok.wish {X : Cx} (ok : X.Ok) (E : Value → Shared → Prop) : (X.wish E).Ok :=
  ⟨ok.mod, ok.kind, ok.glob, ok.blt, ok.above, ok.inj, ok.has, ok.cab, ok.hd, ok.frames, ok.stk, ok.exf, ok.bs, ok.bsz, ok.noex, ok.exfs, ok.funs, ok.frf⟩
theorem Cx.Ok.unwish {X : Cx} {E : Value → Shared → Prop} (ok : (X.wish E).Ok) : X.Ok :=
  ⟨ok.mod, ok.kind, ok.glob, ok.blt, ok.above, ok.inj, ok.has, ok.cab, ok.hd, ok.frames, ok.stk, ok.exf, ok.bs, ok.bsz, ok.noex, ok.exfs, ok.funs, ok.frf⟩
section
variable {X : Cx} {pins : List (Addr × Obj)} {σ : St} {H : Hp} {s : Shared} {E : Value → Shared → Prop}
theorem Inv.wish (I : Inv X pins σ H s) (E : Value → Shared → Prop) : Inv (X.wish E) pins σ H s := ⟨I.ok.wish E, I.os, I.bare, I.base, I.loc, I.cell, I.free, I.freeC, I.pin, I.hok, I.len⟩
theorem Inv.unwish (I : Inv (X.wish E) pins σ H s) : Inv X pins σ H s := ⟨I.ok.unwish, I.os, I.bare, I.base, I.loc, I.cell, I.free, I.freeC, I.pin, I.hok, I.len⟩
theorem SP.unwish {D : Ends} {f : Flow} {s' : Shared} (h : SP (X.wish E) pins D f s') : SP X pins D f s' := by
  cases f with
  | next => obtain ⟨σ', H', I, q⟩ := h; exact ⟨σ', H', I.unwish, q⟩
  | brk => obtain ⟨σ', H', I, q⟩ := h; exact ⟨σ', H', I.unwish, q⟩
  | cont => obtain ⟨σ', H', I, q⟩ := h; exact ⟨σ', H', I.unwish, q⟩
  | ret u => obtain ⟨v, σ', H', I, r, q⟩ := h; exact ⟨v, σ', H', I.unwish, r, q⟩
theorem PSs.nox {st : List Stmt} {t : TS} (h : PSs X.nox st t) : PSs X st t := fun pins s σ H D I hw =>
  wpAny_mono (h pins s σ H D (I.wish _) hw) (fun _ _ q => q.unwish) fun _ _ z => False.elim z
end
section
variable {X : Cx} {st : Stmt} {rest : List Stmt} {t u : TS} {e : Expr} {te : TE} {pos : Pos}
def tNext : TS := fun D σ H => D.nx σ H
def tSeq (t u : TS) : TS := fun D σ H => t { D with nx := u D } σ H
theorem pss_nil : PSs X [] tNext := fun _ _ σ H _ I h => wpAny_execs_nil ⟨σ, H, I, h⟩
theorem pss_cons (h1 : PS X st t) (h2 : PSs X rest u) : PSs X (st :: rest) (tSeq t u) := by
  intro pins s σ H D I h
  refine wpAny_execs_cons (thn (h1 pins s σ H { D with nx := u D } I h) fun f s1 q => ?_)
  cases f with
  | next =>
    obtain ⟨σ', H', I', q⟩ := q
    exact h2 pins s1 σ' H' D I' q
  | ret v => exact q
  | brk => exact q
  | cont => exact q
theorem pss_one (h1 : PS X st t) : PSs X [st] t := by
  intro pins s σ H D I h
  refine wpAny_execs_cons (thn (h1 pins s σ H D I h) fun f s1 q => ?_)
  cases f with
  | next => exact wpAny_execs_nil q
  | ret v => exact q
  | brk => exact q
  | cont => exact q
theorem Inv.quiet {pins : List (Addr × Obj)} {σ : St} {H : Hp} {s : Shared} (I : Inv X pins σ H s) : interactive X.env = false := by simp [interactive, I.ok.kind]
def tDrop (te : TE) : TS := fun D σ H => te σ H fun _ H1 => D.nx σ H1
theorem ps_expr (he : PE X e te) (hs : swapsWith e none pos.line X.env = pure false := by rfl) : PS X (.Expr e pos) (tDrop te) := by
  intro pins s σ H D I h
  exact wpAny_Expr_any (thn (he pins s σ H _ I h) fun v s1 ⟨x, H1, I1, r1, q1⟩ => ⟨σ, H1, I1, q1⟩) I.quiet hs
def tRet (te : TE) : TS := fun D σ H => te σ H D.rt
theorem ps_ret (he : PE X e te) : PS X (.Return (some e) pos) (tRet te) := by
  intro pins s σ H D I h
  exact wpAny_Return_some (thn (he pins s σ H _ I h) fun v s1 ⟨x, H1, I1, r1, q1⟩ => ⟨x, σ, H1, I1, r1, q1⟩)
def tIfS (c : TT) (t u : TS) : TS := fun D σ H => c σ H fun b H1 => if b = true then t D σ H1 else u D σ H1
theorem ps_if {c : Expr} {a b : List Stmt} {tc : TT} (hc : PT X c tc) (ha : PSs X a t) (hb : PSs X b u) : PS X (.If c a b pos) (tIfS tc t u) := by
  intro pins s σ H D I h
  refine wpAny_If (thn (hc pins s σ H _ I h) fun d s1 ⟨H1, I1, q1⟩ => ?_)
  cases d with
  | true => exact ha pins s1 σ H1 D I1 q1
  | false => exact hb pins s1 σ H1 D I1 q1
end
abbrev TG := V → St → Hp → (St → Hp → Prop) → Prop
abbrev TGs := List V → St → Hp → (St → Hp → Prop) → Prop
def PG (X : Cx) (target : Expr) (t : TG) : Prop :=
  ∀ (pins : List (Addr × Obj)) (s : Shared) (σ : St) (H : Hp) (v : V) (u : Value) (Q : St → Hp → Prop), Inv X pins σ H s → RelV v u → t v σ H Q →
    wpAny (model X.prog X.w) X.A (assign target X.env u) (fun _ s' => ∃ σ' H', Inv X pins σ' H' s' ∧ Q σ' H') X.xe s
def PGs (X : Cx) (ts : List Expr) (t : TGs) : Prop :=
  ∀ (pins : List (Addr × Obj)) (s : Shared) (σ : St) (H : Hp) (vs : List V) (us : List Value) (Q : St → Hp → Prop), Inv X pins σ H s → Vals vs us → t vs σ H Q →
    wpAny (model X.prog X.w) X.A (assignInOrder ((assignEach ts X.env).map (·.2)) us) (fun _ s' => ∃ σ' H', Inv X pins σ' H' s' ∧ Q σ' H') X.xe s
abbrev TSet := V → V → V → Hp → (Hp → Prop) → Prop
def PSet (X : Cx) (t : TSet) : Prop :=
  ∀ (pins : List (Addr × Obj)) (s : Shared) (σ : St) (H : Hp) (o i v : V) (ov iv u : Value) (Q : Hp → Prop), Inv X pins σ H s → RelV o ov → RelV i iv → RelV v u → t o i v H Q →
    wpAny (model X.prog X.w) X.A (setItem ov iv u) (fun _ s' => ∃ H', Inv X pins σ H' s' ∧ Q H') X.xe s
abbrev TIp := V → V → Hp → VK → Prop
def PIp (X : Cx) (op : Operator) (t : TIp) : Prop :=
  ∀ (pins : List (Addr × Obj)) (s : Shared) (σ : St) (H : Hp) (x y : V) (v u : Value) (Q : VK), Inv X pins σ H s → RelV x v → RelV y u → t x y H Q →
    wpAny (model X.prog X.w) X.A (inplaceOp op v u) (EP X pins σ Q) X.xe s
section
variable {X : Cx} {pos : Pos}
def gName (i : Nat) : TG := fun v σ H Q => Q (σ.set i (some v)) H
theorem pg_name {i : Nat} {x : Str} (hN : X.N.Nodup) (hi : X.N[i]? = some x) (hx : Loc X.env.scope x) (hf : X.fn x = true ∨ X.env.scope.names.lookup x = some .local := by first | exact .inl rfl | exact .inr rfl | assumption) : PG X (.Name x pos) (gName i) := by
  intro pins s σ H v u Q I r h
  exact wpAny_assign_Name (store_ok I hN hi hx r (fun s' I' => ⟨_, H, I', h⟩) hf)
def gNil : TGs := fun vs σ H Q => vs = [] ∧ Q σ H
def gCons (t : TG) (u : TGs) : TGs := fun vs σ H Q => ∃ v r, vs = v :: r ∧ t v σ H fun σ' H' => u r σ' H' Q
theorem pgs_nil : PGs X [] gNil := by
  intro pins s σ H vs us Q I r h
  obtain ⟨e, h⟩ := h
  subst e
  cases r
  exact assignInOrder_nil ⟨σ, H, I, h⟩
theorem pgs_cons {e : Expr} {es : List Expr} {t : TG} {u : TGs} (h1 : PG X e t) (h2 : PGs X es u)
    (hs : (assignEach (e :: es) X.env).map (·.2) = assign e X.env :: (assignEach es X.env).map (·.2) := by rfl) : PGs X (e :: es) (gCons t u) := by
  intro pins s σ H vs us Q I r h
  obtain ⟨v, vr, e1, h⟩ := h
  subst e1
  cases r with
  | cons r rr =>
    rw [hs]
    refine assignInOrder_cons (thn (h1 pins s σ H _ _ _ I r h) fun _ s1 ⟨σ1, H1, I1, q1⟩ => ?_)
    exact h2 pins s1 σ1 H1 _ _ Q I1 rr q1
def gTup (K : PySem.W.Frag) (n : Nat) (t : TGs) : TG := fun v σ H Q => ∃ a xs, v = .ref a ∧ SqT K H a xs ∧ xs.length = n ∧ t xs σ H Q
theorem pg_tup {es : List Expr} {k : Nat} {t : TGs} {n : Nat} (hc : X.calm = true) (h : PGs X es t)
    (hn : (assignEach es X.env).length = n := by rfl) (hst : (assignEach es X.env).findIdx? (·.1) = none := by rfl) : PG X (.Tuple es k pos) (gTup X.K n t) := by
  intro pins s σ H v u Q I r hw
  obtain ⟨a, xs, e1, hq, hl, hw⟩ := hw
  subst e1
  cases r
  obtain ⟨its, rv, ht, hz⟩ := I.tuple hq
  refine assign_Tuple_tuple (I.ok.hd hc) ht (by simp [hn, ← hl, rv.length]) hst fun h' hx => ?_
  have I1 : Inv X pins σ H { s with heap := h' } := I.kept (t' := s.toks) fun b o e => hx b o (Nat.ne_of_lt (Heap.lt_size e)) e
  exact h pins _ σ H xs _ Q I1 (by simpa using rv) hw
def gSub (to ti : TE) (t : TSet) : TG := fun v σ H Q => to σ H fun o H1 => ti σ H1 fun i H2 => t o i v H2 fun H3 => Q σ H3
theorem pg_sub {o i : Expr} {to ti : TE} {t : TSet} (ho : PE X o to) (hi : PE X i ti) (hs : PSet X t)
    (ha : ∀ v, assign (.Subscript o i pos) X.env v = (do
      let ov ← holding [v] (eval o X.env)
      let iv ← holding [v, ov] (eval i X.env)
      standAt pos
      holding [v, ov, iv] (setItem ov iv v)
      release [v, ov, iv] []) := by intro _; rfl) : PG X (.Subscript o i pos) (gSub to ti t) := by
  intro pins s σ H v u Q I r h
  rw [ha]
  refine wpAny_bind (wpAny_holding (thn (ho pins s σ H _ I h) fun ov s1 ⟨x, H1, I1, r1, q1⟩ => ?_))
  refine wpAny_bind (wpAny_holding (thn (hi pins s1 σ H1 _ I1 q1) fun iv s2 ⟨y, H2, I2, r2, q2⟩ => ?_))
  refine wpAny_bind (wpAny_standAt (wpAny_bind (wpAny_holding (thn (hs pins s2 σ H2 x y v ov iv u _ I2 r1 r2 r q2) fun _ s3 ⟨H3, I3, q3⟩ => ?_))))
  exact wpAny_release ⟨σ, H3, I3, q3⟩
def tAsg (te : TE) (g : TG) : TS := fun D σ H => te σ H fun x H1 => g x σ H1 D.nx
theorem ps_asg {tg e : Expr} {te : TE} {g : TG} (he : PE X e te) (hg : PG X tg g) (hs : swapsWithSole [tg] e pos.line X.env = pure false := by rfl) (hw : swappedStores [tg] e X.env = pure none := by rfl)
    (h1 : (assignEach [tg] X.env).map (·.2) = [assign tg X.env] := by rfl) : PS X (.Assign [tg] e pos) (tAsg te g) := by
  intro pins s σ H D I h
  refine wpAny_Assign_stores (thn (he pins s σ H _ I h) fun v s1 ⟨x, H1, I1, r1, q1⟩ => ?_) hs hw
  rw [h1]
  exact thn (hg pins s1 σ H1 x v _ I1 r1 q1) fun _ s2 q => q
theorem ps_set {i : Nat} {x : Str} {e : Expr} {te : TE} {pos' : Pos} (hN : X.N.Nodup) (hi : X.N[i]? = some x) (hx : Loc X.env.scope x) (he : PE X e te) (hs : swapsWith e (some (.Name x pos')) pos.line X.env = pure false := by rfl) (hf : X.fn x = true ∨ X.env.scope.names.lookup x = some .local := by first | exact .inl rfl | exact .inr rfl | assumption) :
    PS X (.Assign [.Name x pos'] e pos) (tAsg te (gName i)) := by
  intro pins s σ H D I h
  refine wpAny_Assign_Name (thn (he pins s σ H _ I h) fun v s1 ⟨y, H1, I1, r1, q1⟩ => ?_) hs
  exact store_ok I1 hN hi hx r1 (fun s2 I2 => ⟨_, H1, I2, q1⟩) hf
def tAug (i : Nat) (te : TE) (ti : TIp) : TS := fun D σ H => ∃ x, σ[i]? = some (some x) ∧ te σ H fun y H1 => ti x y H1 fun z H2 => D.nx (σ.set i (some z)) H2
theorem ps_aug {i : Nat} {x : Str} {e : Expr} {te : TE} {op : Operator} {ti : TIp} {pos' : Pos} (hN : X.N.Nodup) (hi : X.N[i]? = some x) (hx : Loc X.env.scope x) (he : PE X e te) (ho : PIp X op ti) (hf : X.fn x = true ∨ X.env.scope.names.lookup x = some .local := by first | exact .inl rfl | exact .inr rfl | assumption) :
    PS X (.AugAssign (.Name x pos') op e pos) (tAug i te ti) := by
  intro pins s σ H D I h
  obtain ⟨v, e1, h⟩ := h
  obtain ⟨m, hn, hl⟩ := I.loc
  have vis : Vis X.env.scope x := by rcases hx with k | k; exact .inl k; exact .inr (.inl k)
  obtain ⟨u, r, l⟩ := hl i x v hi e1 vis
  refine wpAny_AugAssign_Name ?_
  have go : wpAny (model X.prog X.w) X.A (eval e X.env) (fun w s₂ => wpAny (model X.prog X.w) X.A (inplaceOp op u w) (fun r s₃ => wpAny (model X.prog X.w) X.A (storeName X.env x r) (fun _ => SP X pins D .next) X.xe s₃) X.xe s₂) X.xe s := by
    refine thn (he pins s σ H _ I h) fun w s1 ⟨y, H1, I1, r1, q1⟩ => ?_
    refine thn (ho pins s1 σ H1 v y u w _ I1 r r1 q1) fun z s2 ⟨zv, H2, I2, r2, q2⟩ => ?_
    exact store_ok I2 hN hi hx r2 (fun s3 I3 => ⟨_, H2, I3, q2⟩) hf
  rcases l with ⟨hk, hm⟩ | ⟨hk, c, hc, hcell⟩
  · exact wpAny_loadName_local I.ok.kind hk hn hm go
  · rcases hk with hk | hk
    · exact wpAny_loadName_cell I.ok.kind hk hc hcell go
    · rcases hx with k | k
      · have : X.env.scope.names.lookup x = some .free := hk
        rw [k] at this; cases this
      · have : X.env.scope.names.lookup x = some .free := hk
        rw [k] at this; cases this
def ipI (f : Int → Int → Int) : TIp := fun x y H Q => ∃ i j, x = .int i ∧ y = .int j ∧ Q (.int (f i j)) H
theorem ip_add : PIp X .Add (ipI fun i j => i + j) := by
  intro pins s σ H x y v u Q I r1 r2 h
  obtain ⟨i, j, e1, e2, q⟩ := h
  subst e1; subst e2
  obtain ⟨t, rfl⟩ := r1
  obtain ⟨t', rfl⟩ := r2
  exact iadd_int ⟨.int _, H, I.tok _, ⟨_, rfl⟩, q⟩
theorem ip_sub : PIp X .Sub (ipI fun i j => i - j) := by
  intro pins s σ H x y v u Q I r1 r2 h
  obtain ⟨i, j, e1, e2, q⟩ := h
  subst e1; subst e2
  obtain ⟨t, rfl⟩ := r1
  obtain ⟨t', rfl⟩ := r2
  exact isub_int ⟨.int _, H, I.tok _, ⟨_, rfl⟩, q⟩
end
section
variable {X : Cx} {pos : Pos}
def tWhile (c : TT) (tb : TS) : TS := fun D σ H => ∃ W : Nat → St → Hp → Prop, (∃ m, W m σ H) ∧ ∀ m σ H, W m σ H →
  c σ H fun b H1 => if b = true then ∃ N : St → Hp → Prop, (∀ σ' H', N σ' H' → ∃ m', m' < m ∧ W m' σ' H') ∧ tb { D with nx := N, ct := N, bk := D.nx } σ H1 else D.nx σ H1
theorem ps_while {c : Expr} {body : List Stmt} {tc : TT} {tb : TS} (hp : PassesOwn (model X.prog X.w) X.A X.env X.xe) (hc : PT X c tc) (hb : PSs X body tb) : PS X (.While c body [] pos) (tWhile tc tb) := by
  intro pins s σ H D I h
  obtain ⟨W, ⟨m0, w0⟩, turn⟩ := h
  refine wpAny_While (codeAny_whileLoop (fun n s' => ∃ σ' H', Inv X pins σ' H' s' ∧ W n σ' H') ?_ m0 ⟨σ, H, I, w0⟩)
  rintro n s1 ⟨σ1, H1, I1, w1⟩
  refine wpAny_passesOwn hp (thn (hc pins s1 σ1 H1 _ I1 (turn n σ1 H1 w1)) fun b s2 ⟨H2, I2, q2⟩ => ?_)
  cases b with
  | true =>
    obtain ⟨N, hN, q2⟩ := q2
    rw [if_pos rfl]
    refine wpAny_passesOwn hp (thn (hb pins s2 σ1 H2 _ I2 q2) fun f s3 q3 => ?_)
    cases f with
    | next =>
      obtain ⟨σ3, H3, I3, n3⟩ := q3
      obtain ⟨m', hm, w3⟩ := hN σ3 H3 n3
      exact ⟨m', hm, σ3, H3, I3, w3⟩
    | cont =>
      obtain ⟨σ3, H3, I3, n3⟩ := q3
      obtain ⟨m', hm, w3⟩ := hN σ3 H3 n3
      exact ⟨m', hm, σ3, H3, I3, w3⟩
    | brk => exact q3
    | ret v => exact q3
  | false =>
    rw [if_neg Bool.false_ne_true]
    exact wpAny_execs_nil ⟨σ1, H2, I2, q2⟩
end
structure It where
  go : Nat → Hp → Prop
  yld : Nat → Hp → V → Hp → Prop
  stop : Nat → Hp → Prop
def FpOk (X : Cx) (pins : List (Addr × Obj)) (H : Hp) (b : Addr) : Prop :=
  H b = none ∧ b ≠ X.env.locals ∧ b ∉ X.fs ∧ (b ∈ X.ex ∨ X.s_0.heap.objs.size ≤ b) ∧ (∀ x c, X.env.cells.lookup x = some c → c ≠ b) ∧ ∀ p ∈ X.pn ++ pins, p.1 ≠ b
theorem Inv.fpOk {X : Cx} {pins : List (Addr × Obj)} {σ : St} {H H' : Hp} {s : Shared} {b : Addr} (I : Inv X pins σ H s) (hb : s.heap.objs.size ≤ b) (hn : H' b = none) : FpOk X pins H' b := by
  refine ⟨hn, Nat.ne_of_gt (Nat.lt_of_lt_of_le I.lt hb), I.nofs hb, .inr (Nat.le_trans I.sz hb), fun x c e z => ?_, fun p hp z => ?_⟩
  · obtain ⟨v, q⟩ := I.cell x c e
    exact absurd (Nat.lt_of_lt_of_le q.lt (by rw [z]; exact hb)) (Nat.lt_irrefl _)
  · exact absurd (Nat.lt_of_lt_of_le (Heap.lt_size (I.pin p hp).1) (by rw [z]; exact hb)) (Nat.lt_irrefl _)
structure Turn (P : Program) (w : World) (K : PySem.W.Frag) (tg : Expr) (J : It) (fp : List Addr) (it : Addr) (tn : Nat → Heap → Prop) : Prop where
  mem : it ∈ fp
  obj : ∀ i h, tn i h → ∀ b ∈ fp, ∃ o, h.get? b = some o ∧ ∀ v, o.data ≠ .cell v
  keep : ∀ i h h', tn i h → (∀ b ∈ fp, ∀ o, h.get? b = some o → h'.get? b = some o) → tn i h'
  item : ∀ (X : Cx), X.prog = P → X.w = w → X.K = K → X.calm = true → ∀ (i : Nat) (pins : List (Addr × Obj)) (s : Shared) (σ : St) (H : Hp) (E : Value → Shared → Prop), Inv X pins σ H s → (∀ b ∈ fp, FpOk X pins H b) → tn i s.heap → J.go i H →
    wpAny (model P w) X.A (pyNext (.ref it)) (fun r s1 => ∃ u, r = some u ∧
      wpAny (model P w) X.A (letOwnedTupleGo tg (.ref it) u) (fun _ s2 => ∃ x H', Inv X pins σ H' s2 ∧ RelV x u ∧ J.yld i H x H' ∧ tn (i + 1) s2.heap ∧ ∀ b ∈ fp, H' b = none) E s1) E s
  done : ∀ (X : Cx), X.prog = P → X.w = w → X.K = K → X.calm = true → ∀ (i : Nat) (pins : List (Addr × Obj)) (s : Shared) (σ : St) (H : Hp) (E : Value → Shared → Prop), Inv X pins σ H s → (∀ b ∈ fp, FpOk X pins H b) → tn i s.heap → J.stop i H →
    wpAny (model P w) X.A (pyNext (.ref it)) (fun r s1 => r = none ∧ Inv X pins σ H s1) E s
  self : ∀ (A : Around) (i : Nat) (s : Shared) (Q : Value → Shared → Prop) (E : Value → Shared → Prop), tn i s.heap → Q (.ref it) s → wpAny (model P w) A (pyIter (.ref it)) Q E s
abbrev TI := St → Hp → (It → Hp → Prop) → Prop
def PIE (X : Cx) (pins : List (Addr × Obj)) (σ : St) (tg : Expr) (R : It → Hp → Prop) (itv : Value) (s2 : Shared) : Prop :=
  ∃ (it : Addr) (fp : List Addr) (tn : Nat → Heap → Prop) (J : It) (H' : Hp), itv = .ref it ∧ Inv X pins σ H' s2 ∧ Turn X.prog X.w X.K tg J fp it tn ∧ tn 0 s2.heap ∧ (∀ b ∈ fp, FpOk X pins H' b) ∧ R J H'
def PI (X : Cx) (tg iter : Expr) (wi : TI) : Prop :=
  ∀ (pins : List (Addr × Obj)) (s : Shared) (σ : St) (H : Hp) (R : It → Hp → Prop), Inv X pins σ H s → wi σ H R →
    wpAny (model X.prog X.w) X.A (eval iter X.env) (fun v s1 => wpAny (model X.prog X.w) X.A (pyIter v) (PIE X pins σ tg R) X.xe s1) X.xe s
theorem go_of {M : Model} {A : Around} {E : Value → Shared → Prop} {s : Shared} {tg : Expr} {it : Addr} {u : Value} {o : Obj} {n : String} {vs : Array Value} {Q : Unit → Shared → Prop} (ho : s.heap.get? it = some o) (hc : o.cls = .type n) (hd : o.data = .fields vs)
    (hn : ["enumerate", "zip", "dict_itemiterator", "dict_reverseitemiterator", "odict_iterator", "itertools.zip_longest", "itertools.pairwise"].contains n = false) (hQ : Q () s) : wpAny M A (letOwnedTupleGo tg (.ref it) u) Q E s := by
  unfold letOwnedTupleGo
  cases tg <;> first
    | exact wpAny_pure hQ
    | (cases u <;> first
        | exact wpAny_pure hQ
        | (refine wpAny_bind (wpAny_load ho ?_)
           rw [hc, hd]
           show wpAny M A (if (["enumerate", "zip", "dict_itemiterator", "dict_reverseitemiterator", "odict_iterator", "itertools.zip_longest", "itertools.pairwise"].contains n && vs[0]? == some (rawInt _)) = true then _ else _) Q E s
           rw [if_neg (by intro h; rw [hn, Bool.false_and] at h; cases h)]
           exact wpAny_pure hQ))
def Itl (K : PySem.W.Frag) (a : Addr) : It :=
  ⟨fun i H => ∃ xs x, SqL K H a xs ∧ xs[i]? = some x, fun i H x H' => H' = H ∧ ∀ xs, SqL K H a xs → xs[i]? = some x, fun i H => ∃ xs, SqL K H a xs ∧ xs.length ≤ i⟩
def Itt (K : PySem.W.Frag) (a : Addr) : It :=
  ⟨fun i H => ∃ xs x, SqT K H a xs ∧ xs[i]? = some x, fun i H x H' => H' = H ∧ ∀ xs, SqT K H a xs → xs[i]? = some x, fun i H => ∃ xs, SqT K H a xs ∧ xs.length ≤ i⟩
def Itr (lo : Int) (n : Nat) : It := ⟨fun i _ => i < n, fun i H x H' => H' = H ∧ x = .int (lo + i), fun i _ => n ≤ i⟩
theorem turn_list {P : Program} {w : World} {K : PySem.W.Frag} {tg : Expr} (a it : Addr) : Turn P w K tg (Itl K a) [it] it (fun i h => h.IsListIter it a i) where
  mem := by simp
  obj := fun i h st b hb => by
    have e : b = it := by simpa using hb
    subst e
    obtain ⟨o, e, c, d⟩ := st
    exact ⟨o, e, fun v z => by rw [d] at z; cases z⟩
  keep := fun i h h' st k => st.at fun o e => k it (by simp) o e
  item := by
    intro X hP hw hK hc i pins s σ H E I hf st hg
    subst hP hw hK
    obtain ⟨xs, x, hq, hx⟩ := hg
    obtain ⟨its, rv, p, hz⟩ := I.list hq
    obtain ⟨u, hu, ru⟩ := rv.get hx
    obtain ⟨f0, f1, f2, f3, f4, f5⟩ := hf it (by simp)
    refine wpAny_pyNext_list_item st p.isList (x := u) (by simpa using hu) fun h' st' sb => ?_
    have I1 : Inv X pins σ H { s with heap := h' } := I.turned (t' := s.toks) (fun b o hb e => (sb.2 b hb).trans e) f0 f1 f3 f4 f5
    obtain ⟨o, e, c, d⟩ := id st'
    exact ⟨u, rfl, go_of (s := { s with heap := h' }) e c d (by decide) ⟨x, H, I1, ru, ⟨rfl, fun ys hy => by rw [I.list_inj hy hq]; exact hx⟩, st', fun b hb => (hf b hb).1⟩⟩
  done := by
    intro X hP hw hK hc i pins s σ H E I hf st hg
    subst hP hw hK
    obtain ⟨xs, hq, hx⟩ := hg
    obtain ⟨its, rv, p, hz⟩ := I.list hq
    obtain ⟨f0, f1, f2, f3, f4, f5⟩ := hf it (by simp)
    have hl := rv.length
    exact wpAny_pyNext_list_end (I.ok.hd hc) st p.isList (by simp; omega) fun h' eb => ⟨rfl, I.turned (t' := s.toks) (fun b o hb e => eb b o hb e) f0 f1 f3 f4 f5⟩
  self := fun _ _ _ _ _ st h => wpAny_pyIter_listiter st h
theorem turn_tuple {P : Program} {w : World} {K : PySem.W.Frag} {tg : Expr} (a it : Addr) : Turn P w K tg (Itt K a) [it] it (fun i h => h.IsTupleIter it a i) where
  mem := by simp
  obj := fun i h st b hb => by
    have e : b = it := by simpa using hb
    subst e
    obtain ⟨o, e, c, d⟩ := st
    exact ⟨o, e, fun v z => by rw [d] at z; cases z⟩
  keep := fun i h h' st k => st.at fun o e => k it (by simp) o e
  item := by
    intro X hP hw hK hc i pins s σ H E I hf st hg
    subst hP hw hK
    obtain ⟨xs, x, hq, hx⟩ := hg
    obtain ⟨its, rv, p, hz⟩ := I.tuple hq
    obtain ⟨u, hu, ru⟩ := rv.get hx
    obtain ⟨f0, f1, f2, f3, f4, f5⟩ := hf it (by simp)
    refine wpAny_pyNext_tuple_item st (show s.heap.IsTuple a its.toArray from p) (x := u) (by simpa using hu) fun h' st' sb => ?_
    have I1 : Inv X pins σ H { s with heap := h' } := I.turned (t' := s.toks) (fun b o hb e => (sb.2 b hb).trans e) f0 f1 f3 f4 f5
    obtain ⟨o, e, c, d⟩ := id st'
    exact ⟨u, rfl, go_of (s := { s with heap := h' }) e c d (by decide) ⟨x, H, I1, ru, ⟨rfl, fun ys hy => by rw [I.tuple_inj hy hq]; exact hx⟩, st', fun b hb => (hf b hb).1⟩⟩
  done := by
    intro X hP hw hK hc i pins s σ H E I hf st hg
    subst hP hw hK
    obtain ⟨xs, hq, hx⟩ := hg
    obtain ⟨its, rv, p, hz⟩ := I.tuple hq
    obtain ⟨f0, f1, f2, f3, f4, f5⟩ := hf it (by simp)
    have hl := rv.length
    exact wpAny_pyNext_tuple_end (I.ok.hd hc) st (show s.heap.IsTuple a its.toArray from p) (by simp; omega) fun h' eb => ⟨rfl, I.turned (t' := s.toks) (fun b o hb e => eb b o hb e) f0 f1 f3 f4 f5⟩
  self := fun _ _ _ _ _ st h => wpAny_pyIter_tupleiter st h
theorem turn_range {P : Program} {w : World} {K : PySem.W.Frag} {tg : Expr} (it : Addr) (lo : Int) (n : Nat) : Turn P w K tg (Itr lo n) [it] it (fun i h => IsRangeIter h it (lo + (i : Nat) * 1) ((n : Int) - (i : Nat)) 1) where
  mem := by simp
  obj := fun i h st b hb => by
    have e : b = it := by simpa using hb
    subst e
    exact ⟨_, st, fun v z => by
      have z' : Data.fields _ = Data.cell v := z
      cases z'⟩
  keep := fun i h h' st k => k it (by simp) _ st
  item := by
    intro X hP hw hK hc i pins s σ H E I hf st hg
    subst hP hw hK
    obtain ⟨f0, f1, f2, f3, f4, f5⟩ := hf it (by simp)
    have W := Walks.range (prog := X.prog) (w := X.w) (I.ok.hd hc) it lo 1 n
    refine W.item i s _ _ hg st fun v h' tk hv st' kk => ?_
    obtain ⟨t, rfl⟩ := hv
    have I1 : Inv X pins σ H { s with heap := h', toks := tk } := I.turned (fun b o hb e => kk b o (by simpa using hb) e) f0 f1 f3 f4 f5
    refine ⟨_, rfl, go_of (s := { s with heap := h', toks := tk }) (n := "range_iterator") st' rfl rfl (by decide) ⟨.int (lo + i), H, I1, ⟨t, ?_⟩, ⟨rfl, rfl⟩, st', fun b hb => (hf b hb).1⟩⟩
    rw [Int.mul_one]
  done := by
    intro X hP hw hK hc i pins s σ H E I hf st hg
    subst hP hw hK
    obtain ⟨f0, f1, f2, f3, f4, f5⟩ := hf it (by simp)
    exact wpAny_pyNext_range_end (I.ok.hd hc) st (by have : n ≤ i := hg; omega) fun h' eb => ⟨rfl, I.turned (t' := s.toks) (fun b o hb e => eb b o hb e) f0 f1 f3 f4 f5⟩
  self := fun _ _ _ _ _ st h => wpAny_pyIter_rangeiter st h
end L2
namespace L2
open PySem PySem.Spec PyProof.Rows
section
variable {X : Cx} {tg : Expr}
def iList (K : PySem.W.Frag) (tl : TE) : TI := fun σ H R => tl σ H fun x H1 => ∃ a, x = .ref a ∧ (∃ xs, SqL K H1 a xs) ∧ R (Itl K a) H1
def iTup (K : PySem.W.Frag) (tl : TE) : TI := fun σ H R => tl σ H fun x H1 => ∃ a, x = .ref a ∧ (∃ xs, SqT K H1 a xs) ∧ R (Itt K a) H1
theorem pi_list {l : Expr} {tl : TE} (hl : PE X l tl) : PI X tg l (iList X.K tl) := by
  intro pins s σ H R I h
  refine thn (hl pins s σ H _ I h) fun v s1 ⟨x, H1, I1, r1, q1⟩ => ?_
  obtain ⟨a, e, ⟨xs, hq⟩, q⟩ := q1
  subst e
  cases r1
  obtain ⟨its, rv, p, hz⟩ := I1.list hq
  refine wpAny_pyIter_list p.isList ?_
  refine ⟨s1.heap.objs.size, [s1.heap.objs.size], _, _, H1, rfl, I1.kept (t' := s1.toks) fun b o e => Heap.get?_push_of_some _ e, turn_list a _, ⟨_, Heap.get?_push_size _ rfl, rfl, rfl⟩, fun b hb => ?_, q⟩
  have e : b = s1.heap.objs.size := by simpa using hb
  subst e
  exact I1.fpOk (Nat.le_refl _) (I1.hok.fresh (Nat.le_refl _))
theorem pi_tup {l : Expr} {tl : TE} (hl : PE X l tl) : PI X tg l (iTup X.K tl) := by
  intro pins s σ H R I h
  refine thn (hl pins s σ H _ I h) fun v s1 ⟨x, H1, I1, r1, q1⟩ => ?_
  obtain ⟨a, e, ⟨xs, hq⟩, q⟩ := q1
  subst e
  cases r1
  obtain ⟨its, rv, p, hz⟩ := I1.tuple hq
  refine wpAny_pyIter_tuple (show s1.heap.IsTuple a its.toArray from p) ?_
  refine ⟨s1.heap.objs.size, [s1.heap.objs.size], _, _, H1, rfl, I1.kept (t' := s1.toks) fun b o e => Heap.get?_push_of_some _ e, turn_tuple a _, ⟨_, Heap.get?_push_size _ rfl, rfl, rfl⟩, fun b hb => ?_, q⟩
  have e : b = s1.heap.objs.size := by simpa using hb
  subst e
  exact I1.fpOk (Nat.le_refl _) (I1.hok.fresh (Nat.le_refl _))
theorem range_it {pins : List (Addr × Obj)} {σ : St} {H : Hp} {s : Shared} {R : It → Hp → Prop} {E : Value → Shared → Prop} {lo hi : Int} {t u v : Tok} {tk : Nat} (I : Inv X pins σ H s) (h1 : -(2 ^ 62) ≤ lo) (h2 : lo < 2 ^ 62) (h3 : -(2 ^ 62) ≤ hi) (h4 : hi < 2 ^ 62)
    (q : R (Itr lo (hi - lo).toNat) H) : wpAny (model X.prog X.w) X.A (pyIter (.ref s.heap.objs.size)) (PIE X pins σ tg R) E { s with heap := s.heap.push { cls := .type "range", data := .fields #[.int lo t, .int hi u, .int 1 v] }, toks := tk } := by
  refine wpAny_pyIter_range (IsRange.new ..) (small_one h1 h2 h3 h4) ?_
  have I1 : Inv X pins σ H { s with heap := s.heap.push { cls := .type "range", data := .fields #[.int lo t, .int hi u, .int 1 v] }, toks := tk } := I.kept fun b o e => Heap.get?_push_of_some _ e
  refine ⟨(s.heap.push { cls := .type "range", data := .fields #[.int lo t, .int hi u, .int 1 v] }).objs.size, [(s.heap.push { cls := .type "range", data := .fields #[.int lo t, .int hi u, .int 1 v] }).objs.size], _, _, H, rfl,
    I1.kept (t' := tk) fun b o e => Heap.get?_push_of_some _ e, turn_range _ lo (hi - lo).toNat, ?_, fun b hb => ?_, q⟩
  · have e1 : lo + ((0 : Nat) : Int) * 1 = lo := by simp
    have e2 : (((hi - lo).toNat : Nat) : Int) - ((0 : Nat) : Int) = Builtin.Range.rangeSize lo hi 1 := by rw [rangeSize_one]; split <;> omega
    show IsRangeIter _ _ (lo + ((0 : Nat) : Int) * 1) ((((hi - lo).toNat : Nat) : Int) - ((0 : Nat) : Int)) 1
    rw [e1, e2]
    exact Heap.get?_push_size _ rfl
  · have e : b = (s.heap.push { cls := .type "range", data := .fields #[.int lo t, .int hi u, .int 1 v] }).objs.size := by simpa using hb
    subst e
    exact I1.fpOk (Nat.le_refl _) (I1.hok.fresh (Nat.le_refl _))
def iRng1 (ta : TA) : TI := fun σ H R => ta σ H fun vs H1 => ∃ j : Int, vs = [.int j] ∧ -(2 ^ 62) ≤ j ∧ j < 2 ^ 62 ∧ R (Itr 0 j.toNat) H1
def iRng2 (ta : TA) : TI := fun σ H R => ta σ H fun vs H1 => ∃ i j : Int, vs = [.int i, .int j] ∧ (-(2 ^ 62) ≤ i ∧ i < 2 ^ 62 ∧ -(2 ^ 62) ≤ j ∧ j < 2 ^ 62) ∧ R (Itr i (j - i).toNat) H1
theorem pi_range1 {a : Expr} {ta : TA} {p pos : Pos} (hg : Gl X "range") (hm : X.mg "range" = none) (ha : PA X [a] ta) (hs : starEach [a] X.env = [(false, eval a X.env)] := by rfl) : PI X tg (.Call (.Name "range" p) [a] [] pos) (iRng1 ta) := by
  intro pins s σ H R I h
  refine Call_ (ld_blt I hg hm boot_range (PyProof.Rows.callWith_type1 (thn (ha pos pins s σ H _ I h) fun us s1 ⟨vs, H1, I1, r1, q1⟩ => ?_) hs rfl))
  obtain ⟨j, e, q1, q2, q⟩ := q1
  subst e
  cases r1 with
  | cons r rr =>
    cases rr
    obtain ⟨t, rfl⟩ := r
    exact call_range_1 (range_it I1 (by omega) (by omega) q1 q2 (by simpa using q))
theorem pi_range2 {a b : Expr} {ta : TA} {p pos : Pos} (hg : Gl X "range") (hm : X.mg "range" = none) (ha : PA X [a, b] ta) (hs : starEach [a, b] X.env = [(false, eval a X.env), (false, eval b X.env)] := by rfl) (hs2 : starEach [b] X.env = [(false, eval b X.env)] := by rfl) :
    PI X tg (.Call (.Name "range" p) [a, b] [] pos) (iRng2 ta) := by
  intro pins s σ H R I h
  refine Call_ (ld_blt I hg hm boot_range (PyProof.Rows.callWith_type1 (thn (ha pos pins s σ H _ I h) fun us s1 ⟨vs, H1, I1, r1, q1⟩ => ?_) (by rw [hs, hs2]) (by rw [hs2]; rfl)))
  obtain ⟨i, j, e, ⟨q1, q2, q3, q4⟩, q⟩ := q1
  subst e
  cases r1 with
  | cons r rr =>
    cases rr with
    | cons r' rr =>
      cases rr
      obtain ⟨t, rfl⟩ := r
      obtain ⟨t', rfl⟩ := r'
      exact call_range_2 (range_it I1 q1 q2 q3 q4 q)
def tFor (wi : TI) (g : TG) (tb : TS) : TS := fun D σ H => wi σ H fun J H1 => ∃ W : Nat → Nat → St → Hp → Prop, (∃ m, W 0 m σ H1) ∧ ∀ i m σ H, W i m σ H →
  (J.stop i H ∧ D.nx σ H) ∨ (J.go i H ∧ ∃ N : St → Hp → Prop, (∀ σ' H', N σ' H' → ∃ m', m' < m ∧ W (i + 1) m' σ' H') ∧ ∀ x H', J.yld i H x H' → g x σ H' fun σ2 H2 => tb { D with nx := N, ct := N, bk := D.nx } σ2 H2)
def pinsAt (fp : List Addr) (h : Heap) : List (Addr × Obj) := fp.filterMap fun b => (h.get? b).map fun o => (b, o)
theorem mem_pinsAt {fp : List Addr} {h : Heap} {b : Addr} {o : Obj} (hb : b ∈ fp) (e : h.get? b = some o) : (b, o) ∈ pinsAt fp h := List.mem_filterMap.mpr ⟨b, hb, by rw [e]; rfl⟩
theorem of_pinsAt {fp : List Addr} {h : Heap} {p : Addr × Obj} (hp : p ∈ pinsAt fp h) : p.1 ∈ fp ∧ h.get? p.1 = some p.2 := by
  obtain ⟨b, hb, e⟩ := List.mem_filterMap.mp hp
  cases q : h.get? b with
  | none => rw [q] at e; cases e
  | some o =>
    rw [q] at e
    have e' : (b, o) = p := Option.some.inj e
    subst e'
    exact ⟨hb, q⟩
theorem Inv.pinned {pins : List (Addr × Obj)} {σ : St} {H : Hp} {s : Shared} {fp : List Addr} (I : Inv X pins σ H s) (hf : ∀ b ∈ fp, FpOk X pins H b) (ho : ∀ b ∈ fp, ∃ o, s.heap.get? b = some o ∧ ∀ v, o.data ≠ .cell v) : Inv X (pins ++ pinsAt fp s.heap) σ H s :=
  I.pins_of fun p hp => (List.mem_append.mp hp).elim (fun z => I.pin p (List.mem_append_right _ z)) fun z => by
    obtain ⟨hb, e⟩ := of_pinsAt z
    obtain ⟨f0, f1, f2, _⟩ := hf p.1 hb
    obtain ⟨o, e', d⟩ := ho p.1 hb
    rw [e] at e'; cases e'
    exact ⟨e, f0, f1, f2, d⟩
theorem Inv.unpinned {pins pl : List (Addr × Obj)} {σ : St} {H : Hp} {s : Shared} (I : Inv X (pins ++ pl) σ H s) : Inv X pins σ H s := I.pins_of fun p hp => I.pin p (List.mem_append_right _ (List.mem_append_left _ hp))
theorem ps_for {iter : Expr} {body : List Stmt} {wi : TI} {g : TG} {tb : TS} {pos : Pos} (hp : PassesOwn (model X.prog X.w) X.A X.env X.xe) (hc : X.calm = true) (hi : PI X tg iter wi) (hg : PG X tg g) (hb : PSs X body tb)
    (hs : ∀ x, foldedSetIterable iter X.env x = pure x := by intro _; rfl) : PS X (.For tg iter body [] pos) (tFor wi g tb) := by
  intro pins s σ H D I h
  refine wpAny_For (thn (hi pins s σ H _ I h) fun v s1 h1 => thn h1 fun itv s2 h2 => ?_) hs
  obtain ⟨it, fp, tn, J, H2, e, I2, T, st2, f2, W, ⟨m0, w0⟩, turn⟩ := h2
  subst e
  -- what stays true of the iterator's objects through the loop
  have stat : ∀ {H' : Hp}, (∀ b ∈ fp, H' b = none) → ∀ b ∈ fp, FpOk X pins H' b := fun hn b hb => ⟨hn b hb, (f2 b hb).2⟩
  refine codeAny_forLoop_any (fun n s' => ∃ i σ' H', Inv X pins σ' H' s' ∧ tn i s'.heap ∧ (∀ b ∈ fp, H' b = none) ∧ W i n σ' H') ?_ m0 ⟨0, σ, H2, I2, st2, fun b hb => (f2 b hb).1, w0⟩
  rintro n s3 ⟨i, σ3, H3, I3, st3, fr3, w3⟩
  rcases turn i n σ3 H3 w3 with ⟨stop, qn⟩ | ⟨go, N, hN, step⟩
  · refine wpAny_passesOwn hp (thn (T.done X rfl rfl rfl hc i pins s3 σ3 H3 X.xe I3 (stat fr3) st3 stop) fun r s4 ⟨hr, I4⟩ => ?_)
    subst hr
    exact wpAny_execs_nil ⟨σ3, H3, I4, qn⟩
  · refine wpAny_passesOwn hp (thn (T.item X rfl rfl rfl hc i pins s3 σ3 H3 X.xe I3 (stat fr3) st3 go) fun r s4 ⟨u, hr, h4⟩ => ?_)
    subst hr
    refine wpAny_passesOwn hp (thn h4 fun _ s5 ⟨x, H5, I5, r5, y5, st5, fr5⟩ => ?_)
    have I5' := I5.pinned (stat fr5) (T.obj _ _ st5)
    refine wpAny_passesOwn hp (thn (hg _ s5 σ3 H5 x u _ I5' r5 (step x H5 y5)) fun _ s6 ⟨σ6, H6, I6, q6⟩ => ?_)
    refine wpAny_passesOwn hp (thn (hb _ s6 σ6 H6 _ I6 q6) fun f s7 q7 => ?_)
    have again : ∀ {σ7 : St} {H7 : Hp}, Inv X (pins ++ pinsAt fp s5.heap) σ7 H7 s7 → N σ7 H7 → ∃ m, m < n ∧ ∃ i σ' H', Inv X pins σ' H' s7 ∧ tn i s7.heap ∧ (∀ b ∈ fp, H' b = none) ∧ W i m σ' H' := fun {σ7 H7} I7 n7 => by
      obtain ⟨m', hm, w7⟩ := hN σ7 H7 n7
      refine ⟨m', hm, i + 1, σ7, H7, I7.unpinned, T.keep _ _ _ st5 fun b hb o e => (I7.pin (b, o) (List.mem_append_right _ (List.mem_append_right _ (mem_pinsAt hb e)))).1, fun b hb => ?_, w7⟩
      obtain ⟨o, e, d⟩ := T.obj _ _ st5 b hb
      exact (I7.pin (b, o) (List.mem_append_right _ (List.mem_append_right _ (mem_pinsAt hb e)))).2.1
    cases f with
    | next => obtain ⟨σ7, H7, I7, n7⟩ := q7; exact again I7 n7
    | cont => obtain ⟨σ7, H7, I7, n7⟩ := q7; exact again I7 n7
    | brk => obtain ⟨σ7, H7, I7, q7⟩ := q7; exact ⟨σ7, H7, I7.unpinned, q7⟩
    | ret v => obtain ⟨x7, σ7, H7, I7, r7, q7⟩ := q7; exact ⟨x7, σ7, H7, I7.unpinned, r7, q7⟩
end
theorem for_list {K : PySem.W.Frag} {a : Addr} {xs : List V} {g : TG} {tb : TS} {D : Ends} {σ : St} {H : Hp} (Pv : Nat → St → Hp → Prop) (h0 : Pv 0 σ H) (hl : ∀ i σ H, i ≤ xs.length → Pv i σ H → SqL K H a xs)
    (hs : ∀ i x σ H, xs[i]? = some x → Pv i σ H → g x σ H fun σ2 H2 => tb { D with nx := Pv (i + 1), ct := Pv (i + 1), bk := D.nx } σ2 H2) (hd : ∀ σ H, Pv xs.length σ H → D.nx σ H) :
    ∃ W : Nat → Nat → St → Hp → Prop, (∃ m, W 0 m σ H) ∧ ∀ i m σ H, W i m σ H →
      ((Itl K a).stop i H ∧ D.nx σ H) ∨ ((Itl K a).go i H ∧ ∃ N : St → Hp → Prop, (∀ σ' H', N σ' H' → ∃ m', m' < m ∧ W (i + 1) m' σ' H') ∧ ∀ x H', (Itl K a).yld i H x H' → g x σ H' fun σ2 H2 => tb { D with nx := N, ct := N, bk := D.nx } σ2 H2) := by
  refine ⟨fun i m σ H => m = xs.length - i ∧ i ≤ xs.length ∧ Pv i σ H, ⟨xs.length, by simp, Nat.zero_le _, h0⟩, ?_⟩
  rintro i m σ H ⟨rfl, hi, p⟩
  have q := hl i σ H hi p
  by_cases hlt : i < xs.length
  · refine .inr ⟨⟨xs, xs[i], q, by simp [hlt]⟩, Pv (i + 1), fun σ' H' p' => ⟨xs.length - (i + 1), by omega, rfl, hlt, p'⟩, fun x H' y => ?_⟩
    obtain ⟨e, y⟩ := y
    subst e
    exact hs i x σ _ (y xs q) p
  · have e : i = xs.length := by omega
    subst e
    exact .inl ⟨⟨xs, q, Nat.le_refl _⟩, hd σ H p⟩
theorem for_range {lo : Int} {n : Nat} {g : TG} {tb : TS} {D : Ends} {σ : St} {H : Hp} (Pv : Nat → St → Hp → Prop) (h0 : Pv 0 σ H)
    (hs : ∀ i σ H, i < n → Pv i σ H → g (.int (lo + i)) σ H fun σ2 H2 => tb { D with nx := Pv (i + 1), ct := Pv (i + 1), bk := D.nx } σ2 H2) (hd : ∀ σ H, Pv n σ H → D.nx σ H) :
    ∃ W : Nat → Nat → St → Hp → Prop, (∃ m, W 0 m σ H) ∧ ∀ i m σ H, W i m σ H →
      ((Itr lo n).stop i H ∧ D.nx σ H) ∨ ((Itr lo n).go i H ∧ ∃ N : St → Hp → Prop, (∀ σ' H', N σ' H' → ∃ m', m' < m ∧ W (i + 1) m' σ' H') ∧ ∀ x H', (Itr lo n).yld i H x H' → g x σ H' fun σ2 H2 => tb { D with nx := N, ct := N, bk := D.nx } σ2 H2) := by
  refine ⟨fun i m σ H => m = n - i ∧ i ≤ n ∧ Pv i σ H, ⟨n, by simp, Nat.zero_le _, h0⟩, ?_⟩
  rintro i m σ H ⟨rfl, hi, p⟩
  by_cases hlt : i < n
  · refine .inr ⟨hlt, Pv (i + 1), fun σ' H' p' => ⟨n - (i + 1), by omega, rfl, hlt, p'⟩, fun x H' y => ?_⟩
    obtain ⟨e, y⟩ := y
    subst e y
    exact hs i σ _ hlt p
  · have e : i = n := by omega
    subst e
    exact .inl ⟨Nat.le_refl _, hd σ H p⟩
theorem while_by {c : TT} {tb : TS} {D : Ends} {σ : St} {H : Hp} (Pv : St → Hp → Prop) (μ : St → Hp → Nat) (h0 : Pv σ H)
    (hs : ∀ σ H, Pv σ H → c σ H fun b H1 => if b = true then tb { D with nx := fun σ' H' => Pv σ' H' ∧ μ σ' H' < μ σ H, ct := fun σ' H' => Pv σ' H' ∧ μ σ' H' < μ σ H, bk := D.nx } σ H1 else D.nx σ H1)
    (mono : ∀ σ H Q Q', (∀ b H1, Q b H1 → Q' b H1) → c σ H Q → c σ H Q') : tWhile c tb D σ H := by
  refine ⟨fun m σ H => m = μ σ H ∧ Pv σ H, ⟨_, rfl, h0⟩, ?_⟩
  rintro m σ H ⟨rfl, p⟩
  refine mono σ H _ _ (fun b H1 q => ?_) (hs σ H p)
  cases b with
  | true => exact ⟨_, fun σ' H' ⟨p', l⟩ => ⟨_, l, rfl, p'⟩, q⟩
  | false => exact q
end L2
namespace L2
open PySem PySem.Spec PyProof.Rows
abbrev R2 := V → V → Hp → VK → Prop
def OpR (X : Cx) (f : Value → Value → Sem Value) (r : R2) : Prop :=
  ∀ (pins : List (Addr × Obj)) (s : Shared) (σ : St) (H : Hp) (x y : V) (v u : Value) (Q : VK), Inv X pins σ H s → RelV x v → RelV y u → r x y H Q →
    wpAny (model X.prog X.w) X.A (f v u) (EP X pins σ Q) X.xe s
def UnR (X : Cx) (f : Value → Sem Value) (r : V → Hp → VK → Prop) : Prop :=
  ∀ (pins : List (Addr × Obj)) (s : Shared) (σ : St) (H : Hp) (x : V) (v : Value) (Q : VK), Inv X pins σ H s → RelV x v → r x H Q →
    wpAny (model X.prog X.w) X.A (f v) (EP X pins σ Q) X.xe s
def CallR (X : Cx) (f : Value) (r : List V → Hp → VK → Prop) : Prop :=
  ∀ (pins : List (Addr × Obj)) (s : Shared) (σ : St) (H : Hp) (xs : List V) (us : List Value) (Q : VK), Inv X pins σ H s → Vals xs us → r xs H Q →
    wpAny (model X.prog X.w) X.A (call f us) (EP X pins σ Q) X.xe s
def tOp (r : R2) (ta tb : TE) : TE := fun σ H Q => ta σ H fun x H1 => tb σ H1 fun y H2 => r x y H2 Q
def tUn (r : V → Hp → VK → Prop) (ta : TE) : TE := fun σ H Q => ta σ H fun x H1 => r x H1 Q
def rI (C : Int → Int → Prop) (g : Int → Int → V) : R2 := fun x y H Q => ∃ i j, x = .int i ∧ y = .int j ∧ C i j ∧ Q (g i j) H
def rI0 (g : Int → Int → V) : R2 := fun x y H Q => ∃ i j, x = .int i ∧ y = .int j ∧ Q (g i j) H
def rU (g : Int → V) : V → Hp → VK → Prop := fun x H Q => ∃ i, x = .int i ∧ Q (g i) H
section
variable {X : Cx} {a b c : Expr} {ta tb tc : TE} {pos : Pos}
theorem binT (ha : PE X a ta) (hb : PE X b tb) {pins : List (Addr × Obj)} {s : Shared} {σ : St} {H : Hp} {R : V → V → Hp → Prop} (I : Inv X pins σ H s)
    (h : ta σ H fun x H1 => tb σ H1 fun y H2 => R x y H2) {Q : Value → Shared → Prop} {f : Value → Value → Sem Value}
    (hf : ∀ v u s2 x y H2, Inv X pins σ H2 s2 → RelV x v → RelV y u → R x y H2 → wpAny (model X.prog X.w) X.A (f v u) Q X.xe s2) :
    wpAny (model X.prog X.w) X.A (eval a X.env) (fun v s₁ => wpAny (model X.prog X.w) X.A (eval b X.env) (fun u s₂ => wpAny (model X.prog X.w) X.A (f v u) Q X.xe s₂) X.xe s₁) X.xe s := by
  refine thn (ha pins s σ H _ I h) fun v s1 ⟨x, H1, I1, r1, q1⟩ => ?_
  refine thn (hb pins s1 σ H1 _ I1 q1) fun u s2 ⟨y, H2, I2, r2, q2⟩ => ?_
  exact hf v u s2 x y H2 I2 r1 r2 q2
theorem pe_op {op : Operator} {r : R2} (ho : OpR X (binaryOp op) r) (ha : PE X a ta) (hb : PE X b tb) : PE X (.BinOp a op b pos) (tOp r ta tb) := by
  intro pins s σ H Q I h
  exact wpAny_BinOp (binT ha hb I h fun v u s2 x y H2 I2 rx ry q => ho pins s2 σ H2 x y v u Q I2 rx ry q)
theorem pe_un {op : UnaryOp} {r : V → Hp → VK → Prop} (ho : UnR X (unaryOp op) r) (ha : PE X a ta) : PE X (.UnaryOp op a pos) (tUn r ta) := by
  intro pins s σ H Q I h
  exact UnaryOp_ (thn (ha pins s σ H _ I h) fun v s1 ⟨x, H1, I1, r1, q1⟩ => ho pins s1 σ H1 x v Q I1 r1 q1)
theorem opI {f : Value → Value → Sem Value} {C : Int → Int → Prop} {g : Int → Int → Int}
    (rule : ∀ (i j : Int) (t u : Tok) (s : Shared) (Q : Value → Shared → Prop) (E : Value → Shared → Prop), C i j → Q (.int (g i j) s.toks) { s with toks := s.toks + 1 } → wpAny (model X.prog X.w) X.A (f (.int i t) (.int j u)) Q E s) :
    OpR X f (rI C fun i j => .int (g i j)) := by
  intro pins s σ H x y v u Q I rx ry h
  obtain ⟨i, j, rfl, rfl, hc, q⟩ := h
  obtain ⟨t, rfl⟩ := rx
  obtain ⟨t', rfl⟩ := ry
  exact rule i j t t' s _ _ hc ⟨.int (g i j), H, I.tok _, ⟨_, rfl⟩, q⟩
theorem opI0 {f : Value → Value → Sem Value} {g : Int → Int → Int}
    (rule : ∀ (i j : Int) (t u : Tok) (s : Shared) (Q : Value → Shared → Prop) (E : Value → Shared → Prop), Q (.int (g i j) s.toks) { s with toks := s.toks + 1 } → wpAny (model X.prog X.w) X.A (f (.int i t) (.int j u)) Q E s) :
    OpR X f (rI0 fun i j => .int (g i j)) := by
  intro pins s σ H x y v u Q I rx ry h
  obtain ⟨i, j, rfl, rfl, q⟩ := h
  obtain ⟨t, rfl⟩ := rx
  obtain ⟨t', rfl⟩ := ry
  exact rule i j t t' s _ _ ⟨.int (g i j), H, I.tok _, ⟨_, rfl⟩, q⟩
theorem opB0 {f : Value → Value → Sem Value} {g : Int → Int → Bool}
    (rule : ∀ (i j : Int) (t u : Tok) (s : Shared) (Q : Value → Shared → Prop) (E : Value → Shared → Prop), Q (.bool (g i j)) s → wpAny (model X.prog X.w) X.A (f (.int i t) (.int j u)) Q E s) :
    OpR X f (rI0 fun i j => .bl (g i j)) := by
  intro pins s σ H x y v u Q I rx ry h
  obtain ⟨i, j, rfl, rfl, q⟩ := h
  obtain ⟨t, rfl⟩ := rx
  obtain ⟨t', rfl⟩ := ry
  exact rule i j t t' s _ _ ⟨.bl (g i j), H, I, rfl, q⟩
def CDiv (i j : Int) : Prop := 0 < j ∧ j < 1073741824
def CMul (i j : Int) : Prop := (-(2 ^ 64) < i ∧ i < 2 ^ 64) ∨ (-(2 ^ 64) < j ∧ j < 2 ^ 64)
theorem CMul.ok {i j : Int} (h : CMul i j) : IntMulOk i j := by
  rcases h with ⟨h1, h2⟩ | ⟨h1, h2⟩
  · exact .of_left (intBits_le_64 h1 h2)
  · exact .of_right (intBits_le_64 h1 h2)
theorem op_add : OpR X (binaryOp .Add) (rI0 fun i j => .int (i + j)) := opI0 fun _ _ _ _ _ _ _ q => add_int q
theorem op_sub : OpR X (binaryOp .Sub) (rI0 fun i j => .int (i - j)) := opI0 fun _ _ _ _ _ _ _ q => sub_int q
theorem op_mul : OpR X (binaryOp .Mult) (rI CMul fun i j => .int (i * j)) := opI fun _ _ _ _ _ _ _ hc q => mul_int q hc.ok
theorem op_fdiv : OpR X (binaryOp .FloorDiv) (rI CDiv fun i j => .int (i / j)) := opI fun i j _ _ _ _ _ hc q => by
  have h1 : (0 : Int) < j := hc.1
  have h2 : j < 1073741824 := hc.2
  exact floordiv_int (by omega) (by rw [Int.fdiv_eq_ediv_of_nonneg i (by omega)]; exact q) (.inl (PyProof.noPylong_small (by omega)))
theorem op_mod : OpR X (binaryOp .Mod) (rI (fun _ j => 0 < j) fun i j => .int (i % j)) := opI fun i j _ _ _ _ _ hc q => by
  have h1 : (0 : Int) < j := hc
  exact mod_int' (by omega) (by rw [Int.fmod_eq_emod_of_nonneg i (by omega)]; exact q)
theorem unI {f : Value → Sem Value} {g : Int → Int}
    (rule : ∀ (i : Int) (t : Tok) (s : Shared) (Q : Value → Shared → Prop) (E : Value → Shared → Prop), Q (.int (g i) s.toks) { s with toks := s.toks + 1 } → wpAny (model X.prog X.w) X.A (f (.int i t)) Q E s) :
    UnR X f (rU fun i => .int (g i)) := by
  intro pins s σ H x v Q I rx h
  obtain ⟨i, rfl, q⟩ := h
  obtain ⟨t, rfl⟩ := rx
  exact rule i t s _ _ ⟨.int (g i), H, I.tok _, ⟨_, rfl⟩, q⟩
theorem un_neg : UnR X (unaryOp .USub) (rU fun i => .int (-i)) := unI fun _ _ _ _ _ q => neg_int q
end
def scal : V → V → Bool
  | .non, .non => true | .non, .int _ => true | .int _, .non => true | .non, .bl _ => true | .bl _, .non => true | .non, .str _ => true | .str _, .non => true
  | .int _, .int _ => true | .bl _, .bl _ => true | .str _, .str _ => true | .byt _, .byt _ => true
  | .int _, .str _ => true | .str _, .int _ => true | .bl _, .str _ => true | .str _, .bl _ => true
  | _, _ => false
def rEq : R2 := fun x y H Q => scal x y = true ∧ Q (.bl (decide (x = y))) H
def rNe : R2 := fun x y H Q => scal x y = true ∧ Q (.bl (!decide (x = y))) H
theorem dec_int {i j : Int} : decide (V.int i = V.int j) = (i == j) := by
  rw [Bool.eq_iff_iff]
  simp
theorem dec_bl {i j : Bool} : decide (V.bl i = V.bl j) = (i == j) := by
  rw [Bool.eq_iff_iff]
  simp
theorem dec_str {i j : Str} : decide (V.str i = V.str j) = (i == j) := by
  rw [Bool.eq_iff_iff]
  simp
theorem dec_byt {i j : Array UInt8} : decide (V.byt i = V.byt j) = (i.toList == j.toList) := by
  rw [Bool.eq_iff_iff]
  cases i
  cases j
  simp
section
variable {X : Cx} {a b c : Expr} {ta tb tc : TE} {pos : Pos}
theorem fin_bl {pins : List (Addr × Obj)} {σ : St} {H : Hp} {s : Shared} {Q : VK} {k k' : Bool} (I : Inv X pins σ H s) (q : Q (.bl k) H) (e : k = k') : EP X pins σ Q (.bool k') s := by
  subst e
  exact ⟨.bl k, H, I, rfl, q⟩
theorem op_eq : OpR X (compareOp .Eq) rEq := by
  intro pins s σ H x y v u Q I rx ry h
  obtain ⟨hs, q⟩ := h
  cases x with
  | non =>
    cases rx
    cases y with
    | non => cases ry; exact PySem.EqNone.eq_none_none (fin_bl I q (by simp))
    | bl j => cases ry; exact PySem.EqNone.eq_none_bool (fin_bl I q (by simp))
    | int j => obtain ⟨t', rfl⟩ := ry; exact PySem.EqNone.eq_none_int (fin_bl I q (by simp))
    | str j => obtain ⟨t', rfl⟩ := ry; exact PySem.EqNone.eq_none_str (fin_bl I q (by simp))
    | _ => exact absurd (show false = true from hs) Bool.false_ne_true
  | bl i =>
    cases rx
    cases y with
    | non => cases ry; exact PySem.EqNone.eq_bool_none (fin_bl I q (by simp))
    | bl j => cases ry; exact eq_bool (fin_bl I q dec_bl)
    | str j => obtain ⟨t', rfl⟩ := ry; exact PySem.EqMixed.eq_bool_str (fin_bl I q (by simp))
    | _ => exact absurd (show false = true from hs) Bool.false_ne_true
  | int i =>
    obtain ⟨t, rfl⟩ := rx
    cases y with
    | non => cases ry; exact PySem.EqNone.eq_int_none (fin_bl I q (by simp))
    | int j => obtain ⟨t', rfl⟩ := ry; exact eq_int (fin_bl I q dec_int)
    | str j => obtain ⟨t', rfl⟩ := ry; exact PySem.EqMixed.eq_int_str (fin_bl I q (by simp))
    | _ => exact absurd (show false = true from hs) Bool.false_ne_true
  | str i =>
    obtain ⟨t, rfl⟩ := rx
    cases y with
    | non => cases ry; exact PySem.EqNone.eq_str_none (fin_bl I q (by simp))
    | bl j => cases ry; exact PySem.EqMixed.eq_str_bool (fin_bl I q (by simp))
    | int j => obtain ⟨t', rfl⟩ := ry; exact PySem.EqMixed.eq_str_int (fin_bl I q (by simp))
    | str j => obtain ⟨t', rfl⟩ := ry; exact eq_str (fin_bl I q dec_str)
    | _ => exact absurd (show false = true from hs) Bool.false_ne_true
  | byt i =>
    obtain ⟨t, rfl⟩ := rx
    cases y with
    | byt j => obtain ⟨t', rfl⟩ := ry; exact PySem.W.eq_bytes (fin_bl I q dec_byt)
    | _ => exact absurd (show false = true from hs) Bool.false_ne_true
  | _ => cases y <;> exact absurd (show false = true from hs) Bool.false_ne_true
theorem op_ne : OpR X (compareOp .NotEq) rNe := by
  intro pins s σ H x y v u Q I rx ry h
  obtain ⟨hs, q⟩ := h
  cases x with
  | non =>
    cases rx
    cases y with
    | non => cases ry; exact PySem.EqNone.ne_none_none (fin_bl I q (by simp))
    | bl j => cases ry; exact PySem.EqNone.ne_none_bool (fin_bl I q (by simp))
    | int j => obtain ⟨t', rfl⟩ := ry; exact PySem.EqNone.ne_none_int (fin_bl I q (by simp))
    | str j => obtain ⟨t', rfl⟩ := ry; exact PySem.EqNone.ne_none_str (fin_bl I q (by simp))
    | _ => exact absurd (show false = true from hs) Bool.false_ne_true
  | bl i =>
    cases rx
    cases y with
    | non => cases ry; exact PySem.EqNone.ne_bool_none (fin_bl I q (by simp))
    | bl j => cases ry; exact ne_bool (fin_bl I q (congrArg not dec_bl))
    | str j => obtain ⟨t', rfl⟩ := ry; exact PySem.EqMixed.ne_bool_str (fin_bl I q (by simp))
    | _ => exact absurd (show false = true from hs) Bool.false_ne_true
  | int i =>
    obtain ⟨t, rfl⟩ := rx
    cases y with
    | non => cases ry; exact PySem.EqNone.ne_int_none (fin_bl I q (by simp))
    | int j => obtain ⟨t', rfl⟩ := ry; exact ne_int (fin_bl I q (congrArg not dec_int))
    | str j => obtain ⟨t', rfl⟩ := ry; exact PySem.EqMixed.ne_int_str (fin_bl I q (by simp))
    | _ => exact absurd (show false = true from hs) Bool.false_ne_true
  | str i =>
    obtain ⟨t, rfl⟩ := rx
    cases y with
    | non => cases ry; exact PySem.EqNone.ne_str_none (fin_bl I q (by simp))
    | bl j => cases ry; exact PySem.EqMixed.ne_str_bool (fin_bl I q (by simp))
    | int j => obtain ⟨t', rfl⟩ := ry; exact PySem.EqMixed.ne_str_int (fin_bl I q (by simp))
    | str j => obtain ⟨t', rfl⟩ := ry; exact ne_str (fin_bl I q (congrArg not dec_str))
    | _ => exact absurd (show false = true from hs) Bool.false_ne_true
  | byt i =>
    obtain ⟨t, rfl⟩ := rx
    cases y with
    | byt j => obtain ⟨t', rfl⟩ := ry; exact PySem.W.ne_bytes (fin_bl I q (congrArg not dec_byt))
    | _ => exact absurd (show false = true from hs) Bool.false_ne_true
  | _ => cases y <;> exact absurd (show false = true from hs) Bool.false_ne_true
theorem op_lt : OpR X (compareOp .Lt) (rI0 fun i j => .bl (decide (i < j))) := opB0 fun _ _ _ _ _ _ _ q => lt_int q
theorem op_le : OpR X (compareOp .LtE) (rI0 fun i j => .bl (decide (i ≤ j))) := opB0 fun _ _ _ _ _ _ _ q => le_int q
theorem op_gt : OpR X (compareOp .Gt) (rI0 fun i j => .bl (decide (j < i))) := opB0 fun _ _ _ _ _ _ _ q => gt_int q
theorem op_ge : OpR X (compareOp .GtE) (rI0 fun i j => .bl (decide (j ≤ i))) := opB0 fun _ _ _ _ _ _ _ q => ge_int q
theorem nomark (b : Expr) {op : CmpOp} (h : op ≠ .In := by decide) (h2 : op ≠ .NotIn := by decide) : behindInMarks op b = false := by
  have e1 : (op == CmpOp.In) = false := by cases op <;> first | rfl | exact absurd rfl h
  have e2 : (op == CmpOp.NotIn) = false := by cases op <;> first | rfl | exact absurd rfl h2
  cases b <;> simp [behindInMarks, e1, e2]
theorem pe_cmpR {op : CmpOp} {r : R2} (ho : OpR X (compareOp op) r) (ha : PE X a ta) (hb : PE X b tb) (hm : behindInMarks op b = false) : PE X (.Compare a [op] [b] pos) (tOp r ta tb) := by
  intro pins s σ H Q I h
  exact wpAny_Compare1 (binT ha hb I h fun v u s2 x y H2 I2 rx ry q => ho pins s2 σ H2 x y v u Q I2 rx ry q) hm
def tTest (t : TE) : TT := fun σ H Q => t σ H fun x H' => ∃ k, x = .bl k ∧ Q k H'
theorem pt_cmpR {op : CmpOp} {r : R2} (ho : OpR X (compareOp op) r) (ha : PE X a ta) (hb : PE X b tb) (hm : behindInMarks op b = false) : PT X (.Compare a [op] [b] pos) (tTest (tOp r ta tb)) := by
  intro pins s σ H Q I h
  refine wpAny_isTrue_Compare1 (thn (ha pins s σ H _ I h) fun v s1 ⟨x, H1, I1, r1, q1⟩ => thn (hb pins s1 σ H1 _ I1 q1) fun u s2 ⟨y, H2, I2, r2, q2⟩ =>
    thn (ho pins s2 σ H2 x y v u _ I2 r1 r2 q2) fun c s3 ⟨z, H3, I3, r3, k, e, q3⟩ => ?_) hm
  subst e
  cases r3
  exact wpAny_truthy_bool ⟨H3, I3, q3⟩
theorem line63 : (sizeLine : Nat) < 2 ^ 63 := by rw [sizeLine_eq]; decide
theorem vals1 {x : V} {us : List Value} (r : Vals [x] us) : ∃ u, us = [u] ∧ RelV x u := by
  cases r with
  | cons r1 r2 => cases r2; exact ⟨_, rfl, r1⟩
theorem call_str_int : CallR X (.type "str") (fun xs H Q => ∃ i, xs = [.int i] ∧ i.natAbs.log2 < 1920 ∧ Q (.str (toString i)) H) := by
  intro pins s σ H xs us Q I r h
  obtain ⟨i, rfl, hz, q⟩ := h
  obtain ⟨u, rfl, t, rfl⟩ := vals1 r
  exact PySem.P.str_of_int hz ⟨.str _, H, I.tok _, ⟨_, rfl⟩, q⟩
theorem call_ord : CallR X (.builtin "ord") (fun xs H Q => ∃ x, xs = [.str x] ∧ x.length = 1 ∧ Q (.int (x.cps.getD 0 0 : Nat)) H) := by
  intro pins s σ H xs us Q I r h
  obtain ⟨x, rfl, hz, q⟩ := h
  obtain ⟨u, rfl, t, rfl⟩ := vals1 r
  exact ord_of_one hz ⟨.int _, H, I.tok _, ⟨_, rfl⟩, q⟩
end
end L2
namespace L2
open PySem PySem.Spec PyProof.Rows
structure ObjM (h : Heap) (x dx C : Addr) (mA : Str → Option Value) : Prop where
  obj : h.get? x = some (PySem.W.instObj C dx)
  ns : h.Ns1 dx mA
  ne : dx ≠ x
theorem lookIn_ns {h : Heap} {dx : Addr} {mA : Str → Option Value} (n : h.Ns1 dx mA) : ∃ od, h.get? dx = some od ∧ ∀ name, PySem.W.lookIn name od = some (mA name) := by
  obtain ⟨o, es, ep, ho, hd, hk, _, hm⟩ := n
  refine ⟨o, ho, fun name => ?_⟩
  have e := hm name
  unfold nsFind findBy at e
  rw [← Array.find?_toList] at e
  unfold PySem.W.lookIn
  rw [hd]
  dsimp only
  split
  · rename_i y q
    rw [q] at e
    exact congrArg some e
  · rename_i q
    rw [q] at e
    have a : es.toList.any (·.refKey) = false := by
      rw [List.any_eq_false]
      intro y hy
      obtain ⟨z, t, hkey⟩ := hk y (Array.mem_toList_iff.mp hy)
      simp [DictEntry.refKey, hkey]
    have a' : ¬ es.toList.any (·.refKey) = true := by rw [a]; exact Bool.false_ne_true
    rw [if_neg a']
    exact congrArg some e
theorem ObjM.look {h : Heap} {x dx C : Addr} {mA : Str → Option Value} (I : ObjM h x dx C mA) : ∃ od, PySem.W.InstAt h x (PySem.W.instObj C dx) C (some od) ∧ ∀ name, PySem.W.lookIn name od = some (mA name) :=
  let ⟨od, ho, hl⟩ := lookIn_ns I.ns
  ⟨od, ⟨I.obj, rfl, rfl, ho⟩, hl⟩
section
variable {prog : Program} {w : World} {A : Around} {E : Value → Shared → Prop} {s : Shared} {K : PySem.W.Frag} {x dx C f : Addr} {mA : Str → Option Value} {name : Str} {v : Value}
theorem get_map {expr : Bool} {Q : Value → Shared → Prop} (X : K.In s.heap) (I : ObjM s.heap x dx C mA) (hg : PySem.W.plainGet K C name = true) (hh : PySem.W.hasDictIn K C = true)
    (ha : PySem.W.findIn K (.ref C) name = some none) (hv : mA name = some v) (hv' : PySem.W.handedIn v = true) (h : Q v { s with toks := s.toks + 1 }) :
    wpAny (model prog w) A (getAttr (.ref x) name expr) Q E s := by
  obtain ⟨od, J, hl⟩ := I.look
  exact PySem.W.get_value X J (PySem.W.plainGet_of hg).1 (PySem.W.findObj_own hh ha rfl (by rw [hl, hv])) hv' h
theorem set_map {ns : List Str} {Q : Unit → Shared → Prop} (X : K.In s.heap) (I : ObjM s.heap x dx C mA)
    (hs : PySem.W.findIn K (.ref C) "__setattr__" = some (some (.builtin "object.__setattr__"))) (hp : PySem.W.plainOver K C = true) (ht : PySem.W.takerIn K C name = some none) (hh : PySem.W.hasDictIn K C = true)
    (hw : PySem.Within mA ns) (hsz : ns.length ≤ sizeLine)
    (h : ∀ h', ObjM h' x dx C (fun y => if y = name then some v else mA y) → Heap.SameBut dx s.heap h' → Q () { s with heap := h', toks := s.toks + 2 }) :
    wpAny (model prog w) A (setAttr (.ref x) name v) Q E s := by
  obtain ⟨od, J, hl⟩ := I.look
  refine PySem.W.set_plain X J hs (PySem.W.osa_open (s := { s with toks := s.toks + 1 }) (r := none) X J hp ht fun b => ?_)
  obtain ⟨cd, hc, hd'⟩ := PySem.W.any_some hh
  have hx : s.heap.get? x = some ⟨.ref C, some dx, .plain, #[]⟩ := I.obj
  refine wpAny_bind (wpAny_pure (wpAny_bind (wpAny_bind (wpAny_loadPart hx (wpAny_bind (PySem.W.Looks.here (s := { s with toks := s.toks + 1 }) (PySem.W.looks_clsIn X hc) ?_))))))
  rw [hd']
  refine wpAny_pure (a := some dx) (wpAny_bind (wpAny_pure (wpAny_bind ?_)))
  refine wpAny_nsSet1 (s := { s with toks := s.toks + 1 }) I.ns fun h' hn2 hs2 => ?_
  obtain ⟨oD, esD, epD, hoD, hdD, hcD⟩ := hn2.count (PySem.Within.cons name v hw)
  refine wpAny_bind (wpAny_lookBehind hoD (by rw [hdD]; exact pastItsLine_dict (Nat.le_trans hcD (by rw [List.length_cons]; omega))) ?_)
  exact wpAny_pure (h _ ⟨(hs2.2 _ (Ne.symm I.ne)).trans I.obj, hn2, I.ne⟩ hs2)
theorem make_map {R : Result → Shared → Prop} {vs : List Value} {kw : List (Str × Value)} (X : K.In s.heap) (hm : PySem.W.makesIn K C = true)
    (hi : PySem.W.findIn K (.ref C) "__init__" = some (some (.ref f))) (hf : PySem.W.typeIn K (.ref f) = some (.type "function"))
    (h : codeAny (model prog w) (A.under (.builtin "type.__call__" ⟨.ref C :: vs, kw⟩)) (.call (.ref f) ⟨.ref (s.heap.objs.size + 1) :: vs, kw⟩) (PySem.W.InitBack (s.heap.objs.size + 1) R)
      { s with heap := (s.heap.push PySem.W.emptyDict).push (PySem.W.instObj C s.heap.objs.size) }) :
    codeAny (model prog w) A (.call (.ref C) ⟨vs, kw⟩) R s := by
  obtain ⟨hh, g, d, t, os⟩ := s
  exact PySem.W.make_core (PySem.W.makes_of X hm) (PySem.W.looks_findIn X hi) (fun self => PySem.W.bind_fn X self hf) (.inl rfl) h
end
def putF (f : Str) (v : V) : List (Str × V) → List (Str × V)
  | [] => [(f, v)]
  | (g, x) :: r => if g = f then (g, v) :: r else (g, x) :: putF f v r
theorem lookup_putF (f g : Str) (v : V) : ∀ fs : List (Str × V), (putF f v fs).lookup g = if g = f then some v else fs.lookup g
  | [] => by
    show List.lookup g [(f, v)] = _
    by_cases h : g = f
    · have hb : (g == f) = true := beq_iff_eq.mpr h
      simp only [List.lookup, hb, if_pos h]
    · have hb : (g == f) = false := beq_eq_false_iff_ne.mpr h
      simp only [List.lookup, hb, if_neg h]
  | (k, x) :: r => by
    have ih := lookup_putF f g v r
    rw [show putF f v ((k, x) :: r) = (if k = f then (k, v) :: r else (k, x) :: putF f v r) from rfl]
    by_cases hk : k = f
    · rw [if_pos hk]
      by_cases h : g = k
      · have hb : (g == k) = true := beq_iff_eq.mpr h
        simp only [List.lookup, hb, if_pos (h.trans hk)]
      · have hb : (g == k) = false := beq_eq_false_iff_ne.mpr h
        simp only [List.lookup, hb, if_neg (fun e : g = f => h (e.trans hk.symm))]
    · rw [if_neg hk]
      by_cases h : g = k
      · have hb : (g == k) = true := beq_iff_eq.mpr h
        simp only [List.lookup, hb, if_neg (fun e : g = f => hk (h.symm.trans e))]
      · have hb : (g == k) = false := beq_eq_false_iff_ne.mpr h
        simp only [List.lookup, hb]
        exact ih
theorem keys_putF (f : Str) (v : V) : ∀ fs : List (Str × V), f ∈ (putF f v fs).map (·.1) ∧ ∀ g, g ∈ fs.map (·.1) → g ∈ (putF f v fs).map (·.1)
  | [] => ⟨by simp [putF], fun g h => by simp at h⟩
  | (k, x) :: r => by
    obtain ⟨i1, i2⟩ := keys_putF f v r
    rw [show putF f v ((k, x) :: r) = (if k = f then (k, v) :: r else (k, x) :: putF f v r) from rfl]
    by_cases hk : k = f
    · rw [if_pos hk]
      subst hk
      exact ⟨by simp, fun g h => by simpa using h⟩
    · rw [if_neg hk]
      refine ⟨?_, fun g h => ?_⟩
      · rw [List.map_cons]
        exact List.mem_cons_of_mem _ i1
      · rw [List.map_cons] at h ⊢
        rcases List.mem_cons.mp h with e | e
        · exact List.mem_cons.mpr (.inl e)
        · exact List.mem_cons_of_mem _ (i2 g e)
theorem length_putF (f : Str) (v : V) : ∀ fs : List (Str × V), (putF f v fs).length ≤ fs.length + 1
  | [] => by simp [putF]
  | (k, x) :: r => by
    have ih := length_putF f v r
    rw [show putF f v ((k, x) :: r) = (if k = f then (k, v) :: r else (k, x) :: putF f v r) from rfl]
    by_cases hk : k = f
    · rw [if_pos hk, List.length_cons, List.length_cons]; omega
    · rw [if_neg hk, List.length_cons, List.length_cons]; omega
theorem RelO.some_of {v : V} {o : Option Value} (r : RelO (some v) o) : ∃ u, o = some u ∧ RelV v u := by
  cases o with
  | none => exact (show False from r).elim
  | some u => exact ⟨u, rfl, r⟩
theorem handed_of {v : V} {u : Value} (r : RelV v u) : PySem.W.handedIn u = true := by
  cases v with
  | non => cases (show u = Value.none from r); rfl
  | bl b => cases (show u = Value.bool b from r); rfl
  | int i => obtain ⟨t, e⟩ := (show ∃ t, u = Value.int i t from r); cases e; rfl
  | str x => obtain ⟨t, e⟩ := (show ∃ t, u = Value.str x t from r); cases e; rfl
  | byt b => obtain ⟨t, e⟩ := (show ∃ t, u = Value.bytes b t from r); cases e; rfl
  | flt b => obtain ⟨t, e⟩ := (show ∃ t, u = Value.float b t from r); cases e; rfl
  | ref a => cases (show u = Value.ref a from r); rfl
  | ty n => cases (show u = Value.type n from r); rfl
section
variable {P : Program} {w : World} {H H' : Hp} {h h' : Heap} {a C dx : Addr} {fs fs' : List (Str × V)}
theorem ins_get (hok : HOk P w H h) (e : H a = some (.ins C dx fs)) : ∃ mA, ObjM h a dx C mA ∧ (∀ f, RelO (fs.lookup f) (mA f)) ∧ PySem.Within mA (fs.map (·.1)) ∧ fs.length ≤ 1000 ∧ H dx = some (.own a) := by
  obtain ⟨d, z, ne, ob, mA, n, r, q⟩ := (show ObjOk P w H h a (.ins C dx fs) from hok a _ e)
  exact ⟨mA, ⟨ob, n, ne⟩, r, q, z, d⟩
end
structure Cls (K : PySem.W.Frag) (C : Addr) : Prop where
  pg : PySem.W.plainGet K C Str.empty = true
  hd : PySem.W.hasDictIn K C = true
  po : PySem.W.plainOver K C = true
  sa : PySem.W.findIn K (.ref C) "__setattr__" = some (some (.builtin "object.__setattr__"))
theorem Cls.get {K : PySem.W.Frag} {C : Addr} (c : Cls K C) (f : Str) : PySem.W.plainGet K C f = true := c.pg
def NoAttr (K : PySem.W.Frag) (C : Addr) (f : Str) : Prop := PySem.W.findIn K (.ref C) f = some none
theorem NoAttr.taker {K : PySem.W.Frag} {C : Addr} {f : Str} (n : NoAttr K C f) : PySem.W.takerIn K C f = some none := by
  unfold PySem.W.takerIn
  rw [show PySem.W.findIn K (.ref C) f = some none from n]
  rfl
section
variable {X : Cx} {pins : List (Addr × Obj)} {σ : St} {H : Hp} {s : Shared} {a C dx : Addr} {fs : List (Str × V)} {f : Str} {v : V} {A : Around} {E : Value → Shared → Prop}
theorem getattr_ok {b : Bool} {Q : Value → Shared → Prop} (I : Inv X pins σ H s) (e : H a = some (.ins C dx fs)) (c : Cls X.K C) (n : NoAttr X.K C f) (l : fs.lookup f = some v)
    (h : ∀ u s', Inv X pins σ H s' → RelV v u → Q u s') : wpAny (model X.prog X.w) A (getAttr (.ref a) f b) Q E s := by
  obtain ⟨mA, O, r, _, _, _⟩ := ins_get I.hok e
  obtain ⟨u, hu, ru⟩ := RelO.some_of (v := v) (o := mA f) (by rw [← l]; exact r f)
  exact get_map I.kIn O (c.get f) c.hd n hu (handed_of ru) (h u _ (I.tok _) ru)
theorem setattr_ok {y : V} {u : Value} {Q : Unit → Shared → Prop} (I : Inv X pins σ H s) (e : H a = some (.ins C dx fs)) (c : Cls X.K C) (n : NoAttr X.K C f) (hl : fs.length < 1000) (ry : RelV y u)
    (h : ∀ s', Inv X pins σ (upd H a (.ins C dx (putF f y fs))) s' → Q () s') : wpAny (model X.prog X.w) A (setAttr (.ref a) f u) Q E s := by
  obtain ⟨mA, O, r, wi, _, ho⟩ := ins_get I.hok e
  have hz : (fs.map (·.1)).length ≤ sizeLine := by rw [List.length_map, sizeLine_eq]; omega
  refine set_map I.kIn O c.sa c.po n.taker c.hd wi hz fun h' O' sb => h _ ?_
  have hd : ∃ o, h'.get? dx = some o := let ⟨o, _, _, e', _⟩ := O'.ns; ⟨o, e'⟩
  refine I.write (x := a) (e := dx) (by rw [e]; exact True.intro) (.inr ho) (fun b q hb z => (sb.2 b hb).trans z) hd ?_
  refine ⟨by rw [upd_ne O.ne]; exact ho, ?_, O.ne, O'.obj, _, O'.ns, fun g => ?_, fun g hg => ?_⟩
  · have := length_putF f y fs; omega
  · show RelO ((putF f y fs).lookup g) (if g = f then some u else mA g)
    rw [lookup_putF]
    by_cases q : g = f
    · rw [if_pos q, if_pos q]; exact ry
    · rw [if_neg q, if_neg q]; exact r g
  · by_cases q : g = f
    · rw [q]; exact (keys_putF f y fs).1
    · refine (keys_putF f y fs).2 g (wi g fun z => hg ?_)
      show (if g = f then some u else mA g) = none
      rw [if_neg q]; exact z
theorem Inv.made (I : Inv X pins σ H s) : Inv X pins σ (upd (upd H s.heap.objs.size (.own (s.heap.objs.size + 1))) (s.heap.objs.size + 1) (.ins C s.heap.objs.size []))
    { s with heap := (s.heap.push PySem.W.emptyDict).push (PySem.W.instObj C s.heap.objs.size) } := by
  have e1 : (s.heap.push PySem.W.emptyDict).get? s.heap.objs.size = some PySem.W.emptyDict := Heap.get?_push_size s.heap rfl
  have e2 : ((s.heap.push PySem.W.emptyDict).push (PySem.W.instObj C s.heap.objs.size)).get? (s.heap.objs.size + 1) = some (PySem.W.instObj C s.heap.objs.size) := by
    have := Heap.get?_push_size (s.heap.push PySem.W.emptyDict) (o := PySem.W.instObj C s.heap.objs.size) rfl
    rwa [Heap.size_push] at this
  have e3 : (s.heap.push PySem.W.emptyDict).Ns s.heap.objs.size (fun _ => none) := ⟨PySem.W.emptyDict, #[], _, e1, rfl, (fun e he => absurd he (by simp)), fun _ => rfl⟩
  have I1 := I.laid (a := s.heap.objs.size) (o := .own (s.heap.objs.size + 1)) (h' := s.heap.push PySem.W.emptyDict) (t' := s.toks) (fun b u q => Heap.get?_push_of_some _ q) (Nat.le_refl _) ⟨_, e1⟩
  refine I1.laid (a := s.heap.objs.size + 1) (o := .ins C s.heap.objs.size []) (t' := s.toks) (fun b u q => Heap.get?_push_of_some _ q) (Nat.le_of_eq (Heap.size_push _ _)) ?_
  have ne : s.heap.objs.size ≠ s.heap.objs.size + 1 := Nat.ne_of_lt (Nat.lt_succ_self _)
  refine ⟨by rw [upd_ne ne, upd_same], Nat.zero_le _, ne, e2, fun _ => none, (Heap.Ns1.of_empty e3).at fun o q => Heap.get?_push_of_some _ q, fun _ => True.intro, fun y hy => absurd rfl hy⟩
theorem attr_of {prog : Program} {w : World} {env : Env} {e : Expr} {f : Str} {pos : Pos} {s : Shared} {Q : Value → Shared → Prop} (hb : attributeBase e f env (eval e env) = eval e env)
    (h : wpAny (model prog w) A (eval e env) (fun o s₁ => wpAny (model prog w) A (getAttr o f true) Q E s₁) E s) : wpAny (model prog w) A (eval (.Attribute e f pos) env) Q E s :=
  Attribute_any_ h (by rw [arm_eval_Attribute, hb])
end
def tFld (K : PySem.W.Frag) (ta : TE) (f : Str) : TE := fun σ H Q => ta σ H fun x H1 => ∃ a C dx fs v, x = .ref a ∧ H1 a = some (.ins C dx fs) ∧ Cls K C ∧ NoAttr K C f ∧ fs.lookup f = some v ∧ Q v H1
def sFld (K : PySem.W.Frag) (ta tv : TE) (f : Str) : TS := fun D σ H => tv σ H fun y H1 => ta σ H1 fun x H2 => ∃ a C dx fs, x = .ref a ∧ H2 a = some (.ins C dx fs) ∧ Cls K C ∧ NoAttr K C f ∧ fs.length < 1000 ∧
  D.nx σ (upd H2 a (.ins C dx (putF f y fs)))
section
variable {X : Cx} {o e value : Expr} {f : Str} {pos pos' tpos : Pos} {ta tv : TE}
theorem pe_fld (he : PE X e ta) (hb : attributeBase e f X.env (eval e X.env) = eval e X.env) : PE X (.Attribute e f pos) (tFld X.K ta f) := by
  intro pins s σ H Q I h
  refine attr_of hb (thn (he pins s σ H _ I h) fun u s1 ⟨x, H1, I1, rx, a, C, dx, fs, v, ex, ea, c, n, l, q⟩ => ?_)
  subst ex
  obtain rfl : u = Value.ref a := rx
  exact getattr_ok I1 ea c n l fun u' s2 I2 ru => ⟨v, H1, I2, ru, q⟩
theorem ps_fld (ha : PE X o ta) (hv : PE X value tv) (hs : swapsWith value (some (.Attribute o f pos')) pos.line X.env = pure false) : PS X (.Assign [.Attribute o f pos'] value pos) (sFld X.K ta tv f) := by
  intro pins s σ H D I h
  refine plainObj_wpAny_Assign_Attribute (thn (hv pins s σ H _ I h) fun u s1 ⟨y, H1, I1, ry, q⟩ => thn (ha pins s1 σ H1 _ I1 q) fun ov s2 ⟨x, H2, I2, rx, a, C, dx, fs, ex, ea, c, n, l, q2⟩ => ?_) hs
  subst ex
  obtain rfl : ov = Value.ref a := rx
  exact setattr_ok I2 ea c n l ry fun s3 I3 => ⟨σ, _, I3, q2⟩
end
section
variable {X : Cx} {pins : List (Addr × Obj)} {σ : St} {H : Hp} {s : Shared} {A : Around} {E : Value → Shared → Prop} {Q : Value → Shared → Prop} {c : Value} {b : Bool}
end
end L2
namespace L2
open PySem PySem.Spec PyProof.Rows
structure Room (k : Nat) (A : Around) : Prop where
  hd : A.handled = none
  dp : A.depth + 3 * k + 5 < recursionLimit
  un : A.units + 16 * k + 200 < cLine
theorem Room.mono {j k : Nat} {A : Around} (r : Room k A) (h : j ≤ k) : Room j A := ⟨r.hd, by have := r.dp; omega, by have := r.un; omega⟩
theorem Room.deeper {k : Nat} {A : Around} (r : Room (k + 1) A) (env : Env) : Room k (A.deeper env) :=
  ⟨r.hd, by have := r.dp; show A.depth + 1 + 3 * k + 5 < _; omega, by have := r.un; show A.units + 3 + 16 * k + 200 < _; omega⟩
theorem make_depth {A : Around} {C : Addr} {us : List Value} {kw : List (Str × Value)} : (A.under (.builtin "type.__call__" ⟨.ref C :: us, kw⟩)).depth = A.depth + 1 := by
  first | rfl | simp [Around.under, Code.weight, Code.isCreation, Code.isGuard, Code.isCaller, Code.frames, Code.isFrame, guardIds]
theorem make_units {A : Around} {C : Addr} {us : List Value} {kw : List (Str × Value)} : (A.under (.builtin "type.__call__" ⟨.ref C :: us, kw⟩)).units = A.units + 1 := by
  first | rfl | simp [Around.under, Code.cUnits, Code.frames, Code.isFrame]
theorem Room.make {k : Nat} {A : Around} (r : Room (k + 1) A) (C : Addr) (us : List Value) (kw : List (Str × Value)) : Room k (A.under (.builtin "type.__call__" ⟨.ref C :: us, kw⟩)) :=
  ⟨r.hd, by have := r.dp; rw [make_depth]; omega, by have := r.un; rw [make_units]; omega⟩
theorem Room.depth {k : Nat} {A : Around} (r : Room k A) : A.depth < recursionLimit := by have := r.dp; omega
theorem Room.units {k : Nat} {A : Around} (r : Room k A) : A.units + 64 < cLine := by have := r.un; omega
def tNil : TA := fun _ H Q => Q [] H
def tCons (ta : TE) (tr : TA) : TA := fun σ H Q => ta σ H fun x H1 => tr σ H1 fun xs H2 => Q (x :: xs) H2
section
variable {X : Cx} {e : Expr} {es : List Expr} {te : TE} {t : TA} {pos : Pos}
theorem pa_nil : PA X [] tNil := fun _ _ _ _ H Q I h => Calls.spliced_nil ⟨[], H, I, .nil, h⟩
theorem pa_cons (ha : PE X e te) (hr : PA X es t) (hs : starEach (e :: es) X.env = (false, eval e X.env) :: starEach es X.env := by rfl) : PA X (e :: es) (tCons te t) := by
  intro pos pins s σ H Q I h
  rw [hs]
  show wpAny _ _ (spliced ((false, eval e X.env) :: backTo pos (starEach es X.env))) _ _ s
  refine Calls.spliced_cons (thn (ha pins s σ H _ I h) fun u s1 ⟨x, H1, I1, r1, q1⟩ => ?_)
  exact thn (hr pos pins s1 σ H1 _ I1 q1) fun us s2 ⟨xs, H2, I2, r2, q2⟩ => ⟨x :: xs, H2, I2, .cons r1 r2, q2⟩
def tTup (t : TA) : TE := fun σ H Q => t σ H fun xs H1 => xs.length ≤ sizeLine ∧ ∀ p, H1 p = none → Q (.ref p) (upd H1 p (.tup xs))
def tLst (t : TA) : TE := fun σ H Q => t σ H fun xs H1 => xs.length ≤ sizeLine ∧ ∀ p, H1 p = none → Q (.ref p) (upd H1 p (.lst xs))
theorem pe_tup {x1} (h : PA X es t) : PE X (.Tuple es x1 pos) (tTup t) := by
  intro pins s σ H Q I hq
  refine wpAny_Tuple_spliced (thn (h pos pins s σ H _ I hq) fun us s1 ⟨xs, H1, I1, r, z, q⟩ => ⟨by rw [← r.length]; exact z, ?_⟩)
  have hf : H1 s1.heap.objs.size = none := I1.hok.fresh (Nat.le_refl _)
  refine ⟨.ref s1.heap.objs.size, upd H1 s1.heap.objs.size (.tup xs), I1.laid (t' := s1.toks) (fun b u e => Heap.get?_push_of_some _ e) (Nat.le_refl _) ?_, rfl, q _ hf⟩
  exact ⟨z, us, r, ⟨_, Heap.get?_push_size _ rfl, rfl, _, rfl⟩⟩
theorem pe_lst (h : PA X es t) : PE X (.List es pos) (tLst t) := by
  intro pins s σ H Q I hq
  refine wpAny_List_spliced (thn (h pos pins s σ H _ I hq) fun us s1 ⟨xs, H1, I1, r, z, q⟩ => ⟨by rw [← r.length]; exact z, ?_⟩)
  have hf : H1 s1.heap.objs.size = none := I1.hok.fresh (Nat.le_refl _)
  refine ⟨.ref s1.heap.objs.size, upd H1 s1.heap.objs.size (.lst xs), I1.laid (t' := s1.toks) (fun b u e => Heap.get?_push_of_some _ e) (Nat.le_refl _) ?_, rfl, q _ hf⟩
  exact ⟨z, us, 0, r, Heap.get?_push_size _ rfl⟩
end
abbrev Sp := List V → Hp → VK → XK → Prop
abbrev CXT := List Env → Hp → Shared → XK → Value → Shared → Prop
structure Env0 (P : Program) (w : World) (K : PySem.W.Frag) (mg : Str → Option Value) (base : Heap) (A : Around) (outer : List Env) (s : Shared) (H : Hp) : Prop where
  frames : A.frames = some outer
  mod : Mod K mg base
  bs : ∀ b o, base.get? b = some o → s.heap.get? b = some o ∧ H b = none
  bsz : base.objs.size ≤ s.heap.objs.size
  funs : s.heap.FunFrames base outer
  frf : ∀ b ∈ frs outer, H b = none
  hok : HOk P w H s.heap
  bare : AllBare s.gens
def CE (outer : List Env) (P : Program) (w : World) (H : Hp) (s : Shared) (Q : VK) (u : Value) (s' : Shared) : Prop :=
  ∃ v H', s'.os = s.os ∧ AllBare s'.gens ∧ Un (frs outer) [] H H' s.heap s'.heap ∧ HOk P w H' s'.heap ∧ RelV v u ∧ Q v H'
def CR (CX : CXT) (outer : List Env) (P : Program) (w : World) (H : Hp) (s : Shared) (Q : VK) (E : XK) (r : Result) (s' : Shared) : Prop :=
  match r with
  | .ok (.ret u) => CE outer P w H s Q u s'
  | .ok _ => False
  | .error e => CX outer H s E e s'
structure FnOk (P : Program) (w : World) (K : PySem.W.Frag) (mg : Str → Option Value) (base : Heap) (CX : CXT) (k : Nat) (f : Addr) (fd : FuncData) (ps : List Str) (sp : Sp) : Prop where
  len : ∀ vs H Q E, sp vs H Q E → vs.length = ps.length
  run : ∀ (A : Around) (outer : List Env) (s : Shared) (H : Hp) (args : Args) (us : List Value) (vs : List V) (Q : VK) (E : XK), Room k A → Env0 P w K mg base A outer s H → BindsTo s fd args (ps.zip us) → Vals vs us → sp vs H Q E →
    codeAny (model P w) A (.call (.ref f) args) (CR CX outer P w H s Q E) s
theorem Env0.make {P : Program} {w : World} {K : PySem.W.Frag} {mg : Str → Option Value} {base : Heap} {A : Around} {outer : List Env} {s : Shared} {H : Hp} (e : Env0 P w K mg base A outer s H) (C : Addr) (us : List Value) (kw : List (Str × Value)) :
    Env0 P w K mg base (A.under (.builtin "type.__call__" ⟨.ref C :: us, kw⟩)) outer s H := ⟨by first | exact e.frames | (simpa [Around.under, Code.envs, Code.isFrame, pushEnvs] using e.frames), e.mod, e.bs, e.bsz, e.funs, e.frf, e.hok, e.bare⟩
section
variable {X : Cx} {pins : List (Addr × Obj)} {σ : St} {H : Hp} {s s' : Shared}
theorem Inv.env0 (I : Inv X pins σ H s) : Env0 X.prog X.w X.K X.mg X.base X.A X.stack s H :=
  ⟨I.ok.frames, I.ok.mod, I.bs, Nat.le_trans I.ok.bsz I.sz, I.stack, I.stkFree, I.hok, I.bare⟩
theorem Inv.after {Q : VK} {u : Value} (I : Inv X pins σ H s) (h : CE X.stack X.prog X.w H s Q u s') : EP X pins σ Q u s' := by
  obtain ⟨v, H', os, bare, un, hok, r, q⟩ := h
  obtain ⟨hh, g, d, t, os'⟩ := s'
  obtain rfl : os' = s.os := os
  exact ⟨v, H', I.call (h' := hh) (g' := g) (d' := d) (t' := t) (ch := []) un hok bare (fun b z => absurd z (by simp)), r, q⟩
end
def tCall (sp : Sp) (dvs : List V) (E : XK) (t : TA) : TE := fun σ H Q => t σ H fun vs H1 => sp (vs ++ dvs) H1 Q E
def tMake (C : Addr) (sp : Sp) (dvs : List V) (E : XK) (t : TA) : TE := fun σ H Q => t σ H fun vs H1 => ∀ x dx, H1 x = none → H1 dx = none → dx ≠ x →
  sp (.ref x :: (vs ++ dvs)) (upd (upd H1 dx (.own x)) x (.ins C dx [])) (fun v H2 => v = .non ∧ Q (.ref x) H2) E
def Binds (K : PySem.W.Frag) (fd : FuncData) (ps : List Str) (ds : List Value) : Prop :=
  ∀ (s : Shared) (us : List Value), K.In s.heap → (us ++ ds).length = ps.length → BindsTo s fd ⟨us, []⟩ (ps.zip (us ++ ds))
theorem Binds.all {K : PySem.W.Frag} {fd : FuncData} {ps : List Str} (h : ∀ us : List Value, us.length = ps.length → bindArgs fd ⟨us, []⟩ = pure (ps.zip us)) : Binds K fd ps [] := fun s us _ hl => by
  rw [List.append_nil] at hl ⊢
  exact .of_eq (h us hl)
def Passes (CX : CXT) (X : Cx) (E : XK) : Prop := ∀ (pins : List (Addr × Obj)) (σ : St) (H : Hp) (s : Shared) (e : Value) (s' : Shared), Inv X pins σ H s → CX X.stack H s E e s' → X.xe e s'
section
variable {X : Cx} {CX : CXT} {k : Nat} {f C : Addr} {fd : FuncData} {ps : List Str} {sp : Sp} {dvs : List V} {ds : List Value} {E : XK} {x m : Str} {p pos apos : Pos} {e o : Expr} {es : List Expr} {ta : TE} {t : TA}
theorem run_fn {pins : List (Addr × Obj)} {σ : St} {H : Hp} {s : Shared} {Q : VK} {us : List Value} {vs : List V} (F : FnOk X.prog X.w X.K X.mg X.base CX k f fd ps sp) (hr : Room k X.A) (hb : Binds X.K fd ps ds) (hd : Vals dvs ds) (hx : Passes CX X E)
    (I : Inv X pins σ H s) (r : Vals vs us) (h : sp (vs ++ dvs) H Q E) : wpAny (model X.prog X.w) X.A (call (.ref f) us) (EP X pins σ Q) X.xe s := by
  have r2 : Vals (vs ++ dvs) (us ++ ds) := r.append hd
  have hl : (us ++ ds).length = ps.length := by rw [← r2.length]; exact F.len _ _ _ _ h
  refine wpAny_call (codeAny_mono (F.run X.A X.stack s H ⟨us, []⟩ (us ++ ds) (vs ++ dvs) Q E hr I.env0 (hb s us I.kIn hl) r2 h) fun r s' hq => ?_)
  cases r with
  | error e => exact hx pins σ H s e s' I hq
  | ok fl =>
    cases fl with
    | ret u => exact I.after hq
    | next => exact False.elim hq
    | brk => exact False.elim hq
    | cont => exact False.elim hq
theorem pe_call (F : FnOk X.prog X.w X.K X.mg X.base CX k f fd ps sp) (hr : Room k X.A) (hg : Gl X x) (hm : X.mg x = some (.ref f)) (hk : PySem.W.keepIn X.K (.ref f) = true) (hb : Binds X.K fd ps ds) (hd : Vals dvs ds) (hx : Passes CX X E)
    (ha : PA X (e :: es) t) (hdb : (x == ("__debug__" : Str)) = false := by decide) (he : starEach (e :: es) X.env = (false, eval e X.env) :: starEach es X.env := by rfl) (hpl : (backTo pos (starEach es X.env)).any (·.1) = false := by rfl) :
    PE X (.Call (.Name x p) (e :: es) [] pos) (tCall sp dvs E t) := by
  intro pins s σ H Q I h
  refine wpAny_Call_Name_kw (ld_glob I hg hm ?_ hdb)
  refine PySem.W.callWith_K (h₀ := X.base) I.ok.mod.kin hk (thn (ha pos pins s σ H _ I h) fun us s1 ⟨vs, H1, I1, r, q⟩ => ⟨I1.kIn, ?_⟩) he hpl
  exact run_fn F hr hb hd hx I1 r q
structure Mk (K : PySem.W.Frag) (C f : Addr) : Prop where
  makes : PySem.W.makesIn K C = true
  init : PySem.W.findIn K (.ref C) "__init__" = some (some (.ref f))
  fn : PySem.W.isFn K (.ref f) = true
  kp : PySem.W.keepIn K (.ref C) = true
theorem run_make {pins : List (Addr × Obj)} {σ : St} {H : Hp} {s : Shared} {Q : VK} {us : List Value} {vs : List V} (M : Mk X.K C f) (F : FnOk X.prog X.w X.K X.mg X.base CX k f fd ps sp) (hr : Room (k + 1) X.A) (hb : Binds X.K fd ps ds) (hd : Vals dvs ds)
    (hx : Passes CX X E) (I : Inv X pins σ H s) (r : Vals vs us)
    (h : ∀ x dx, H x = none → H dx = none → dx ≠ x → sp (.ref x :: (vs ++ dvs)) (upd (upd H dx (.own x)) x (.ins C dx [])) (fun v H2 => v = .non ∧ Q (.ref x) H2) E) :
    wpAny (model X.prog X.w) X.A (call (.ref C) us) (EP X pins σ Q) X.xe s := by
  have hq := h (s.heap.objs.size + 1) s.heap.objs.size (I.hok.fresh (Nat.le_succ _)) (I.hok.fresh (Nat.le_refl _)) (Nat.ne_of_lt (Nat.lt_succ_self _))
  have I2 := Inv.made (C := C) I
  have r2 : Vals (V.ref (s.heap.objs.size + 1) :: (vs ++ dvs)) (Value.ref (s.heap.objs.size + 1) :: (us ++ ds)) := .cons rfl (r.append hd)
  have hl : (Value.ref (s.heap.objs.size + 1) :: us ++ ds).length = ps.length := by
    have e := r2.length
    rw [F.len _ _ _ _ hq] at e
    exact e.symm
  refine wpAny_call (make_map (f := f) I.kIn M.makes M.init (beq_iff_eq.mp M.fn) (codeAny_mono (F.run _ X.stack _ _ ⟨Value.ref (s.heap.objs.size + 1) :: us, []⟩ (Value.ref (s.heap.objs.size + 1) :: (us ++ ds)) _ _ E (hr.make C us [])
    (I2.env0.make C us []) (hb _ (Value.ref (s.heap.objs.size + 1) :: us) I2.kIn hl) r2 hq) fun r s' hq' => ?_))
  cases r with
  | error e => exact hx pins σ _ _ e s' I2 hq'
  | ok fl =>
    cases fl with
    | ret u =>
      obtain ⟨v, H', I3, rv, ev, q3⟩ := I2.after hq'
      subst ev
      exact ⟨rv, ⟨V.ref (s.heap.objs.size + 1), H', I3, rfl, q3⟩⟩
    | next => exact False.elim hq'
    | brk => exact False.elim hq'
    | cont => exact False.elim hq'
theorem pe_make (M : Mk X.K C f) (F : FnOk X.prog X.w X.K X.mg X.base CX k f fd ps sp) (hr : Room (k + 1) X.A) (hg : Gl X x) (hm : X.mg x = some (.ref C)) (hb : Binds X.K fd ps ds) (hd : Vals dvs ds) (hx : Passes CX X E)
    (ha : PA X (e :: es) t) (hdb : (x == ("__debug__" : Str)) = false := by decide) (he : starEach (e :: es) X.env = (false, eval e X.env) :: starEach es X.env := by rfl) (hpl : (backTo pos (starEach es X.env)).any (·.1) = false := by rfl) :
    PE X (.Call (.Name x p) (e :: es) [] pos) (tMake C sp dvs E t) := by
  intro pins s σ H Q I h
  refine wpAny_Call_Name_kw (ld_glob I hg hm ?_ hdb)
  refine PySem.W.callWith_K (h₀ := X.base) I.ok.mod.kin M.kp (thn (ha pos pins s σ H _ I h) fun us s1 ⟨vs, H1, I1, r, q⟩ => ⟨I1.kIn, ?_⟩) he hpl
  exact run_make M F hr hb hd hx I1 r q
end
section
variable {X : Cx} {CX : CXT} {k : Nat} {f C : Addr} {fd : FuncData} {ps ks : List Str} {sp : Sp} {E : XK} {x m : Str} {p pos apos kpos : Pos} {e o : Expr} {es : List Expr} {kws : List Keyword} {te ta : TE} {t tk : TA} {nm : Option Str}
variable {g : List Value → List Value → List Value} {gV : List V → List V → List V}
end
structure FnScope (N P : List Str) (sc : Scope) : Prop where
  kind : sc.kind = .function
  co : sc.isCoroutine = false
  gen : sc.isGenerator = false
  nd : N.Nodup
  pre : N.take P.length = P
  par : ∀ x ∈ P, sc.names.lookup x = some .local ∨ sc.names.lookup x = some .cell
  nofree : ∀ y ∈ sc.names, y.2 ≠ .free
theorem bindL_out {kindOf : Str → Option NameKind} {x : Str} : ∀ {binds : List (Str × Value)} {m : Str → Option Value}, (∀ v, (x, v) ∉ binds) → bindL kindOf binds m x = m x
  | [], _, _ => rfl
  | (n, v) :: r, m, h => by
    unfold bindL
    rw [bindL_out fun w hw => h w (List.mem_cons_of_mem _ hw)]
    split
    · have : x ≠ n := by rintro rfl; exact h v List.mem_cons_self
      simp [this]
    · rfl
theorem bindC_out {kindOf : Str → Option NameKind} {x : Str} : ∀ {binds : List (Str × Value)} {m : Str → Option Value}, (∀ v, (x, v) ∉ binds) → bindC kindOf binds m x = m x
  | [], _, _ => rfl
  | (n, v) :: r, m, h => by
    unfold bindC
    rw [bindC_out fun w hw => h w (List.mem_cons_of_mem _ hw)]
    split
    · rfl
    · have : x ≠ n := by rintro rfl; exact h v List.mem_cons_self
      simp [this]
theorem bindL_get {kindOf : Str → Option NameKind} {x : Str} {v : Value} : ∀ {P : List Str} {vs : List Value} {i : Nat} {m : Str → Option Value}, P.Nodup → P[i]? = some x → vs[i]? = some v → kindOf x = some .local →
    bindL kindOf (P.zip vs) m x = some v
  | [], _, _, _, _, h, _, _ => by simp at h
  | _ :: _, [], _, _, _, _, h, _ => by simp at h
  | p :: P, w :: vs, 0, m, nd, h1, h2, hk => by
    simp at h1 h2; subst h1; subst h2
    show bindL kindOf ((p, w) :: P.zip vs) m p = _
    unfold bindL
    rw [bindL_out fun v hv => (List.nodup_cons.mp nd).1 (List.of_mem_zip hv).1, if_pos hk]
    simp
  | p :: P, w :: vs, i + 1, m, nd, h1, h2, hk => by
    show bindL kindOf ((p, w) :: P.zip vs) m x = _
    unfold bindL
    exact bindL_get (i := i) (List.nodup_cons.mp nd).2 (by simpa using h1) (by simpa using h2) hk
theorem bindC_get {kindOf : Str → Option NameKind} {x : Str} {v : Value} : ∀ {P : List Str} {vs : List Value} {i : Nat} {m : Str → Option Value}, P.Nodup → P[i]? = some x → vs[i]? = some v → kindOf x ≠ some .local →
    bindC kindOf (P.zip vs) m x = some v
  | [], _, _, _, _, h, _, _ => by simp at h
  | _ :: _, [], _, _, _, _, h, _ => by simp at h
  | p :: P, w :: vs, 0, m, nd, h1, h2, hk => by
    simp at h1 h2; subst h1; subst h2
    show bindC kindOf ((p, w) :: P.zip vs) m p = _
    unfold bindC
    rw [bindC_out fun v hv => (List.nodup_cons.mp nd).1 (List.of_mem_zip hv).1, if_neg hk]
    simp
  | p :: P, w :: vs, i + 1, m, nd, h1, h2, hk => by
    show bindC kindOf ((p, w) :: P.zip vs) m x = _
    unfold bindC
    exact bindC_get (i := i) (List.nodup_cons.mp nd).2 (by simpa using h1) (by simpa using h2) hk
def start (N : List Str) (vs : List V) : St := vs.map some ++ List.replicate (N.length - vs.length) none
def cxOf (CX : CXT) (P : Program) (w : World) (K : PySem.W.Frag) (mg : Str → Option Value) (base : Heap) (N : List Str) (qual : Str) (scope : Scope) (f : Addr) (cd : Value) (A : Around) (outer : List Env) (s : Shared) (H : Hp) (E : XK) : Cx where
  prog := P
  w := w
  K := K
  mg := mg
  base := base
  A := A.deeper (envOfC qual scope s.heap.objs.size f cd)
  N := N
  s_0 := s
  H_0 := H
  env := envOfC qual scope s.heap.objs.size f cd
  outer := outer
  stack := envOfC qual scope s.heap.objs.size f cd :: outer
  ex := []
  calm := true
  fn := fun _ => true
  pn := []
  xe := fun e s' => wpAny (model P w) (A.deeper (envOfC qual scope s.heap.objs.size f cd)) (leaving (envOfC qual scope s.heap.objs.size f cd) e) (fun _ s'' => CX outer H s E e s'') (fun e' s'' => CX outer H s E e' s'') s'
theorem cell_has {sc : Scope} {n : Nat} {x : Str} (h : sc.names.lookup x = some .cell) : ∃ c, (cellsFrom n sc.names []).lookup x = some c := by
  have q := PySem.W.cellsFrom_some sc.names n [] (.inl h)
  exact Option.isSome_iff_exists.mp q
theorem inv_start {CX : CXT} {P : Program} {w : World} {K : PySem.W.Frag} {mg : Str → Option Value} {base : Heap} {N ps : List Str} {qual : Str} {scope : Scope} {f : Addr} {cd : Value} {A : Around} {outer : List Env} {s s1 : Shared} {H : Hp} {E : XK} {us : List Value} {vs : List V}
    (S : FnScope N ps scope) (hd : A.handled = none) (e0 : Env0 P w K mg base A outer s H) (hl : vs.length = ps.length) (r : Vals vs us)
    (x : InCallC s s.heap.objs.size (bindL (envOfC qual scope s.heap.objs.size f cd).kindOf (ps.zip us) fun _ => none) (cellsFrom (s.heap.objs.size + 1) scope.names []) (bindC (envOfC qual scope s.heap.objs.size f cd).kindOf (ps.zip us) fun _ => none) s1) :
    Inv (cxOf CX P w K mg base N qual scope f cd A outer s H E) [] (start N vs) H s1 := by
  have hpl : ps.length ≤ N.length := by have := congrArg List.length S.pre; rw [List.length_take] at this; omega
  obtain ⟨h1, tk, rfl, hk⟩ := x.done
  have noA : ∀ b : Addr, b ∉ (cxOf CX P w K mg base N qual scope f cd A outer s H E).ex := fun b z => absurd (show b ∈ ([] : List Addr) from z) (by simp)
  refine ⟨⟨e0.mod, S.kind, rfl, rfl, Nat.le_refl _, fun y z c h1 h2 => ?_, fun y hy => ?_, fun y c _ h => ?_, fun _ => hd, Around.frames_deeper e0.frames, .inr ⟨rfl, rfl⟩, fun b z => absurd z (noA b), e0.bs, e0.bsz, fun b _ _ => noA b, fun b z => absurd z (noA b), e0.funs, e0.frf⟩,
    rfl, e0.bare, Un.kept hk, ⟨_, x.toInCall.ns, fun i y v h1 h2 h3 => ?_⟩, fun y c h => ⟨_, x.cell y c h⟩, e0.hok.fresh (Nat.le_refl _), fun y c h => ?_, fun p hp => absurd (show p ∈ ([] : List (Addr × Obj)) from hp) (by simp), e0.hok.kept hk, ?_⟩
  · exact name_of_addr x.apart (PySem.mem_of_lookup h1) (PySem.mem_of_lookup h2)
  · have hy : scope.names.lookup y = some .cell ∨ scope.names.lookup y = some .free := hy
    rcases hy with hy | hy
    · exact cell_has hy
    · exact absurd rfl (S.nofree _ (PySem.mem_of_lookup hy))
  · exact Nat.le_of_lt (x.above y c (PySem.mem_of_lookup h))
  · have hi : i < vs.length := by
      unfold start at h2
      by_cases hi : i < vs.length
      · exact hi
      · rw [List.getElem?_append_right (by simpa using hi)] at h2
        rw [List.getElem?_replicate] at h2
        split at h2 <;> cases h2
    have ha : vs[i]? = some v := by
      unfold start at h2
      rw [List.getElem?_append_left (by simpa using hi), List.getElem?_map] at h2
      cases e : vs[i]? with
      | none => rw [e] at h2; cases h2
      | some a => rw [e] at h2; cases h2; rfl
    obtain ⟨u, hu, rv⟩ := r.get ha
    have hp : ps[i]? = some y := by
      rw [← S.pre, List.getElem?_take_of_lt (by omega)]; exact h1
    have ndP : ps.Nodup := by rw [← S.pre]; exact S.nd.sublist (List.take_sublist _ _)
    refine ⟨u, rv, ?_⟩
    rcases S.par y (List.mem_of_getElem? hp) with k | k
    · exact .inl ⟨k, bindL_get ndP hp hu k⟩
    · obtain ⟨c, e⟩ := cell_has (n := s.heap.objs.size + 1) k
      refine .inr ⟨.inl k, c, e, ?_⟩
      have q := x.cell y c e
      rw [bindC_get ndP hp hu (by show scope.names.lookup y ≠ _; rw [k]; decide)] at q
      exact q
  · exact e0.hok.fresh (Nat.le_of_lt (x.above y c (PySem.mem_of_lookup h)))
  · unfold start
    show _ = N.length
    rw [List.length_append, List.length_map, List.length_replicate]
    omega
theorem fn_of {CX : CXT} {P : Program} {w : World} {K : PySem.W.Frag} {mg : Str → Option Value} {base : Heap} {k : Nat} {f : Addr} {name qual : Str} {params : Arguments} {body : List Stmt} {scope : Scope} {dV kV doc pm cdv ct oc : Value} {an od : Option Addr}
    {osl : Array (Option Value)} {N ps : List Str} {sp : Sp} (lk : K.lookup f = some ⟨oc, od, .func (PySem.W.fnOf name qual params body scope dV kV doc pm an cdv ct), osl⟩) (hcd : PySem.W.codeIn K cdv qual = true) (S : FnScope N ps scope)
    (len : ∀ vs H Q E, sp vs H Q E → vs.length = ps.length)
    (hbody : ∀ (A : Around) (outer : List Env) (s : Shared) (H : Hp) (vs : List V) (Q : VK) (E : XK), Room k (A.deeper (envOfC qual scope s.heap.objs.size f cdv)) → sp vs H Q E →
      ∃ t, PSs (cxOf CX P w K mg base N qual scope f cdv A outer s H E) body t ∧ t { nx := fun _ H' => Q .non H', rt := Q } (start N vs) H) :
    FnOk P w K mg base CX (k + 1) f (PySem.W.fnOf name qual params body scope dV kV doc pm an cdv ct) ps sp := by
  refine ⟨len, fun A outer s H args us vs Q E hr e0 hb r hsp => ?_⟩
  have hl := len _ _ _ _ hsp
  have KX : K.In s.heap := e0.mod.kin.keeps fun b o e => (e0.bs b o e).1
  have lim : s.heap.NoLimit := e0.mod.nolimit.keeps fun b o e => (e0.bs b o e).1
  have hkind : ∀ y ∈ ps.zip us, scope.names.lookup y.1 = some .local ∨ (scope.names.lookup y.1 = some .cell ∧ ((cellsFrom (s.heap.objs.size + 1) scope.names []).lookup y.1).isSome = true) := fun ⟨n, v⟩ hy => by
    rcases S.par n (List.of_mem_zip hy).1 with q | q
    · exact .inl q
    · exact .inr ⟨q, PySem.W.cellsFrom_some _ _ _ (.inl q)⟩
  refine codeAny_call_function hr.depth (KX _ _ lk) rfl S.co S.gen rfl (PySem.W.codeRec_of KX hcd) (hb _ _ _ _ ?_)
  refine wpAny_newFunctionEnv_cells S.kind hkind fun env he s1 x => ?_
  subst he
  refine ⟨lim.keeps x.toInCall.keep, codeAny_func ?_⟩
  obtain ⟨t, ht, hq⟩ := hbody A outer s H vs Q E (hr.deeper _) hsp
  have I : Inv (cxOf CX P w K mg base N qual scope f cdv A outer s H E) [] (start N vs) H s1 := inv_start S hr.hd e0 hl r x
  refine wpAny_mono (ht [] s1 (start N vs) H _ I hq) (fun fl s' hs => ?_) fun e s' hs => hs
  have fin : ∀ {σ' : St} {H' : Hp} {v : V} {u : Value}, Inv (cxOf CX P w K mg base N qual scope f cdv A outer s H E) [] σ' H' s' → RelV v u → Q v H' → CE outer P w H s Q u s' :=
    fun {σ' H' v u} J rv q => ⟨v, H', J.os, J.bare, J.base, J.hok, rv, q⟩
  cases fl with
  | ret u =>
    obtain ⟨v, σ', H', J, rv, q⟩ := hs
    exact fin J rv q
  | next =>
    obtain ⟨σ', H', J, q⟩ := hs
    exact fin (v := V.non) (u := Value.none) J rfl q
  | brk =>
    obtain ⟨_, _, _, q⟩ := hs
    exact False.elim q
  | cont =>
    obtain ⟨_, _, _, q⟩ := hs
    exact False.elim q
end L2
namespace L2
open PySem PySem.Spec PyProof.Rows
section
variable {X : Cx} {x : Str} {p pos : Pos} {e : Expr} {es : List Expr} {t : TA} {id T : String} {r : List V → Hp → VK → Prop}
def tCB (r : List V → Hp → VK → Prop) (t : TA) : TE := fun σ H Q => t σ H fun vs H1 => r vs H1 Q
theorem pe_callB (hc : CallR X (.builtin id) r) (hg : Gl X x) (hm : X.mg x = none) (hv : bootBuiltins x = some (.builtin id)) (ha : PA X (e :: es) t) (hn : x ≠ "__name__" := by decide) (hdb : (x == ("__debug__" : Str)) = false := by decide)
    (he : starEach (e :: es) X.env = (false, eval e X.env) :: starEach es X.env := by rfl) (hpl : (backTo pos (starEach es X.env)).any (·.1) = false := by rfl) : PE X (.Call (.Name x p) (e :: es) [] pos) (tCB r t) := by
  intro pins s σ H Q I h
  refine wpAny_Call_Name_kw (ld_blt I hg hm hv ?_ hn hdb)
  exact PyProof.Rows.callWith_builtin1 (thn (ha pos pins s σ H _ I h) fun us s1 ⟨vs, H1, I1, r1, q1⟩ => hc pins s1 σ H1 vs us Q I1 r1 q1) he hpl
theorem pe_callTy (hc : CallR X (.type T) r) (hg : Gl X x) (hm : X.mg x = none) (hv : bootBuiltins x = some (.type T)) (ha : PA X (e :: es) t) (hn : x ≠ "__name__" := by decide) (hdb : (x == ("__debug__" : Str)) = false := by decide)
    (he : starEach (e :: es) X.env = (false, eval e X.env) :: starEach es X.env := by rfl) (hpl : (backTo pos (starEach es X.env)).any (·.1) = false := by rfl) : PE X (.Call (.Name x p) (e :: es) [] pos) (tCB r t) := by
  intro pins s σ H Q I h
  refine wpAny_Call_Name_kw (ld_blt I hg hm hv ?_ hn hdb)
  exact PyProof.Rows.callWith_type1 (thn (ha pos pins s σ H _ I h) fun us s1 ⟨vs, H1, I1, r1, q1⟩ => hc pins s1 σ H1 vs us Q I1 r1 q1) he hpl
end
end L2
namespace HT
open PySem PyProof.Rows
def lexLt : List Int → List Int → Bool
  | [], [] => false
  | [], _ :: _ => true
  | _ :: _, [] => false
  | x :: xs, y :: ys => if x = y then lexLt xs ys else decide (x < y)
theorem lexLt_cons (x y : Int) (xs ys : List Int) : lexLt (x :: xs) (y :: ys) = if x = y then lexLt xs ys else decide (x < y) := rfl
theorem lexLt_nil_nil : lexLt [] [] = false := rfl
theorem lexLt_nil_cons (y : Int) (ys : List Int) : lexLt [] (y :: ys) = true := rfl
theorem lexLt_cons_nil (x : Int) (xs : List Int) : lexLt (x :: xs) [] = false := rfl
theorem eqAt_int (A : Around) (s : Shared) (a : Int) (t : Tok) (c : Int) (u : Tok) : ∃ e, SeqAt.EqAt A s (.int a t) (.int c u) e ∧ (e = true ↔ a = c) :=
  ⟨(a == c), SeqAt.EqAt.int_int a t c u, by simp⟩
theorem rcLt_int (A : Around) (s : Shared) (a : Int) (t : Tok) (c : Int) (u : Tok) (prog : Program) (w : World) (E : Value → Shared → Prop) (Q : Value → Shared → Prop) (h : Q (.bool (decide (a < c))) s) :
    wpAny (model prog w) A (richCompare .Lt (.int a t) (.int c u)) Q E s :=
  (PyProof.Rows.lt_int h : wpAny (model prog w) A (compareOp .Lt (.int a t) (.int c u)) Q E s)
section
open PySem.SeqAt
open PySem.AutoSeq1 (wpAny_loadPart')
open PySem.MeetsSeq PySem.MeetsSeq2 PySem.MeetsSeq3
theorem tuple_lt_ints (l b : Addr) (items items2 : Array Value) (n n2 : Nat) (dd dd2 : Option Addr) (sl sl2 : Array (Option Value)) (ns ms : List Int) (hi : IntsAre items.toList ns) (hj : IntsAre items2.toList ms) :
    Meets (Builtin.«tuple.__lt__» ⟨[.ref l, .ref b], []⟩)
      (fun _ R s => s.heap.get? l = some { cls := .type "tuple", dict := dd, data := .seq items n, slots := sl } ∧ s.heap.get? b = some { cls := .type "tuple", dict := dd2, data := .seq items2 n2, slots := sl2 } ∧
        R (.ok (.ret (.bool (lexLt ns ms)))) s) :=
  .of_wp fun prog w A R s h => by
    obtain ⟨hp, g, d, tk, os⟩ := s; obtain ⟨hl, hb, h⟩ := h
    have f2 := AutoSeq1.sub_tuple_tuple
    have z1 : items.size = ns.length := by rw [← hi.length]; simp
    have z2 : items2.size = ms.length := by rw [← hj.length]; simp
    wp_walk using wpAny_loadPart' hl, wpAny_loadPart' hb, wpAny_forIn_list _ (fun rest b s' => b.1 = none ∧ s' = ⟨hp, g, d, tk, os⟩ ∧ ∃ (vs ws : List Value) (ns' ms' : List Int), rest = vs.zip ws ∧
      IntsAre vs ns' ∧ IntsAre ws ms' ∧ ns'.length + items2.size = ms'.length + items.size ∧ R (.ok (.ret (.bool (lexLt ns' ms')))) ⟨hp, g, d, tk, os⟩) _
    case turn =>
      rintro ⟨y, x⟩ rest b s' ⟨hb', rfl, vs, ws, ns', ms', hz, hvi, hwi, hlen, hR⟩
      cases hvi with
      | nil => rw [List.zip_nil_left] at hz; cases hz
      | cons a t hvi' =>
        cases hwi with
        | nil => rw [List.zip_nil_right] at hz; cases hz
        | cons c u hwi' =>
          rw [List.zip_cons_cons] at hz
          injection hz with hyx hrest
          injection hyx with hy hx
          subst hy hx
          rw [lexLt_cons] at hR
          simp only [List.length_cons] at hlen
          obtain ⟨e, he, hiff⟩ := eqAt_int A.in1 ⟨hp, g, d, tk, os⟩ a t c u
          refine wpAny_bind (he prog w _ _ ?_)
          cases e with
          | true =>
            rw [if_pos (hiff.mp rfl)] at hR
            wp_walk
            exact ⟨rfl, rfl, _, _, _, _, hrest, hvi', hwi', by omega, hR⟩
          | false =>
            rw [if_neg (fun q => absurd (hiff.mpr q) Bool.false_ne_true)] at hR
            have hri := rcLt_int A.in1 ⟨hp, g, d, tk, os⟩ a t c u prog w
            wp_walk using hri
            exact ⟨_, rfl, by simpa using hR⟩
    case fin =>
      rintro ⟨b1, b2⟩ s' ⟨hb', rfl, vs, ws, ns', ms', hz, hvi, hwi, hlen, hR⟩
      simp only at hb'
      subst hb'
      have hv : lexLt ns' ms' = decide (items.size < items2.size) := by
        cases hvi with
        | nil =>
          cases hwi with
          | nil =>
            simp only [List.length_nil] at hlen
            rw [lexLt_nil_nil]
            exact (decide_eq_false (by omega)).symm
          | cons c u hw =>
            simp only [List.length_nil, List.length_cons] at hlen
            rw [lexLt_nil_cons]
            exact (decide_eq_true (by omega)).symm
        | cons a t hv =>
          cases hwi with
          | nil =>
            simp only [List.length_nil, List.length_cons] at hlen
            rw [lexLt_cons_nil]
            exact (decide_eq_false (by omega)).symm
          | cons c u hw =>
            rw [List.zip_cons_cons] at hz
            cases hz
      rw [hv] at hR
      wp_walk
      exact ⟨_, rfl, by simpa [Builtin.Tuple.tupleCompareSizes] using hR⟩
    case h =>
      exact ⟨rfl, rfl, items.toList, items2.toList, ns, ms, rfl, hi, hj, by omega, h⟩
end
section
variable {prog : Program} {w : World} {A : Around} {E : Value → Shared → Prop} {s : Shared}
theorem lt_tupInts {l b : Addr} {items items2 : Array Value} {ns ms : List Int} {Q : Value → Shared → Prop} (hl : IsTup s.heap l items) (hb : IsTup s.heap b items2) (hi : IntsAre items.toList ns) (hj : IntsAre items2.toList ms)
    (hu : A.units < cLine) (h : Q (.bool (lexLt ns ms)) s) : wpAny (model prog w) A (compareOp .Lt (.ref l) (.ref b)) Q E s := by
  obtain ⟨⟨cls, dd, data, sl⟩, ho, hc, n, hd⟩ := id hl
  obtain ⟨⟨cls2, dd2, data2, sl2⟩, ho2, hc2, n2, hd2⟩ := id hb
  simp only at hc hd hc2 hd2
  subst hc hd hc2 hd2
  exact richCompare_meets_room (op := .Lt) ⟨_, ho, rfl⟩ ⟨_, ho2, rfl⟩ PySem.F.slot_tuple_lt PySem.F.entry_tuple_lt (PySem.F.args_tuple_lt_2 _ _) (tuple_lt_ints l b items items2 n n2 dd dd2 sl sl2 ns ms hi hj)
    ⟨ho, ho2, show Value.bool (lexLt ns ms) ≠ Value.notImplemented ∧ Q (.bool (lexLt ns ms)) s from ⟨(fun x => nomatch x), h⟩⟩ hu
def sIx (n d : Nat) : Option Int → Nat
  | none => d
  | some v => if v < 0 then (v + (n : Int)).toNat else min v.toNat n
theorem sIx_none (n d : Nat) : sIx n d none = d := rfl
theorem sIx_nat (n d k : Nat) : sIx n d (some (k : Int)) = min k n := by
  show (if (k : Int) < 0 then ((k : Int) + (n : Int)).toNat else min (k : Int).toNat n) = min k n
  rw [if_neg (by omega), Int.toNat_natCast]
end
end HT
namespace L2
open PySem PySem.Spec PyProof.Rows
abbrev TO := St → Hp → (Option Int → Hp → Prop) → Prop
def PO (X : Cx) (e : Option Expr) (t : TO) : Prop :=
  ∀ (pins : List (Addr × Obj)) (s : Shared) (σ : St) (H : Hp) (Q : Option Int → Hp → Prop), Inv X pins σ H s → t σ H Q →
    wpAny (model X.prog X.w) X.A (evalPart e X.env) (fun u s' => ∃ o H', Inv X pins σ H' s' ∧ IsPart u o ∧ Q o H') X.xe s
def tNoPart : TO := fun _ H Q => Q none H
def tPart (t : TE) : TO := fun σ H Q => t σ H fun x H1 => ∃ i, x = .int i ∧ Q (some i) H1
section
variable {X : Cx} {e : Expr} {te : TE} {lo hi : Option Expr} {tl th : TO} {pos p2 : Pos}
theorem po_none : PO X none tNoPart := by
  intro pins s σ H Q I h
  rw [evalPart_none]
  exact wpAny_pure ⟨none, H, I, .none, h⟩
theorem po_some (h : PE X e te) : PO X (some e) (tPart te) := by
  intro pins s σ H Q I hw
  rw [evalPart_some]
  refine thn (h pins s σ H _ I hw) fun u s1 ⟨x, H1, I1, r1, q1⟩ => ?_
  obtain ⟨i, rfl, q⟩ := q1
  obtain ⟨t, rfl⟩ := r1
  exact ⟨some i, H1, I1, .int i t, q⟩
def SlR (X : Cx) (r : V → Option Int → Option Int → Hp → VK → Prop) : Prop :=
  ∀ (pins : List (Addr × Obj)) (s : Shared) (σ : St) (H : Hp) (x : V) (v vl vu : Value) (lo hi : Option Int) (sl : Addr) (Q : VK), Inv X pins σ H s → RelV x v → s.heap.IsSliceOf sl vl vu .none → IsPart vl lo → IsPart vu hi → r x lo hi H Q →
    ∃ T id, typeLookup (.type T) "__getitem__" = pure (some (.builtin id)) ∧ s.TypeIs v T ∧ wpAny (model X.prog X.w) X.A (getItem v (.ref sl)) (EP X pins σ Q) X.xe s
def tSl (r : V → Option Int → Option Int → Hp → VK → Prop) (te : TE) (tl th : TO) : TE := fun σ H Q => te σ H fun x H1 => tl σ H1 fun l H2 => th σ H2 fun u H3 => r x l u H3 Q
theorem pe_slice {r : V → Option Int → Option Int → Hp → VK → Prop} (hr : SlR X r) (he : PE X e te) (hl : PO X lo tl) (hu : PO X hi th) : PE X (.Subscript e (.Slice lo hi none p2) pos) (tSl r te tl th) := by
  intro pins s σ H Q I h
  refine Subscript_ (thn (he pins s σ H _ I h) fun v s1 ⟨x, H1, I1, r1, q1⟩ => ?_)
  refine wpAny_Slice (thn (hl pins s1 σ H1 _ I1 q1) fun vl s2 ⟨l, H2, I2, pl, q2⟩ => thn (hu pins s2 σ H2 _ I2 q2) fun vu s3 ⟨u, H3, I3, pu, q3⟩ => ?_)
  rw [evalPart_none]
  refine wpAny_pure ?_
  have I4 : Inv X pins σ H3 { s3 with heap := s3.heap.push { cls := .type "slice", data := .fields #[vl, vu, .none] } } := I3.kept (t' := s3.toks) fun b ob q => Heap.get?_push_of_some _ q
  obtain ⟨T, id, hT, ht, hg⟩ := hr pins { s3 with heap := s3.heap.push { cls := .type "slice", data := .fields #[vl, vu, .none] } } σ H3 x v vl vu l u s3.heap.objs.size Q I4 r1 (Heap.IsSliceOf.new ..) pl pu q3
  show wpAny (model X.prog X.w) X.A (subscriptTail e (.Slice lo hi none p2) v (.ref s3.heap.objs.size)) (EP X pins σ Q) X.xe { s3 with heap := s3.heap.push { cls := .type "slice", data := .fields #[vl, vu, .none] } }
  exact tail_any (ops := [.ref s3.heap.objs.size, v]) ht hT hg (by with_unfolding_all rfl)
def cutV (xs : List V) (lo hi : Option Int) : List V := (xs.drop (HT.sIx xs.length 0 lo)).take (HT.sIx xs.length xs.length hi - HT.sIx xs.length 0 lo)
theorem cutV_length (xs : List V) (lo hi : Option Int) : (cutV xs lo hi).length ≤ xs.length := by
  unfold cutV
  rw [List.length_take, List.length_drop]
  omega
end
end L2
namespace L2
open PySem PySem.Spec PyProof.Rows
def ixN (n : Nat) (i : Int) : Option Nat := if 0 ≤ i then (if i < n then some i.toNat else none) else if -(n : Int) ≤ i then some (i + n).toNat else none
def atI {α : Type} (xs : List α) (i : Int) : Option α := (ixN xs.length i).bind fun j => xs[j]?
theorem ixN_seq {n : Nat} {i : Int} {j : Nat} (h : ixN n i = some j) : seqIndex? i n = some j ∧ j < n ∧ -(n : Int) ≤ i ∧ i < n := by
  unfold ixN at h
  by_cases h0 : 0 ≤ i
  · rw [if_pos h0] at h
    by_cases h1 : i < n
    · rw [if_pos h1] at h
      have e : i.toNat = j := Option.some.inj h
      exact ⟨by rw [seqIndex_of h0 h1, e], by omega, by omega, h1⟩
    · rw [if_neg h1] at h; cases h
  · rw [if_neg h0] at h
    by_cases h1 : -(n : Int) ≤ i
    · rw [if_pos h1] at h
      have e : (i + n).toNat = j := Option.some.inj h
      exact ⟨by rw [seqIndex_neg (by omega) h1, e], by omega, h1, by omega⟩
    · rw [if_neg h1] at h; cases h
theorem atI_get {α : Type} {xs : List α} {i : Int} {v : α} (h : atI xs i = some v) : ∃ j, seqIndex? i xs.length = some j ∧ xs[j]? = some v ∧ j < xs.length ∧ -(xs.length : Int) ≤ i ∧ i < xs.length := by
  unfold atI at h
  cases e : ixN xs.length i with
  | none => rw [e] at h; cases h
  | some j =>
    rw [e] at h
    obtain ⟨h1, h2, h3, h4⟩ := ixN_seq e
    exact ⟨j, h1, h, h2, h3, h4⟩
theorem atI_nat {α : Type} {xs : List α} {j : Nat} {v : α} (h : xs[j]? = some v) : atI xs (j : Int) = some v := by
  have hj : j < xs.length := (List.getElem?_eq_some_iff.mp h).1
  have e : ixN xs.length (j : Int) = some j := by
    unfold ixN
    rw [if_pos (by omega), if_pos (by omega)]; simp
  unfold atI; rw [e]; exact h
theorem atI_last {α : Type} (xs : List α) (v : α) : atI (xs ++ [v]) (-1) = some v := by
  have hl : (xs ++ [v]).length = xs.length + 1 := by simp
  have e : ixN (xs ++ [v]).length (-1) = some xs.length := by
    unfold ixN
    rw [hl, if_neg (by decide), if_pos (by omega)]
    congr 1
    omega
  unfold atI
  rw [e]
  show (xs ++ [v])[xs.length]? = some v
  simp
def PlainIx (b : Expr) : Prop := ∀ o i, subscripted b false o i = operate [o, i] (getItem o i)
def IxR (X : Cx) (r : R2) : Prop :=
  ∀ (value slice : Expr) (pins : List (Addr × Obj)) (s : Shared) (σ : St) (H : Hp) (x y : V) (v u : Value) (Q : VK), Inv X pins σ H s → RelV x v → RelV y u → r x y H Q →
    subscripted slice false v u = operate [v, u] (getItem v u) → wpAny (model X.prog X.w) X.A (subscriptTail value slice v u) (EP X pins σ Q) X.xe s
def MtR (X : Cx) (id : String) (r : V → List V → Hp → VK → Prop) : Prop :=
  ∀ (pins : List (Addr × Obj)) (s : Shared) (σ : St) (H : Hp) (x : V) (xs : List V) (v : Value) (us : List Value) (Q : VK), Inv X pins σ H s → RelV x v → Vals xs us → r x xs H Q →
    wpAny (model X.prog X.w) X.A (call (.builtin id) (v :: us)) (EP X pins σ Q) X.xe s
section
variable {X : Cx} {a b : Expr} {ta tb : TE} {pos : Pos}
theorem pe_ix {r : R2} (hr : IxR X r) (ha : PE X a ta) (hb : PE X b tb) (hs : PlainIx b) : PE X (.Subscript a b pos) (tOp r ta tb) := by
  intro pins s σ H Q I h
  exact Subscript_ (binT ha hb I h fun v u s2 x y H2 I2 rx ry q => hr a b pins s2 σ H2 x y v u Q I2 rx ry q (hs _ _))
def rIxL (K : PySem.W.Frag) : R2 := fun x y H Q => ∃ p xs i v, x = .ref p ∧ y = .int i ∧ SqL K H p xs ∧ atI xs i = some v ∧ Q v H
def rIxT (K : PySem.W.Frag) : R2 := fun x y H Q => ∃ p xs i v, x = .ref p ∧ y = .int i ∧ SqT K H p xs ∧ atI xs i = some v ∧ Q v H
theorem ix_list : IxR X (rIxL X.K) := by
  intro value slice pins s σ H x y v u Q I rx ry h hs
  obtain ⟨p, xs, i, z, rfl, rfl, hq, he, q⟩ := h
  cases rx
  obtain ⟨t, rfl⟩ := ry
  obtain ⟨its, r, pl, hz⟩ := I.list hq
  obtain ⟨j, h1, h2, h3, h4, h5⟩ := atI_get he
  obtain ⟨w, ew, rw'⟩ := r.get h2
  have hl := r.length
  have hn := line63
  have fin : EP X pins σ Q w s := ⟨z, H, I, rw', q⟩
  by_cases h0 : 0 ≤ i
  · have hj : i.toNat = j := by
      rw [seqIndex_of h0 h5] at h1
      exact Option.some.inj h1
    exact item_listR pl.isList h0 (by omega) (by rw [hj]; simpa using ew) fin hs
  · have hj : (i + (its.toArray.size : Int)).toNat = j := by
      rw [seqIndex_neg (by omega) h4] at h1
      rw [List.size_toArray, ← hl]
      exact Option.some.inj h1
    exact subscriptTail_builtinR (x := w) pl.isList.typeIs slot_list_getitem.lookup
      (wpAny_getItem_list_neg (Q := fun r s' => r = w ∧ EP X pins σ Q r s') pl.isList (by omega) (by rw [List.size_toArray] <;> omega) (by omega) (by rw [hj]; simpa using ew) ⟨rfl, fin⟩) hs
theorem ix_tup : IxR X (rIxT X.K) := by
  intro value slice pins s σ H x y v u Q I rx ry h hs
  obtain ⟨p, xs, i, z, rfl, rfl, hq, he, q⟩ := h
  cases rx
  obtain ⟨t, rfl⟩ := ry
  obtain ⟨its, r, pl, hz⟩ := I.tuple hq
  obtain ⟨j, h1, h2, h3, h4, h5⟩ := atI_get he
  obtain ⟨w, ew, rw'⟩ := r.get h2
  have hl := r.length
  have hn := line63
  have fin : EP X pins σ Q w s := ⟨z, H, I, rw', q⟩
  exact subscriptTail_builtinR (x := w) pl.typeIs slot_tuple_getitem.lookup
    (getItem_tuple (j := j) (Q := fun r s' => r = w ∧ EP X pins σ Q r s') pl (by omega) (by omega) (by rw [List.size_toArray, ← hl]; exact h1) (by simpa using ew) ⟨rfl, fin⟩) hs
theorem mapSeq_set (its : List Value) (n j : Nat) (u : Value) : Obj.mapSeq (·.setIfInBounds j u) { cls := .type "list", data := .seq its.toArray n } = { cls := .type "list", data := .seq (its.set j u).toArray n } := by
  simp [Obj.mapSeq]
theorem Inv.lst {pins : List (Addr × Obj)} {σ : St} {H : Hp} {s : Shared} {p : Addr} {xs : List V} (I : Inv X pins σ H s) (h : H p = some (.lst xs)) :
    ∃ (its : List Value) (n : Nat), Vals xs its ∧ s.heap.get? p = some { cls := .type "list", data := .seq its.toArray n } ∧ xs.length ≤ sizeLine := by
  obtain ⟨z, its, n, r, e⟩ := I.hok p _ h
  exact ⟨its, n, r, e, z⟩
theorem Inv.lstUpd {pins : List (Addr × Obj)} {σ : St} {H : Hp} {s : Shared} {p : Addr} {xs ys : List V} {its its' : List Value} {n n' : Nat} {f : Obj → Obj} (I : Inv X pins σ H s) (h : H p = some (.lst xs))
    (ho : s.heap.get? p = some { cls := .type "list", data := .seq its.toArray n }) (hf : f { cls := .type "list", data := .seq its.toArray n } = { cls := .type "list", data := .seq its'.toArray n' }) (r : Vals ys its') (hz : ys.length ≤ sizeLine) (t : Nat) :
    Inv X pins σ (upd H p (.lst ys)) { s with heap := s.heap.update p f, toks := t } := by
  have e : (s.heap.update p f).get? p = some { cls := .type "list", data := .seq its'.toArray n' } := by
    rw [Heap.get?_update_self f ho (by rw [hf] <;> rfl), hf]
  refine I.write (x := p) (e := p) (by rw [h]; trivial) (.inl rfl) (fun b u hb q => (Heap.get?_update_other _ _ (Ne.symm hb)).trans q) ⟨_, e⟩ ?_
  exact ⟨hz, its', n', r, e⟩
def rSetL : V → V → V → Hp → (Hp → Prop) → Prop := fun o i v H Q => ∃ p xs k j, o = .ref p ∧ i = .int k ∧ H p = some (.lst xs) ∧ ixN xs.length k = some j ∧ Q (upd H p (.lst (xs.set j v)))
theorem set_list : PSet X rSetL := by
  intro pins s σ H o i v ov iv u Q I ro ri rv h
  obtain ⟨p, xs, k, j, rfl, rfl, hp, hj, q⟩ := h
  cases ro
  obtain ⟨t, rfl⟩ := ri
  obtain ⟨its, n, r, ho, hz⟩ := I.lst hp
  obtain ⟨h1, h2, h3, h4⟩ := ixN_seq hj
  have hl := r.length
  have hn := line63
  have I' : Inv X pins σ (upd H p (.lst (xs.set j v))) { s with heap := s.heap.update p (Obj.mapSeq (·.setIfInBounds j u)) } :=
    I.lstUpd hp ho (mapSeq_set its n j u) (r.set rv j) (by rw [List.length_set]; exact hz) s.toks
  by_cases h0 : 0 ≤ k
  · have hk : k.toNat = j := by
      rw [seqIndex_of h0 h4] at h1
      exact Option.some.inj h1
    exact PySem.W.ki_setAt ho h0 (by omega) (by rw [List.size_toArray, ← hl]; exact h4) (by rw [hk]; exact ⟨_, I', q⟩)
  · have hk : (k + (its.toArray.size : Int)).toNat = j := by
      rw [seqIndex_neg (by omega) h3] at h1
      rw [List.size_toArray, ← hl]
      exact Option.some.inj h1
    exact PySem.W.ki_setBack ho (by omega) (by rw [List.size_toArray, ← hl]; exact h3) (by omega) (by rw [hk]; exact ⟨_, I', q⟩)
theorem slice_bounds (lo hi : Option Int) (n : Nat) : (sliceBounds lo hi none n).1 = ((HT.sIx n 0 lo : Nat) : Int) ∧ (sliceBounds lo hi none n).2.1 = ((HT.sIx n n hi : Nat) : Int) ∧ (sliceBounds lo hi none n).2.2 = 1 := by
  refine ⟨?_, ?_, rfl⟩
  · cases lo with
    | none => simp [sliceBounds, HT.sIx]
    | some i =>
      simp only [sliceBounds, HT.sIx, Option.getD_none, show (1 : Int) > 0 by decide, if_true]
      by_cases h : i < 0
      · simp only [h, if_true] <;> omega
      · simp only [h, if_false] <;> omega
  · cases hi with
    | none => simp [sliceBounds, HT.sIx]
    | some i =>
      simp only [sliceBounds, HT.sIx, Option.getD_none, show (1 : Int) > 0 by decide, if_true]
      by_cases h : i < 0
      · simp only [h, if_true] <;> omega
      · simp only [h, if_false] <;> omega
theorem slicePick_cut (its : List Value) (lo hi : Option Int) : slicePick its.toArray lo hi none = ((its.drop (HT.sIx its.length 0 lo)).take (HT.sIx its.length its.length hi - HT.sIx its.length 0 lo)).toArray := by
  obtain ⟨h1, h2, h3⟩ := slice_bounds lo hi its.toArray.size
  unfold slicePick
  rw [h1, h2, h3]
  simp only [sliceRange_one, pick_run, List.size_toArray] <;> rfl
def rSlL (K : PySem.W.Frag) : V → Option Int → Option Int → Hp → VK → Prop := fun x lo hi H Q => ∃ a xs, x = .ref a ∧ SqL K H a xs ∧ ∀ p, H p = none → Q (.ref p) (upd H p (.lst (cutV xs lo hi)))
theorem sl_list : SlR X (rSlL X.K) := by
  intro pins s σ H x v vl vu lo hi sl Q I rx hs pl pu h
  obtain ⟨a, xs, rfl, hx, q⟩ := h
  cases rx
  obtain ⟨its, r, ht, hz⟩ := I.list hx
  have hlen := r.length
  refine ⟨"list", _, slot_list_getitem.lookup, ht.isList.typeIs, ?_⟩
  refine wpAny_getItem_list_slice ht.isList hs pl pu .none (by simp) ?_ (by rw [List.size_toArray] <;> omega)
  rw [slicePick_cut, ← hlen]
  refine ⟨.ref s.heap.objs.size, _, I.laid (t' := s.toks) (o := .lst (cutV xs lo hi)) (fun b ob q => Heap.get?_push_of_some _ q) (Nat.le_refl _) ?_, rfl, q _ (I.hok.fresh (Nat.le_refl _))⟩
  exact ⟨Nat.le_trans (cutV_length xs lo hi) hz, _, 0, (r.drop (HT.sIx xs.length 0 lo)).take (HT.sIx xs.length xs.length hi - HT.sIx xs.length 0 lo), Heap.get?_push_size _ rfl⟩
def flatV : V → Bool
  | .non => true
  | .bl _ => true
  | .int _ => true
  | .str _ => true
  | _ => false
def eqV : V → V → Bool
  | .non, .non => true
  | .bl a, .bl b => a == b
  | .bl a, .int b => (if a then 1 else 0) == b
  | .int a, .bl b => a == (if b then 1 else 0)
  | .int a, .int b => a == b
  | .str a, .str b => a == b
  | _, _ => false
theorem eqAt_V {A : Around} {s : Shared} {y x : V} {u v : Value} (ry : RelV y u) (rx : RelV x v) (fy : flatV y = true) (fx : flatV x = true) : SeqAt.EqAt A s u v (eqV y x) := by
  cases y with
  | non =>
    cases ry
    cases x with
    | non => cases rx; exact SeqAt.EqAt.same _
    | bl b => cases rx; exact SeqAt.EqAt.none_bool b
    | int b => obtain ⟨t, rfl⟩ := rx; exact SeqAt.EqAt.none_int b t
    | str b => obtain ⟨t, rfl⟩ := rx; exact SeqAt.EqAt.none_str b t
    | _ => exact absurd (show false = true from fx) Bool.false_ne_true
  | bl a =>
    cases ry
    cases x with
    | non => cases rx; exact SeqAt.EqAt.bool_none a
    | bl b => cases rx; exact SeqAt.EqAt.bool_bool a b
    | int b => obtain ⟨t, rfl⟩ := rx; exact SeqAt.EqAt.bool_int a b t
    | str b => obtain ⟨t, rfl⟩ := rx; exact SeqAt.EqAt.bool_str a b t
    | _ => exact absurd (show false = true from fx) Bool.false_ne_true
  | int a =>
    obtain ⟨t', rfl⟩ := ry
    cases x with
    | non => cases rx; exact SeqAt.EqAt.int_none a t'
    | bl b => cases rx; exact SeqAt.EqAt.int_bool a t' b
    | int b => obtain ⟨t, rfl⟩ := rx; exact SeqAt.EqAt.int_int a t' b t
    | str b => obtain ⟨t, rfl⟩ := rx; exact SeqAt.EqAt.int_str a t' b t
    | _ => exact absurd (show false = true from fx) Bool.false_ne_true
  | str a =>
    obtain ⟨t', rfl⟩ := ry
    cases x with
    | non => cases rx; exact SeqAt.EqAt.str_none a t'
    | bl b => cases rx; exact SeqAt.EqAt.str_bool a t' b
    | int b => obtain ⟨t, rfl⟩ := rx; exact SeqAt.EqAt.str_int a t' b t
    | str b => obtain ⟨t, rfl⟩ := rx; exact SeqAt.EqAt.str_str a t' b t
    | _ => exact absurd (show false = true from fx) Bool.false_ne_true
  | _ => exact absurd (show false = true from fy) Bool.false_ne_true
def eqU (x : V) (u : Value) : Bool := match u with
  | .none => eqV .non x
  | .bool b => eqV (.bl b) x
  | .int i _ => eqV (.int i) x
  | .str z _ => eqV (.str z) x
  | _ => false
theorem eqU_of {x y : V} {u : Value} (r : RelV y u) (f : flatV y = true) : eqU x u = eqV y x := by
  cases y with
  | non => cases r; rfl
  | bl b => cases r; rfl
  | int i => obtain ⟨t, rfl⟩ := r; rfl
  | str z => obtain ⟨t, rfl⟩ := r; rfl
  | _ => exact absurd (show false = true from f) Bool.false_ne_true
theorem any_eqU {x : V} : ∀ {xs : List V} {us : List Value}, Vals xs us → xs.all flatV = true → us.any (eqU x) = xs.any fun y => eqV y x
  | _, _, .nil, _ => rfl
  | y :: xs, u :: us, .cons r t, f => by
    rw [List.all_cons, Bool.and_eq_true] at f
    rw [List.any_cons, List.any_cons, eqU_of r f.1, any_eqU t f.2]
theorem mem_eqAt {A : Around} {s : Shared} {x : V} {v : Value} (rx : RelV x v) (fx : flatV x = true) : ∀ {xs : List V} {us : List Value}, Vals xs us → xs.all flatV = true → ∀ u ∈ us, SeqAt.EqAt A s u v (eqU x u)
  | _, _, .nil, _ => fun u hu => by cases hu
  | y :: xs, u :: us, .cons r t, f => fun u' hu => by
    rw [List.all_cons, Bool.and_eq_true] at f
    rcases List.mem_cons.mp hu with rfl | hu
    · rw [eqU_of r f.1]; exact eqAt_V r rx f.1 fx
    · exact mem_eqAt rx fx t f.2 u' hu
def inV (x : V) (xs : List V) : Bool := xs.any fun y => eqV y x
def rIn (K : PySem.W.Frag) (neg : Bool) : R2 := fun x y H Q => ∃ p xs, y = .ref p ∧ (SqL K H p xs ∨ SqT K H p xs) ∧ flatV x = true ∧ xs.all flatV = true ∧ Q (.bl (if neg then !inV x xs else inV x xs)) H
theorem op_in_seq : OpR X (compareOp .In) (rIn X.K false) := by
  intro pins s σ H x y v u Q I rx ry h
  obtain ⟨p, xs, rfl, hq, fx, fs, q⟩ := h
  cases ry
  rcases hq with hq | hq
  · obtain ⟨its, r, pl, hz⟩ := I.list hq
    refine SeqAt.in_listAt (eqU x) pl.isList (fun w hw => mem_eqAt rx fx r fs w (by simpa using hw)) ⟨.bl _, H, I, rfl, ?_⟩
    rw [show its.toArray.any (eqU x) = its.any (eqU x) by simp, any_eqU r fs]
    exact q
  · obtain ⟨its, r, pl, hz⟩ := I.tuple hq
    refine SeqAt.in_tupleAt (eqU x) pl (fun w hw => mem_eqAt rx fx r fs w (by simpa using hw)) ⟨.bl _, H, I, rfl, ?_⟩
    rw [show its.toArray.any (eqU x) = its.any (eqU x) by simp, any_eqU r fs]
    exact q
theorem op_notIn_seq : OpR X (compareOp .NotIn) (rIn X.K true) := by
  intro pins s σ H x y v u Q I rx ry h
  obtain ⟨p, xs, rfl, hq, fx, fs, q⟩ := h
  cases ry
  rcases hq with hq | hq
  · obtain ⟨its, r, pl, hz⟩ := I.list hq
    refine SeqAt.notIn_listAt (eqU x) pl.isList (fun w hw => mem_eqAt rx fx r fs w (by simpa using hw)) ⟨.bl _, H, I, rfl, ?_⟩
    rw [show its.toArray.any (eqU x) = its.any (eqU x) by simp, any_eqU r fs]
    exact q
  · obtain ⟨its, r, pl, hz⟩ := I.tuple hq
    refine SeqAt.notIn_tupleAt (eqU x) pl (fun w hw => mem_eqAt rx fx r fs w (by simpa using hw)) ⟨.bl _, H, I, rfl, ?_⟩
    rw [show its.toArray.any (eqU x) = its.any (eqU x) by simp, any_eqU r fs]
    exact q
theorem call_len_seq : CallR X (.builtin "len") (fun xs H Q => ∃ p ys, xs = [.ref p] ∧ (SqL X.K H p ys ∨ SqT X.K H p ys) ∧ Q (.int ys.length) H) := by
  intro pins s σ H xs us Q I r h
  obtain ⟨p, ys, rfl, hq, q⟩ := h
  obtain ⟨u, rfl, rx⟩ := vals1 r
  cases rx
  have hn := line63
  rcases hq with hq | hq
  · obtain ⟨its, r', pl, hz⟩ := I.list hq
    have hlen := r'.length
    exact Calls.call_len_list pl.isList (by simp only [List.size_toArray] <;> omega) ⟨.int ys.length, H, I.tok _, ⟨s.toks + 1, by rw [List.size_toArray, hlen]⟩, q⟩
  · obtain ⟨its, r', pl, hz⟩ := I.tuple hq
    have hlen := r'.length
    exact len_tuple pl (by simp only [List.size_toArray] <;> omega) ⟨.int ys.length, H, I.tok _, ⟨s.toks + 1, by rw [List.size_toArray, hlen]⟩, q⟩
theorem call_len_str : CallR X (.builtin "len") (fun xs H Q => ∃ z, xs = [.str z] ∧ z.length ≤ sizeLine ∧ Q (.int z.length) H) := by
  intro pins s σ H xs us Q I r h
  obtain ⟨z, rfl, hz, q⟩ := h
  obtain ⟨u, rfl, t, rfl⟩ := vals1 r
  have hn := line63
  exact len_str (by omega) ⟨.int z.length, H, I.tok _, ⟨_, rfl⟩, q⟩
def tyV (K : PySem.W.Frag) (T : String) (x : V) (H : Hp) : Prop := match x with
  | .str _ => T = "str"
  | .int _ => T = "int"
  | .ref p => (T = "list" ∧ ∃ xs, SqL K H p xs) ∨ (T = "tuple" ∧ ∃ o, K.lookup p = some o ∧ o.cls = .type "tuple" ∧ o.dict = none) ∨
      (T = "dict" ∧ ((∃ kvs, H p = some (.dK kvs)) ∨ ∃ kvs, H p = some (.dT kvs))) ∨ (T = "set" ∧ ∃ S n, H p = some (.set S n))
  | _ => False
theorem tyV_is {pins : List (Addr × Obj)} {σ : St} {H : Hp} {s : Shared} {T : String} {x : V} {v : Value} (I : Inv X pins σ H s) (r : RelV x v) (ty : tyV X.K T x H) :
    s.TypeIs v T ∧ ∀ a, v = .ref a → ∃ ob, s.heap.get? a = some ob ∧ ob.dict = none := by
  cases x with
  | str z =>
    obtain ⟨t, rfl⟩ := r
    cases (show T = "str" from ty)
    exact ⟨typeIs_str s z t, fun _ e => nomatch e⟩
  | int i =>
    obtain ⟨t, rfl⟩ := r
    cases (show T = "int" from ty)
    exact ⟨typeIs_int s i t, fun _ e => nomatch e⟩
  | ref p =>
    cases r
    rcases ty with ⟨rfl, xs, hq⟩ | ⟨rfl, o, hk, hc, hd⟩ | ⟨rfl, hk⟩ | ⟨rfl, S, n, hk⟩
    · obtain ⟨its, _, pl, _⟩ := I.list hq
      refine ⟨pl.isList.typeIs, fun a e => ?_⟩
      cases e
      obtain ⟨o, n, e, c, hd, _⟩ := pl
      exact ⟨o, e, hd⟩
    · refine ⟨⟨o, I.kIn p o hk, hc⟩, fun a e => ?_⟩
      cases e
      exact ⟨o, I.kIn _ o hk, hd⟩
    · have z : ∃ o, s.heap.get? p = some o ∧ o.ExactDict := by
        rcases hk with ⟨kvs, hk⟩ | ⟨kvs, hk⟩
        · obtain ⟨_, _, _, _, o, _, _, e, ex, _⟩ := I.hok p _ hk
          exact ⟨o, e, ex⟩
        · obtain ⟨_, _, _, _, o, _, _, e, ex, _⟩ := I.hok p _ hk
          exact ⟨o, e, ex⟩
      obtain ⟨o, e, ex⟩ := z
      refine ⟨⟨o, e, ex.1⟩, fun a e2 => ?_⟩
      cases e2
      exact ⟨o, e, ex.2.1⟩
    · obtain ⟨o, _, _, _, e, ex, _⟩ := I.hok p _ hk
      refine ⟨⟨o, e, ex.1⟩, fun a e2 => ?_⟩
      cases e2
      exact ⟨o, e, ex.2.1⟩
  | _ => exact False.elim ty
def tBM (K : PySem.W.Frag) (T : String) (r : V → List V → Hp → VK → Prop) (to : TE) (t : TA) : TE := fun σ H Q => to σ H fun x H1 => tyV K T x H1 ∧ t σ H1 fun xs H2 => r x xs H2 Q
variable {o e : Expr} {es : List Expr} {to : TE} {t : TA} {name : Str} {apos cpos : Pos} {T id : String} {r : V → List V → Hp → VK → Prop}
theorem pe_bm (pa : PlainAttrs T) (slot : Slot T name id) (hty : typeOf (.builtin id) = pure (.type "method_descriptor")) (hm : MtR X id r) (ho : PE X o to) (ha : PA X (e :: es) t)
    (hbase : attributeBase o name X.env (eval o X.env) = eval o X.env := by rfl)
    (hfew : ((backTo cpos (starEach (e :: es) X.env)).all (fun x => !x.1) && (backToKw cpos (keywordEach [] X.env)).all (fun x => x.1.isSome)
      && decide ((e :: es).length + ([] : List Keyword).length + (if ([] : List Keyword).isEmpty then 0 else 1) < 30)) = true := by rfl)
    (hline : (apos.endLine == cpos.line) = true := by rfl) (hs : starEach (e :: es) X.env = (false, eval e X.env) :: starEach es X.env := by rfl) (hplain : (backTo cpos (starEach es X.env)).any (·.1) = false := by rfl) :
    PE X (.Call (.Attribute o name apos) (e :: es) [] cpos) (tBM X.K T r to t) := by
  intro pins s σ H Q I h
  refine wpAny_Call_method_late hbase hfew hline rfl (thn (ho pins s σ H _ I h) fun v s1 ⟨x, H1, I1, r1, ty, q1⟩ => ?_)
  obtain ⟨h1, h2⟩ := tyV_is I1 r1 ty
  refine ⟨T, id, pa, slot, hty, h1, h2, ?_⟩
  have hA := ha cpos pins s1 σ H1 _ I1 q1
  rw [hs] at hA ⊢
  refine Calls.callWith_builtin (by show (false || (backTo cpos (starEach es X.env)).any (·.1)) = false; rw [hplain] <;> rfl) (Calls.evalArgs_plain ?_)
  exact thn hA fun us s2 ⟨vs, H2, I2, r2, q2⟩ => hm pins s2 σ H2 x vs v us Q I2 r1 r2 q2
end
end L2
namespace L2
open PySem PySem.Spec PyProof.Rows
def MtM (X : Cx) (id : String) (r : V → List V → Hp → VK → Prop) : Prop :=
  ∀ (pins : List (Addr × Obj)) (s : Shared) (σ : St) (H : Hp) (x : V) (xs : List V) (v : Value) (us : List Value) (Q : VK), Inv X pins σ H s → RelV x v → Vals xs us → r x xs H Q →
    wpAny (model X.prog X.w) X.A (call (.builtin id) (v :: us)) (EP X pins σ Q) X.xe s
theorem Vals.one : ∀ {x : V} {us : List Value}, Vals [x] us → ∃ u, us = [u] ∧ RelV x u
  | _, _, .cons r .nil => ⟨_, rfl, r⟩
theorem Vals.rep {xs : List V} {us : List Value} (h : Vals xs us) : ∀ k : Nat, Vals (List.replicate k xs).flatten (List.replicate k us).flatten
  | 0 => .nil
  | k + 1 => by
    rw [List.replicate_succ, List.replicate_succ, List.flatten_cons, List.flatten_cons]
    exact Vals.append h (Vals.rep h k)
theorem foldl_rep (its : List Value) : ∀ (k : Nat) (acc : List Value),
    List.foldl (fun x1 x2 => x1 ++ x2) acc.toArray (List.replicate k its.toArray) = (acc ++ (List.replicate k its).flatten).toArray
  | 0, acc => by simp
  | k + 1, acc => by
    have e : acc.toArray ++ its.toArray = (acc ++ its).toArray := by simp
    have e2 : (acc ++ its) ++ (List.replicate k its).flatten = acc ++ (List.replicate (k + 1) its).flatten := by
      rw [List.replicate_succ, List.flatten_cons, List.append_assoc]
    rw [← e2, ← foldl_rep its k (acc ++ its), ← e, List.replicate_succ, List.foldl_cons]
section
variable {X : Cx} {pins : List (Addr × Obj)} {σ : St} {H : Hp} {s : Shared} {l b : Addr} {xs ys zs : List V}
theorem Inv.lset {its its' : List Value} {n : Nat} {f : Array Value → Array Value} {t' : Nat} (I : Inv X pins σ H s) (hH : H l = some (.lst xs))
    (e : s.heap.get? l = some { cls := .type "list", data := .seq its.toArray n }) (hf : f its.toArray = its'.toArray) (hv : Vals ys its') (hz : ys.length ≤ sizeLine) :
    Inv X pins σ (upd H l (.lst ys)) { s with heap := s.heap.update l (Obj.mapSeq f), toks := t' } := by
  have q := PySem.IsL.update e f
  rw [hf] at q
  refine I.write (x := l) (e := l) (by rw [hH]; exact trivial) (.inl rfl) (fun b' u hb hu => (Heap.get?_update_other s.heap (Obj.mapSeq f) (Ne.symm hb)).trans hu) ⟨_, q⟩ ?_
  exact ⟨hz, its', _, hv, q⟩
theorem Inv.lnew {its : List Value} {t' : Nat} (I : Inv X pins σ H s) (hv : Vals ys its) (hz : ys.length ≤ sizeLine) :
    Inv X pins σ (upd H s.heap.objs.size (.lst ys)) { s with heap := s.heap.push { cls := .type "list", data := .seq its.toArray }, toks := t' } :=
  I.laid (fun _ _ q => Heap.get?_push_of_some _ q) (Nat.le_refl _) ⟨hz, its, 0, hv, Heap.get?_push_size _ rfl⟩
theorem Inv.fresh (I : Inv X pins σ H s) : H s.heap.objs.size = none := I.hok.fresh (Nat.le_refl _)
theorem Inv.lstM (I : Inv X pins σ H s) (hH : H l = some (.lst xs)) : xs.length ≤ sizeLine ∧ ∃ (its : List Value) (n : Nat), Vals xs its ∧ xs.length = its.length ∧ s.heap.get? l = some { cls := .type "list", data := .seq its.toArray n } := by
  obtain ⟨z, its, n, r, e⟩ := I.hok l _ hH
  exact ⟨z, its, n, r, r.length, e⟩
theorem notLongL {n : Nat} (h : n ≤ sizeLine) : Builtin.List.listTooLong n = false := by
  unfold Builtin.List.listTooLong
  exact decide_eq_false (by omega)
end
section
variable {X : Cx}
def rAppend : V → List V → Hp → VK → Prop := fun x vs H Q => ∃ l xs y, x = .ref l ∧ vs = [y] ∧ H l = some (.lst xs) ∧ xs.length < sizeLine ∧ Q .non (upd H l (.lst (xs ++ [y])))
theorem mt_append : MtM X "list.append" rAppend := by
  intro pins s σ H x vs v us Q I rx rv h
  obtain ⟨l, xs, y, rfl, rfl, hH, hz, q⟩ := h
  cases rx
  obtain ⟨u, rfl, ru⟩ := rv.one
  obtain ⟨z, its, n, r, hl, e⟩ := I.lstM hH
  refine call_meets F.slot_list_append ⟨_, e, rfl⟩ F.entry_list_append (F.args_list_append_2 _ _) (PySem.list_append l its.toArray n u (by rw [List.size_toArray]; omega)) ⟨e, ?_⟩
  refine ⟨.non, _, I.lset (its' := its ++ [u]) hH e (by simp) (r.append (.cons ru .nil)) ?_, rfl, q⟩
  rw [List.length_append, List.length_singleton]
  omega
def rExtend : V → List V → Hp → VK → Prop := fun x vs H Q => ∃ l b xs zs, x = .ref l ∧ vs = [.ref b] ∧ H l = some (.lst xs) ∧ H b = some (.lst zs) ∧ xs.length + zs.length ≤ sizeLine ∧ Q .non (upd H l (.lst (xs ++ zs)))
theorem mt_extend : MtM X "list.extend" rExtend := by
  intro pins s σ H x vs v us Q I rx rv h
  obtain ⟨l, b, xs, zs, rfl, rfl, hH, hB, hz, q⟩ := h
  cases rx
  obtain ⟨u, rfl, ru⟩ := rv.one
  cases ru
  obtain ⟨z, its, n, r, hl, e⟩ := I.lstM hH
  obtain ⟨z2, its2, n2, r2, hl2, e2⟩ := I.lstM hB
  have hsz : its.toArray.size + its2.toArray.size ≤ sizeLine := by rw [List.size_toArray, List.size_toArray]; omega
  have hlong : ¬ (!its.toArray.isEmpty && Builtin.List.listTooLong (its.toArray.size + its2.toArray.size)) = true := by
    rw [notLongL hsz, Bool.and_false]
    exact Bool.false_ne_true
  refine call_meets F.slot_list_extend ⟨_, e, rfl⟩ F.entry_list_extend (F.args_list_extend_2 _ _)
    (AutoSeq1.list_extend_list_list_0 l its.toArray n b its2.toArray n2 hlong (by rw [List.size_toArray]; omega) (by omega)) ⟨e, e2, ?_⟩
  refine ⟨.non, _, I.lset (its' := its ++ its2) hH e (by simp) (r.append r2) ?_, rfl, q⟩
  rw [List.length_append]
  omega
def rCat : R2 := fun x y H Q => ∃ l b xs zs, x = .ref l ∧ y = .ref b ∧ H l = some (.lst xs) ∧ H b = some (.lst zs) ∧ xs.length + zs.length ≤ sizeLine ∧ ∀ p, H p = none → Q (.ref p) (upd H p (.lst (xs ++ zs)))
theorem op_cat : OpR X (binaryOp .Add) rCat := by
  intro pins s σ H x y v u Q I rx ry h
  obtain ⟨l, b, xs, zs, rfl, rfl, hH, hB, hz, q⟩ := h
  cases rx
  cases ry
  obtain ⟨z, its, n, r, hl, e⟩ := I.lstM hH
  obtain ⟨z2, its2, n2, r2, hl2, e2⟩ := I.lstM hB
  refine PySem.P.add_list e e2 ?_ (by rw [List.size_toArray, List.size_toArray]; omega)
  have ea : its.toArray ++ its2.toArray = (its ++ its2).toArray := by simp
  rw [ea]
  exact ⟨.ref _, _, I.lnew (t' := s.toks) (r.append r2) (by rw [List.length_append]; omega), rfl, q _ I.fresh⟩
def rRep : R2 := fun x y H Q => ∃ l k xs, x = .ref l ∧ y = .int k ∧ H l = some (.lst xs) ∧ -(2 ^ 63) ≤ k ∧ k < 2 ^ 63 ∧ xs.length * k.toNat ≤ sizeLine ∧
  ∀ p, H p = none → Q (.ref p) (upd H p (.lst (List.replicate k.toNat xs).flatten))
theorem len_rep {α : Type} (xs : List α) (k : Nat) : (List.replicate k xs).flatten.length = k * xs.length := by
  induction k with
  | zero => simp
  | succ k ih => rw [List.replicate_succ, List.flatten_cons, List.length_append, ih, Nat.succ_mul, Nat.add_comm]
theorem op_rep : OpR X (binaryOp .Mult) rRep := by
  intro pins s σ H x y v u Q I rx ry h
  obtain ⟨l, k, xs, rfl, rfl, hH, h1, h2, hz, q⟩ := h
  cases rx
  obtain ⟨t, rfl⟩ := ry
  obtain ⟨z, its, n, r, hl, e⟩ := I.lstM hH
  have hlen : its.toArray.size * k.toNat ≤ sizeLine := by rw [List.size_toArray, ← hl]; exact hz
  have hcap : ¬ its.toArray.size * k.toNat > (2 ^ 63 - 1) / 8 := by
    have : (sizeLine : Nat) ≤ (2 ^ 63 - 1) / 8 := by decide
    omega
  have hfit : ¬ (!Builtin.List.listFitsIndex k) = true := by
    rw [fitsIndex_both h1 h2]
    exact Bool.false_ne_true
  have hlong : ¬ Builtin.List.listTooLong (its.toArray.size * k.toNat) = true := by
    rw [notLongL hlen]
    exact Bool.false_ne_true
  have hnew : List.foldl (fun x1 x2 => x1 ++ x2) #[] (List.replicate (if its.toArray.isEmpty = true then 0 else k.toNat) its.toArray) = (List.replicate k.toNat its).flatten.toArray := by
    have f0 : ∀ m : Nat, List.foldl (fun x1 x2 => x1 ++ x2) #[] (List.replicate m its.toArray) = (List.replicate m its).flatten.toArray := fun m => by
      have := foldl_rep its m []
      rw [List.nil_append] at this
      exact this
    rw [f0]
    cases its with
    | nil => simp
    | cons a r' => rw [if_neg (by simp)]
  refine wpAny_binaryOp_repeat_ref (T := "list") (U := "int") (by decide) ⟨_, e, rfl⟩ (fun s' => typeIs_int s' k t) noFill_list_mul F.fills_int_mul F.slot_int_rmul repeat_list F.slot_int_index.lookup
    (call_meets F.slot_int_rmul (typeIs_int s k t) F.entry_int_rmul (F.args_int_rmul_2 _ _) (int___rmul___int_list k t l its.toArray n)
      ⟨e, rfl, ⟨_, e, rfl⟩, call_meets F.slot_list_mul ⟨_, e, rfl⟩ F.entry_list_mul (F.args_list_mul_2 _ _) (AutoListH.list___mul___list_int_3 l its.toArray n k t hfit hcap hlong) ⟨e, ?_⟩⟩)
  rw [hnew]
  exact ⟨.ref _, _, I.lnew (t' := s.toks) (r.rep k.toNat) (by rw [len_rep, Nat.mul_comm]; exact hz), rfl, q _ I.fresh⟩
end
section
variable {prog : Program} {w : World} {A : Around} {E : Value → Shared → Prop} {s : Shared}
end
section
variable {X : Cx}
end
end L2
namespace L2
open PySem PySem.Spec PyProof.Rows
theorem Vals.ints : ∀ {ns : List Int} {us : List Value}, Vals (ns.map V.int) us → IntsAre us ns
  | [], us, h => by
    rw [List.map_nil] at h
    cases h
    exact IntsAre.nil
  | n :: ns, us, h => by
    rw [List.map_cons] at h
    cases h with
    | cons r t =>
      obtain ⟨k, rfl⟩ := r
      exact IntsAre.cons n k (Vals.ints t)
theorem Vals.bls : ∀ {bs : List Bool} {us : List Value}, Vals (bs.map V.bl) us → us = bs.map Value.bool
  | [], us, h => by
    rw [List.map_nil] at h
    cases h
    rfl
  | b :: bs, us, h => by
    rw [List.map_cons] at h
    cases h with
    | cons r t =>
      cases r
      rw [Vals.bls t, List.map_cons]
theorem Vals.ref1 {a : Addr} {us : List Value} (r : Vals [V.ref a] us) : us = [Value.ref a] := by
  cases r with
  | cons r t =>
    cases t
    cases r
    rfl
theorem Vals.int2 {i j : Int} {us : List Value} (r : Vals [V.int i, V.int j] us) : ∃ t u, us = [Value.int i t, Value.int j u] := by
  cases r with
  | cons r t =>
    cases t with
    | cons r2 t2 =>
      cases t2
      obtain ⟨t, rfl⟩ := r
      obtain ⟨u, rfl⟩ := r2
      exact ⟨t, u, rfl⟩
section
variable {prog : Program} {w : World} {A : Around} {E : Value → Shared → Prop} {s : Shared} {l : Addr} {its : List Value} {ns : List Int} {Q : Value → Shared → Prop}
theorem sum_raw (hh : A.handled = none) (hl : s.heap.IsList l its.toArray) (hi : IntsAre its ns)
    (h : ∀ h' tk t', (∀ b o, s.heap.get? b = some o → h'.get? b = some o) → Q (.int ns.sum t') { s with heap := h', toks := tk }) : wpAny (model prog w) A (call (.builtin "sum") [.ref l]) Q E s := by
  obtain ⟨xs, e⟩ := hi.allInts.items
  have hn : numsOf (intItems xs).toList = ns := by rw [← e]; exact hi.numsOf
  rw [nums_intItems] at hn
  rw [e] at hl
  refine PySem.sum_intListG hh hl fun h' tk t' hk => ?_
  have := h h' tk t' hk
  rw [preSum_eq, List.take_of_length_le (by simp), hn]; exact this
theorem max_raw (hh : A.handled = none) (hl : s.heap.IsList l its.toArray) (hi : IntsAre its ns) (hne : 0 < ns.length)
    (h : ∀ h' tk M t', (∀ b o, s.heap.get? b = some o → h'.get? b = some o) → M ∈ ns → (∀ a, a ∈ ns → a ≤ M) → Q (.int M t') { s with heap := h', toks := tk }) : wpAny (model prog w) A (call (.builtin "max") [.ref l]) Q E s := by
  obtain ⟨xs, e⟩ := hi.allInts.items
  have hn : numsOf (intItems xs).toList = ns := by rw [← e]; exact hi.numsOf
  rw [nums_intItems] at hn
  subst hn
  rw [e] at hl
  have hsz : 0 < xs.size := by simpa using hne
  refine PySem.max_intList hh hl hsz fun v h' tk hv hk => ?_
  obtain ⟨t, rfl⟩ := intItems_at hv
  obtain ⟨h1, h2⟩ := argBest_gt (numAt xs) (xs.size - 1)
  refine h h' tk _ t hk ?_ fun a ha => ?_
  · rw [numAt_eq]; exact PySem.getD_mem (by rw [List.length_map, Array.length_toList]; omega)
  · obtain ⟨j, hj, rfl⟩ := mem_getD ha
    rw [List.length_map, Array.length_toList] at hj
    rw [← numAt_eq]; exact h2 j (by omega)
theorem min_raw (hh : A.handled = none) (hl : s.heap.IsList l its.toArray) (hi : IntsAre its ns) (hne : 0 < ns.length)
    (h : ∀ h' tk M t', (∀ b o, s.heap.get? b = some o → h'.get? b = some o) → M ∈ ns → (∀ a, a ∈ ns → M ≤ a) → Q (.int M t') { s with heap := h', toks := tk }) : wpAny (model prog w) A (call (.builtin "min") [.ref l]) Q E s := by
  obtain ⟨xs, e⟩ := hi.allInts.items
  have hn : numsOf (intItems xs).toList = ns := by rw [← e]; exact hi.numsOf
  rw [nums_intItems] at hn
  subst hn
  rw [e] at hl
  have hsz : 0 < xs.size := by simpa using hne
  refine PySem.min_intList hh hl hsz fun v h' tk hv hk => ?_
  obtain ⟨t, rfl⟩ := intItems_at hv
  obtain ⟨h1, h2⟩ := argBest_lt (numAt xs) (xs.size - 1)
  refine h h' tk _ t hk ?_ fun a ha => ?_
  · rw [numAt_eq]; exact PySem.getD_mem (by rw [List.length_map, Array.length_toList]; omega)
  · obtain ⟨j, hj, rfl⟩ := mem_getD ha
    rw [List.length_map, Array.length_toList] at hj
    rw [← numAt_eq]; exact h2 j (by omega)
end
section
variable {X : Cx}
def rSum (K : PySem.W.Frag) : List V → Hp → VK → Prop := fun vs H Q => ∃ (a : Addr) (ns : List Int), vs = [V.ref a] ∧ SqL K H a (ns.map V.int) ∧ Q (.int ns.sum) H
def rMax (K : PySem.W.Frag) : List V → Hp → VK → Prop := fun vs H Q => ∃ (a : Addr) (ns : List Int), vs = [V.ref a] ∧ SqL K H a (ns.map V.int) ∧ 0 < ns.length ∧ ∀ m, m ∈ ns → (∀ y, y ∈ ns → y ≤ m) → Q (.int m) H
def rMin (K : PySem.W.Frag) : List V → Hp → VK → Prop := fun vs H Q => ∃ (a : Addr) (ns : List Int), vs = [V.ref a] ∧ SqL K H a (ns.map V.int) ∧ 0 < ns.length ∧ ∀ m, m ∈ ns → (∀ y, y ∈ ns → m ≤ y) → Q (.int m) H
theorem cr_sum (hc : X.calm = true) : CallR X (.builtin "sum") (rSum X.K) := by
  intro pins s σ H vs us Q I r h
  obtain ⟨a, ns, rfl, hs, q⟩ := h
  obtain ⟨its, rv, hl, _⟩ := I.list hs
  rw [Vals.ref1 r]
  exact sum_raw (I.ok.hd hc) hl.isList rv.ints fun h' tk t' hk => ⟨.int _, H, I.kept hk, ⟨_, rfl⟩, q⟩
theorem cr_max (hc : X.calm = true) : CallR X (.builtin "max") (rMax X.K) := by
  intro pins s σ H vs us Q I r h
  obtain ⟨a, ns, rfl, hs, hne, q⟩ := h
  obtain ⟨its, rv, hl, _⟩ := I.list hs
  rw [Vals.ref1 r]
  exact max_raw (I.ok.hd hc) hl.isList rv.ints hne fun h' tk m t' hk h1 h2 => ⟨.int _, H, I.kept hk, ⟨_, rfl⟩, q m h1 h2⟩
theorem cr_min (hc : X.calm = true) : CallR X (.builtin "min") (rMin X.K) := by
  intro pins s σ H vs us Q I r h
  obtain ⟨a, ns, rfl, hs, hne, q⟩ := h
  obtain ⟨its, rv, hl, _⟩ := I.list hs
  rw [Vals.ref1 r]
  exact min_raw (I.ok.hd hc) hl.isList rv.ints hne fun h' tk m t' hk h1 h2 => ⟨.int _, H, I.kept hk, ⟨_, rfl⟩, q m h1 h2⟩
end
section
variable {X : Cx}
def rIndex (K : PySem.W.Frag) : V → List V → Hp → VK → Prop := fun x xs H Q => ∃ (a : Addr) (ys : List V) (y : V) (j : Nat) (z : V), x = V.ref a ∧ xs = [y] ∧ SqL K H a ys ∧ flatV y = true ∧ ys.all flatV = true ∧ ys[j]? = some z ∧ eqV z y = true ∧
  (∀ (m : Nat) (z' : V), m < j → ys[m]? = some z' → eqV z' y = false) ∧ Q (.int (j : Nat)) H
theorem flat_at {ys : List V} (f : ys.all flatV = true) {j : Nat} {z : V} (h : ys[j]? = some z) : flatV z = true := List.all_eq_true.mp f z (List.mem_of_getElem? h)
theorem mt_index : MtR X "list.index" (rIndex X.K) := by
  intro pins s σ H x xs v us Q I rx rxs h
  obtain ⟨a, ys, y, j, z, rfl, rfl, hs, fy, fys, hz, hzj, hno, q⟩ := h
  cases rx
  cases rxs with
  | cons ry rt =>
    rename_i uy ut
    cases rt
    obtain ⟨its, rv, ⟨⟨cls, dd, data, sl⟩, n, ho, hc, hdn, hd⟩, hlen⟩ := I.list hs
    simp only at hc hd
    subst hc hd
    obtain ⟨u, hu, ru⟩ := rv.get hz
    obtain ⟨hjl, hje⟩ := List.getElem?_eq_some_iff.mp hu
    have hvl := rv.length
    have hj : j < its.toArray.size := by simpa using hjl
    have hsl := sizeLine_eq
    refine call_meets PySem.F.slot_list_index ⟨_, ho, rfl⟩ PySem.F.entry_list_index (PySem.F.args_list_index_2 _ _)
      (SeqAt.list_indexAt a its.toArray n dd sl uy (eqU y) j hj (by omega) ?_ ?_) ⟨ho, fun u' hu' => mem_eqAt ry fy rv fys u' (by simpa using hu'), ?_⟩
    · have e1 : its.toArray[j] = u := by simpa using hje
      rw [e1, eqU_of ru (flat_at fys hz)]
      exact hzj
    · intro m hm hmj
      have hml : m < its.length := by simpa using hm
      have hmy : m < ys.length := by omega
      have hy' : ys[m]? = some ys[m] := List.getElem?_eq_getElem hmy
      obtain ⟨u2, hu2, ru2⟩ := rv.get hy'
      obtain ⟨_, hme⟩ := List.getElem?_eq_some_iff.mp hu2
      have e1 : its.toArray[m] = u2 := by simpa using hme
      rw [e1, eqU_of ru2 (flat_at fys hy')]
      exact hno m _ hmj hy'
    · exact ⟨.int (j : Nat), H, I.tok _, ⟨_, rfl⟩, q⟩
end
section
variable {X : Cx}
end
theorem iter_any {prog : Program} {w : World} {A : Around} {E : Value → Shared → Prop} {s : Shared} {l : Addr} {items : Array Value} {Q : Value → Shared → Prop} (hl : s.heap.IsList l items)
    (h : ∀ s₂ : Shared, s₂ = { s with heap := s.heap.push { cls := .type "list_iterator", data := .fields #[.ref l, .int 0 0] } } →
      (s₂.heap.IsListIter s.heap.objs.size l 0 ∧ s₂.heap.IsList l items) → l ≠ s.heap.objs.size → Q (.ref s.heap.objs.size) s₂) : wpAny (model prog w) A (pyIter (.ref l)) Q E s := by
  have hlt : l < s.heap.objs.size := by obtain ⟨_, e, _⟩ := hl; exact Heap.lt_size e
  exact wpAny_pyIter_list hl (h _ rfl ⟨⟨_, Heap.get?_push_size _ rfl, rfl, rfl⟩, hl.push _⟩ (Nat.ne_of_lt hlt))
theorem truth_bools {prog : Program} {w : World} {A : Around} {bs : List Bool} {its : List Value} (e : its = bs.map Value.bool) :
    TruthOf prog w A (fun i v => its.toArray[i]? = some v) (fun i => bs.getD i false) := fun i v s Q E hv hq => by
  have hv' : its[i]? = some v := by simpa using hv
  rw [e, List.getElem?_map] at hv'
  obtain ⟨b, hb, rfl⟩ := Option.map_eq_some_iff.mp hv'
  have hg : bs.getD i false = b := by rw [List.getD_eq_getElem?_getD, hb] <;> rfl
  have hq' : Q (bs.getD i false) s := hq
  rw [hg] at hq'
  exact wpAny_truthy_bool hq'
theorem any_range : ∀ bs : List Bool, (List.range bs.length).any (fun i => bs.getD i false) = bs.any id
  | [] => rfl
  | b :: bs => by
    rw [List.length_cons, List.range_succ_eq_map, List.any_cons, List.any_map, List.any_cons, ← any_range bs]
    all_goals rfl
theorem all_range : ∀ bs : List Bool, (List.range bs.length).all (fun i => bs.getD i false) = bs.all id
  | [] => rfl
  | b :: bs => by
    rw [List.length_cons, List.range_succ_eq_map, List.all_cons, List.all_map, List.all_cons, ← all_range bs]
    all_goals rfl
section
variable {X : Cx}
def rAll (K : PySem.W.Frag) : List V → Hp → VK → Prop := fun vs H Q => ∃ (a : Addr) (bs : List Bool), vs = [V.ref a] ∧ SqL K H a (bs.map V.bl) ∧ Q (.bl (bs.all id)) H
theorem cr_all (hc : X.calm = true) : CallR X (.builtin "all") (rAll X.K) := by
  intro pins s σ H vs us Q I r h
  obtain ⟨a, bs, rfl, hs, q⟩ := h
  obtain ⟨its, rv, hl, _⟩ := I.list hs
  rw [Vals.ref1 r]
  have hb := rv.bls
  refine call_all_walk (iter_any hl.isList fun s₂ e2 st hne => ?_)
  subst e2
  refine ⟨_, _, _, _, _, _, _, rfl, Walks.list (A := X.A.in1) (I.ok.hd hc) _ a hne its.toArray, st, truth_bools hb, fun h' tk hk => ?_⟩
  refine ⟨.bl _, H, I.kept fun b o eo => hk b o (fun hmem => ?_) (Heap.get?_push_of_some _ eo), ?_, q⟩
  · rcases List.mem_cons.mp hmem with e1 | hmem
    · exact absurd (e1 ▸ Heap.lt_size eo) (Nat.lt_irrefl _)
    · cases hmem
  · show Value.bool _ = Value.bool _
    rw [← all_range, hb, List.size_toArray, List.length_map]
end
mutual
inductive Dp (K : PySem.W.Frag) (H : Hp) : V → PyData → Prop
  | non : Dp K H .non .none
  | bl (b : Bool) : Dp K H (.bl b) (.bool b)
  | int (i : Int) : Dp K H (.int i) (.int i)
  | str (x : Str) : Dp K H (.str x) (.str x)
  | lst {a : Addr} {xs : List V} {ds : List PyData} : SqL K H a xs → DpAll K H xs ds → Dp K H (.ref a) (.list ds)
  | tup {a : Addr} {xs : List V} {ds : List PyData} : SqT K H a xs → DpAll K H xs ds → Dp K H (.ref a) (.tuple ds)
inductive DpAll (K : PySem.W.Frag) (H : Hp) : List V → List PyData → Prop
  | nil : DpAll K H [] []
  | cons {v : V} {vs : List V} {d : PyData} {ds : List PyData} : Dp K H v d → DpAll K H vs ds → DpAll K H (v :: vs) (d :: ds)
end
section
variable {X : Cx} {pins : List (Addr × Obj)} {σ : St} {H : Hp} {s : Shared}
mutual
theorem Dp.reads (I : Inv X pins σ H s) : ∀ (d : PyData) (v : V) (u : Value), Dp X.K H v d → RelV v u → ∃ as, Reads s.heap u d as
  | .none, _, _, h, r => by
    cases h
    cases r
    exact ⟨_, Reads.none⟩
  | .bool b, _, _, h, r => by
    cases h
    cases r
    exact ⟨_, Reads.bool b⟩
  | .int i, _, _, h, r => by
    cases h
    obtain ⟨t, rfl⟩ := r
    exact ⟨_, Reads.int i t⟩
  | .str x, _, _, h, r => by
    cases h
    obtain ⟨t, rfl⟩ := r
    exact ⟨_, Reads.str x t⟩
  | .list ds, _, _, h, r => by
    cases h with
    | lst hs ha =>
      cases r
      obtain ⟨its, rv, ⟨o, n, ho, hc, _, hd⟩, _⟩ := I.list hs
      obtain ⟨as, hr⟩ := Dp.readsAll I ds _ its ha rv
      exact ⟨_, Reads.list ho hc hd hr⟩
  | .tuple ds, _, _, h, r => by
    cases h with
    | tup hs ha =>
      cases r
      obtain ⟨its, rv, ⟨o, ho, hc, n, hd⟩, _⟩ := I.tuple hs
      obtain ⟨as, hr⟩ := Dp.readsAll I ds _ its ha rv
      exact ⟨_, Reads.tuple ho hc hd hr⟩
  | .dict _, _, _, h, _ => by cases h
theorem Dp.readsAll (I : Inv X pins σ H s) : ∀ (ds : List PyData) (vs : List V) (us : List Value), DpAll X.K H vs ds → Vals vs us → ∃ as, ReadsAll s.heap us ds as
  | [], _, _, h, r => by
    cases h
    cases r
    exact ⟨_, ReadsAll.nil⟩
  | d :: ds, _, _, h, r => by
    cases h with
    | cons h1 h2 =>
      cases r with
      | cons r1 r2 =>
        obtain ⟨as, q1⟩ := Dp.reads I d _ _ h1 r1
        obtain ⟨bs, q2⟩ := Dp.readsAll I ds _ _ h2 r2
        exact ⟨_, ReadsAll.cons q1 q2⟩
end
end
section
variable {X : Cx}
def rEqD (K : PySem.W.Frag) : R2 := fun x y H Q => ∃ d e, Dp K H x d ∧ Dp K H y e ∧ SeqAt.shaped d = true ∧ SeqAt.shaped e = true ∧ Q (.bl (PyData.eqv d e)) H
theorem op_eqD (hu : X.A.units + 64 < cLine) : OpR X (compareOp .Eq) (rEqD X.K) := by
  intro pins s σ H x y v u Q I rx ry h
  obtain ⟨d, e, hd, he, sd, se, q⟩ := h
  obtain ⟨as, r1⟩ := Dp.reads I d x v hd rx
  obtain ⟨bs, r2⟩ := Dp.reads I e y u he ry
  exact SeqAt.compareEq_shaped r1 r2 sd se hu ⟨.bl _, H, I, rfl, q⟩
end
end L2
namespace L2
open PySem PySem.Spec PyProof.Rows
abbrev CellAt (h : Heap) (c : Addr) (v : Option Value) : Prop := h.IsCell c v
def relS (scope sc : Scope) : Scope :=
  { scope with names := scope.names.map fun (n, k) => if (k == .free && sc.kind == .function && sc.names.lookup n == some .cell) then (n, .cell) else (n, k) }
def cloFrom (cells : List (Str × Addr)) : List (Str × NameKind) → List (Str × Addr) → List (Str × Addr)
  | [], acc => acc
  | (n, k) :: r, acc => if k == .free then cloFrom cells r ((n, (cells.lookup n).getD 0) :: acc) else cloFrom cells r acc
theorem closure_loop (env : Env) (f : Str × NameKind → List (Str × Addr) → Sem (ForInStep (List (Str × Addr))))
    (hf : ∀ n k c, f (n, k) c = if k == .free then (do let a ← cellOf env n; pure (.yield ((n, a) :: c))) else pure (.yield c)) :
    ∀ (names : List (Str × NameKind)) (acc : List (Str × Addr)), (∀ y ∈ names, y.2 = .free → ∃ c, env.cells.lookup y.1 = some c) → forIn names acc f = pure (cloFrom env.cells names acc)
  | [], acc, _ => by rw [List.forIn_nil]; rfl
  | (n, k) :: r, acc, h => by
    rw [List.forIn_cons, hf]
    have ih := fun acc => closure_loop env f hf r acc fun y hy => h y (List.mem_cons_of_mem _ hy)
    unfold cloFrom
    by_cases hk : (k == NameKind.free) = true
    · rw [if_pos hk, if_pos hk]
      obtain ⟨c, hc⟩ := h (n, k) List.mem_cons_self (by simpa using hk)
      have e : cellOf env n = pure c := by unfold cellOf; rw [hc]
      rw [e]
      have e2 : (env.cells.lookup n).getD 0 = c := by rw [hc]; rfl
      rw [e2]
      exact ih _
    · rw [if_neg hk, if_neg hk]
      exact ih _
theorem closure_ok {scope : Scope} {env : Env} (h : ∀ y ∈ scope.names, y.2 = .free → ∃ c, env.cells.lookup y.1 = some c) : closureFor scope env = pure (cloFrom env.cells scope.names []) := by
  simp only [closureFor]
  rw [closure_loop env _ (fun n k c => rfl) scope.names [] h]
  rfl
theorem mem_lookup {α : Type} : ∀ {l : List (Str × α)} {n : Str} {c : α}, (n, c) ∈ l → ∃ c', l.lookup n = some c'
  | (k, v) :: r, n, c, h => by
    rw [List.lookup_cons]
    cases hb : n == k with
    | true => exact ⟨_, rfl⟩
    | false =>
      rcases List.mem_cons.mp h with e | h
      · cases e; simp at hb
      · exact mem_lookup h
theorem cloFrom_mem {cells : List (Str × Addr)} : ∀ {names : List (Str × NameKind)} {acc : List (Str × Addr)} {n : Str} {c : Addr}, (n, c) ∈ cloFrom cells names acc → (n, c) ∈ acc ∨ ((n, .free) ∈ names ∧ c = (cells.lookup n).getD 0)
  | [], _, _, _, h => .inl h
  | (m, k) :: r, acc, n, c, h => by
    unfold cloFrom at h
    split at h
    · rename_i hk
      have hk : k = .free := by simpa using hk
      rcases cloFrom_mem h with h | ⟨h1, h2⟩
      · rcases List.mem_cons.mp h with e | h
        · cases e; exact .inr ⟨hk ▸ List.mem_cons_self, rfl⟩
        · exact .inl h
      · exact .inr ⟨List.mem_cons_of_mem _ h1, h2⟩
    · rcases cloFrom_mem h with h | ⟨h1, h2⟩
      · exact .inl h
      · exact .inr ⟨List.mem_cons_of_mem _ h1, h2⟩
theorem cloFrom_acc {cells : List (Str × Addr)} : ∀ {names : List (Str × NameKind)} {acc : List (Str × Addr)} {p : Str × Addr}, p ∈ acc → p ∈ cloFrom cells names acc
  | [], _, _, h => h
  | (m, k) :: r, acc, p, h => by
    unfold cloFrom
    split
    · exact cloFrom_acc (List.mem_cons_of_mem _ h)
    · exact cloFrom_acc h
theorem cloFrom_has {cells : List (Str × Addr)} : ∀ {names : List (Str × NameKind)} {acc : List (Str × Addr)} {n : Str}, (n, .free) ∈ names → (n, (cells.lookup n).getD 0) ∈ cloFrom cells names acc
  | (m, k) :: r, acc, n, h => by
    unfold cloFrom
    rcases List.mem_cons.mp h with e | h
    · cases e
      exact cloFrom_acc List.mem_cons_self
    · split
      · exact cloFrom_has h
      · exact cloFrom_has h
theorem cells_mem : ∀ {names : List (Str × NameKind)} {h : Heap} {acc : List (Str × Addr)} {x : Str} {c : Addr}, (x, c) ∈ cellsFrom h.objs.size names acc →
    (x, c) ∈ acc ∨ ((x, .cell) ∈ names ∧ h.objs.size ≤ c ∧ CellAt (pushCells h names) c none)
  | [], _, _, _, _, h => .inl h
  | (n, k) :: r, h, acc, x, c, hm => by
    unfold cellsFrom at hm
    unfold pushCells
    split at hm
    · rename_i hk
      rw [if_pos hk]
      have hk : k = .cell := by simpa using hk
      rw [← Heap.size_push h { cls := .type "cell", data := .cell none }] at hm
      rcases cells_mem hm with hm | ⟨h1, h2, h3⟩
      · rcases List.mem_cons.mp hm with e | hm
        · cases e
          exact .inr ⟨hk ▸ List.mem_cons_self, Nat.le_refl _, _, pushCells_keeps r _ _ _ (Heap.get?_push_size _ rfl), rfl⟩
        · exact .inl hm
      · rw [Heap.size_push] at h2
        exact .inr ⟨List.mem_cons_of_mem _ h1, Nat.le_of_succ_le h2, h3⟩
    · rename_i hk
      rw [if_neg hk]
      rcases cells_mem hm with hm | ⟨h1, h2, h3⟩
      · exact .inl hm
      · exact .inr ⟨List.mem_cons_of_mem _ h1, h2, h3⟩
theorem cells_acc : ∀ {names : List (Str × NameKind)} {n : Nat} {acc : List (Str × Addr)} {p : Str × Addr}, p ∈ acc → p ∈ cellsFrom n names acc
  | [], _, _, _, h => h
  | (m, k) :: r, n, acc, p, h => by
    unfold cellsFrom
    split
    · exact cells_acc (List.mem_cons_of_mem _ h)
    · exact cells_acc h
theorem cells_has : ∀ {names : List (Str × NameKind)} {n : Nat} {acc : List (Str × Addr)} {x : Str}, (x, .cell) ∈ names → ∃ c, (x, c) ∈ cellsFrom n names acc
  | (m, k) :: r, n, acc, x, h => by
    unfold cellsFrom
    rcases List.mem_cons.mp h with e | h
    · cases e
      exact ⟨n, cells_acc List.mem_cons_self⟩
    · split
      · exact cells_has h
      · exact cells_has h
theorem cells_inj : ∀ {names : List (Str × NameKind)} {h : Heap} {acc : List (Str × Addr)} {x y : Str} {c : Addr}, (∀ p ∈ acc, p.2 < h.objs.size) → (∀ x y c, (x, c) ∈ acc → (y, c) ∈ acc → x = y) →
    (x, c) ∈ cellsFrom h.objs.size names acc → (y, c) ∈ cellsFrom h.objs.size names acc → x = y
  | [], _, _, _, _, _, _, hi, h1, h2 => hi _ _ _ h1 h2
  | (n, k) :: r, h, acc, x, y, c, hl, hi, h1, h2 => by
    unfold cellsFrom at h1 h2
    split at h1
    · rename_i hk
      rw [if_pos hk] at h2
      rw [← Heap.size_push h { cls := .type "cell", data := .cell none }] at h1 h2
      refine cells_inj (h := h.push _) (fun p hp => ?_) (fun x y c a b => ?_) h1 h2
      · rw [Heap.size_push]
        rcases List.mem_cons.mp hp with rfl | hp
        · exact Nat.lt_succ_self _
        · exact Nat.lt_succ_of_lt (hl p hp)
      · rcases List.mem_cons.mp a with e | a <;> rcases List.mem_cons.mp b with e' | b
        · cases e; cases e'; rfl
        · cases e; exact absurd (hl _ b) (Nat.lt_irrefl _)
        · cases e'; exact absurd (hl _ a) (Nat.lt_irrefl _)
        · exact hi _ _ _ a b
    · rename_i hk
      rw [if_neg hk] at h2
      exact cells_inj hl hi h1 h2
theorem newEnv_comp {M : Model} {A : Around} {E : Value → Shared → Prop} {s : Shared} {scope : Scope} {globals : Addr} {closure : List (Str × Addr)} {qual : Str} {func : Option Addr} {code : Value} {around : Env} {builtins : Addr} {Q : Env → Shared → Prop}
    (h : Q (newEnv scope s.heap.objs.size globals (cellsFrom (s.heap.objs.size + 1) scope.names closure) qual func code (some around) builtins)
      { s with heap := pushCells (s.heap.push { cls := .type "dict", data := .dict #[] }) scope.names }) :
    wpAny M A (newFunctionEnv scope globals closure [] qual func code (some around) builtins) Q E s := by
  simp only [newFunctionEnv, Option.isSome_some, if_true]
  refine wpAny_bind (wpAny_alloc ?_)
  refine wpAny_bind (wpAny_layCells _ (fun n k c => rfl) scope.names closure _ _ ?_)
  rw [show ({ s with heap := s.heap.push { cls := .type "dict", data := .dict #[] } } : Shared).heap.objs.size = s.heap.objs.size + 1 from Heap.size_push ..]
  rw [List.forIn_nil]
  exact wpAny_bind (wpAny_pure (wpAny_pure h))
theorem lookup_relS {sc : Scope} : ∀ {names : List (Str × NameKind)} {x : Str} {k : NameKind},
    (names.map fun (n, k) => if (k == NameKind.free && sc.kind == .function && sc.names.lookup n == some .cell) then (n, NameKind.cell) else (n, k)).lookup x = some k →
    ∃ k', names.lookup x = some k' ∧ (k = k' ∨ (k' = .free ∧ k = .cell))
  | [], _, _, h => by simp at h
  | (n, k₀) :: r, x, k, h => by
    have ih := @lookup_relS sc r x k
    have h' : List.lookup x ((if (k₀ == NameKind.free && sc.kind == .function && sc.names.lookup n == some .cell) = true then (n, NameKind.cell) else (n, k₀)) :: (r.map _)) = some k := h
    cases hx : x == n with
    | true =>
      simp only [List.lookup_cons, hx]
      by_cases hc : (k₀ == NameKind.free && sc.kind == .function && sc.names.lookup n == some .cell) = true
      · rw [if_pos hc] at h'
        simp only [List.lookup_cons, hx] at h'
        cases h'
        simp only [Bool.and_eq_true, beq_iff_eq] at hc
        exact ⟨k₀, rfl, .inr ⟨hc.1.1, rfl⟩⟩
      · rw [if_neg hc] at h'
        simp only [List.lookup_cons, hx] at h'
        cases h'
        exact ⟨_, rfl, .inl rfl⟩
    | false =>
      simp only [List.lookup_cons, hx]
      by_cases hc : (k₀ == NameKind.free && sc.kind == .function && sc.names.lookup n == some .cell) = true
      · rw [if_pos hc] at h'
        simp only [List.lookup_cons, hx] at h'
        exact ih h'
      · rw [if_neg hc] at h'
        simp only [List.lookup_cons, hx] at h'
        exact ih h'
structure BlkOk (N : List Str) (sc scope : Scope) (own : List (Str × Nat)) : Prop where
  kind : scope.kind = .function
  uniq : ∀ y ∈ scope.names, scope.names.lookup y.1 = some y.2
  ix : ∀ p ∈ own, N[p.2]? = some p.1
  free : ∀ y ∈ scope.names, y.2 = .free → sc.names.lookup y.1 = some .cell ∨ sc.names.lookup y.1 = some .free
  own : ∀ y ∈ scope.names, y.2 = .local ∨ y.2 = .cell → y.1 ∈ own.map (·.1) ∨ y.1 ∉ N
def wipe (σ : St) : List Nat → St
  | [] => σ
  | v :: vs => (wipe σ vs).set v none
theorem wipe_length (σ : St) : ∀ vs : List Nat, (wipe σ vs).length = σ.length
  | [] => rfl
  | v :: vs => by unfold wipe; rw [List.length_set, wipe_length σ vs]
theorem wipe_some {σ : St} {i : Nat} {x : V} : ∀ {vs : List Nat}, (wipe σ vs)[i]? = some (some x) → σ[i]? = some (some x) ∧ i ∉ vs
  | [], h => ⟨h, by simp⟩
  | v :: vs, h => by
    unfold wipe at h
    by_cases hi : v = i
    · subst hi
      by_cases hv : v < (wipe σ vs).length
      · rw [List.getElem?_set_self hv] at h; cases h
      · rw [List.getElem?_eq_none (by simpa using hv)] at h; cases h
    · rw [List.getElem?_set_ne hi] at h
      obtain ⟨h1, h2⟩ := wipe_some h
      exact ⟨h1, by simp only [List.mem_cons, not_or]; exact ⟨fun e => hi e.symm, h2⟩⟩
abbrev Cx.blk (X : Cx) (s : Shared) (H : Hp) (scope : Scope) (cenv : Env) (fp : List Addr) : Cx := { X with s_0 := s, H_0 := H, env := cenv, outer := X.stack, ex := fp, fn := fun x => scope.names.lookup x == some .cell, pn := [], xe := fun _ _ => False }
section
variable {X : Cx} {pins : List (Addr × Obj)} {σ : St} {H : Hp} {s : Shared}
theorem block_start {scope : Scope} {own : List (Str × Nat)} {fp : List Addr} (I : Inv X pins σ H s) (ok : BlkOk X.N X.env.scope scope own) (hN : X.N.Nodup) (hfp : ∀ b ∈ fp, FpOk X pins H b ∧ b < s.heap.objs.size) :
    Inv (X.blk s H scope (compEnvC scope (cellsFrom (s.heap.objs.size + 1) scope.names (cloFrom X.env.cells scope.names [])) s.heap.objs.size X.env) fp) [] (wipe σ (own.map (·.2))) H { s with heap := pushCells (s.heap.push { cls := .type "dict", data := .dict #[] }) scope.names } := by
  have hfree : ∀ y ∈ scope.names, y.2 = .free → ∃ c, X.env.cells.lookup y.1 = some c := fun y hy e => by
    rcases ok.free y hy e with k | k
    · exact I.ok.has _ (.inl k)
    · exact I.ok.has _ (.inr k)
  generalize hcenv : compEnvC scope (cellsFrom (s.heap.objs.size + 1) scope.names (cloFrom X.env.cells scope.names [])) s.heap.objs.size X.env = cenv
  have kp : ∀ b o, s.heap.get? b = some o → (pushCells (s.heap.push { cls := .type "dict", data := .dict #[] }) scope.names).get? b = some o := fun b o e => pushCells_keeps _ _ _ _ (Heap.get?_push_of_some _ e)
  have hL : cenv.locals = s.heap.objs.size := by rw [← hcenv]; rfl
  have hcl : cenv.cells = cellsFrom (s.heap.objs.size + 1) scope.names (cloFrom X.env.cells scope.names []) := by rw [← hcenv]; rfl
  have hsc : cenv.scope = relS scope X.env.scope := by rw [← hcenv]; rfl
  rw [← Heap.size_push s.heap { cls := .type "dict", data := .dict #[] }] at hcl
  have cm : ∀ {y c}, (y, c) ∈ cloFrom X.env.cells scope.names [] → X.env.cells.lookup y = some c ∧ c < s.heap.objs.size := fun {y c} hm => by
    rcases cloFrom_mem hm with hm | ⟨h1, rfl⟩
    · cases hm
    · obtain ⟨c, hc⟩ := hfree _ h1 rfl
      rw [hc]
      obtain ⟨w, z⟩ := I.cell _ _ hc
      exact ⟨rfl, z.lt⟩
  have mem : ∀ {y c}, cenv.cells.lookup y = some c → (X.env.cells.lookup y = some c ∧ c < s.heap.objs.size) ∨ (s.heap.objs.size + 1 ≤ c ∧ CellAt (pushCells (s.heap.push { cls := .type "dict", data := .dict #[] }) scope.names) c none) := fun {y c} e => by
    rw [hcl] at e
    rcases cells_mem (PySem.mem_of_lookup e) with hm | ⟨_, h2, h3⟩
    · exact .inl (cm hm)
    · rw [Heap.size_push] at h2; exact .inr ⟨h2, h3⟩
  have look : ∀ {y}, scope.names.lookup y = some .free → ∃ c, cenv.cells.lookup y = some c ∧ X.env.cells.lookup y = some c := fun {y} hl => by
    have hy : (y, NameKind.free) ∈ scope.names := PySem.mem_of_lookup hl
    obtain ⟨c', e'⟩ := mem_lookup (cells_acc (names := scope.names) (n := (s.heap.push { cls := .type "dict", data := .dict #[] }).objs.size) (cloFrom_has (cells := X.env.cells) (acc := []) hy))
    rw [← hcl] at e'
    refine ⟨c', e', ?_⟩
    rw [hcl] at e'
    rcases cells_mem (PySem.mem_of_lookup e') with hm | ⟨h1, _, _⟩
    · exact (cm hm).1
    · have := ok.uniq _ h1
      rw [hl] at this; cases this
  have okB : (X.blk s H scope cenv fp).Ok := by
    refine ⟨I.ok.mod, by show cenv.scope.kind = _; rw [hsc]; exact ok.kind, by show cenv.globals = _; rw [← hcenv]; exact I.ok.glob, by show cenv.builtins = _; rw [← hcenv]; exact I.ok.blt, by show s.heap.objs.size ≤ cenv.locals; rw [hL]; exact Nat.le_refl _,
      fun y z c e1 e2 => ?_, fun y hy => ?_, fun y c z e => ?_, I.ok.hd, I.ok.frames, .inl rfl, fun b hb => ⟨?_, fun y c e z => ?_⟩, I.bs, Nat.le_trans I.ok.bsz I.sz, fun b o e hb => ?_, fun b hb z => ?_, I.stack, I.stkFree⟩
    · have e1 : cenv.cells.lookup y = some c := e1
      have e2 : cenv.cells.lookup z = some c := e2
      rw [hcl] at e1 e2
      refine cells_inj (fun p hp => ?_) (fun y z c a b => I.ok.inj y z c (cm a).1 (cm b).1) (PySem.mem_of_lookup e1) (PySem.mem_of_lookup e2)
      rw [Heap.size_push]
      exact Nat.lt_succ_of_lt (cm (y := p.1) (c := p.2) hp).2
    · show ∃ c, cenv.cells.lookup y = some c
      have key : ∀ k, cenv.kindOf y = some k → (k = .cell ∨ k = .free) → ∃ c, cenv.cells.lookup y = some c := fun k hk hk' => by
        unfold Env.kindOf at hk
        rw [hsc] at hk
        obtain ⟨k', e, r⟩ := lookup_relS hk
        have : k' = .cell ∨ k' = .free := by
          rcases r with rfl | ⟨rfl, _⟩
          · exact hk'
          · exact .inr rfl
        rcases this with rfl | rfl
        · obtain ⟨c, hm⟩ := cells_has (n := (s.heap.push { cls := .type "dict", data := .dict #[] }).objs.size) (acc := cloFrom X.env.cells scope.names []) (PySem.mem_of_lookup e)
          obtain ⟨c', e'⟩ := mem_lookup hm
          exact ⟨c', by rw [hcl]; exact e'⟩
        · obtain ⟨c, h1, _⟩ := look e
          exact ⟨c, h1⟩
      rcases hy with hy | hy
      · exact key _ hy (.inl rfl)
      · exact key _ hy (.inr rfl)
    · have z : (scope.names.lookup y == some NameKind.cell) = true := z
      have z : scope.names.lookup y = some .cell := by simpa using z
      have e : cenv.cells.lookup y = some c := e
      rw [hcl] at e
      rcases cells_mem (PySem.mem_of_lookup e) with hm | ⟨_, h2, _⟩
      · rcases cloFrom_mem hm with hm | ⟨h1, _⟩
        · cases hm
        · have q := ok.uniq _ h1
          rw [z] at q; cases q
      · rw [Heap.size_push] at h2
        exact Nat.le_of_succ_le h2
    · show b ≠ cenv.locals
      rw [hL]; exact Nat.ne_of_lt (hfp b hb).2
    · have e : cenv.cells.lookup y = some c := e
      rcases mem e with ⟨h1, _⟩ | ⟨h1, _⟩
      · exact (hfp b hb).1.2.2.2.2.1 y c h1 z
      · have h2 : s.heap.objs.size + 1 ≤ b := by rw [← z]; exact h1
        exact absurd (Nat.lt_of_lt_of_le (hfp b hb).2 (Nat.le_of_succ_le h2)) (Nat.lt_irrefl _)
    · rcases (hfp b hb).1.2.2.2.1 with z | z
      · exact I.ok.noex b o e z
      · exact absurd (Nat.lt_of_lt_of_le (Heap.lt_size e) (Nat.le_trans I.ok.bsz z)) (Nat.lt_irrefl _)
    · rcases List.mem_cons.mp (I.stkSub b z) with z | z
      · exact (hfp b hb).1.2.1 z
      · exact (hfp b hb).1.2.2.1 z
  refine ⟨okB, rfl, I.bare, Un.kept kp, ⟨fun _ => none, ?_, fun i y av e1 e2 e3 => ?_⟩, fun y c e => ?_, ?_, fun y c e => ?_, fun p hp => ?_, I.hok.kept kp, by rw [wipe_length]; exact I.len⟩
  · show Heap.Ns _ cenv.locals _
    rw [hL]
    exact Heap.Ns.keeps (Heap.Ns.new ..) fun b o e => pushCells_keeps _ _ _ _ e
  · obtain ⟨e2, hne⟩ := wipe_some e2
    have hfr : scope.names.lookup y = some .free ∧ (cenv.kindOf y = some .cell ∨ cenv.kindOf y = some .free) := by
      have key : ∀ k, cenv.scope.names.lookup y = some k → k = .local ∨ k = .cell ∨ k = .free → scope.names.lookup y = some .free ∧ (cenv.kindOf y = some .cell ∨ cenv.kindOf y = some .free) := fun k hk hk' => by
        have hk0 := hk
        rw [hsc] at hk
        obtain ⟨k', e, r⟩ := lookup_relS hk
        have no : ¬ (k' = .local ∨ k' = .cell) := fun hh => by
          rcases ok.own _ (PySem.mem_of_lookup e) hh with e' | e'
          · obtain ⟨p, hp, hpy⟩ := List.mem_map.mp e'
            have e3 := ok.ix p hp
            have : p.1 = y := hpy
            rw [this] at e3
            exact hne (List.mem_map.mpr ⟨p, hp, nodup_ix hN e3 e1⟩)
          · exact e' (List.mem_of_getElem? e1)
        rcases r with rfl | ⟨rfl, rfl⟩
        · rcases hk' with rfl | rfl | rfl
          · exact absurd (.inl rfl) no
          · exact absurd (.inr rfl) no
          · exact ⟨e, .inr hk0⟩
        · exact ⟨e, .inl hk0⟩
      have e3 : Vis cenv.scope y := e3
      rcases e3 with e3 | e3 | e3
      · exact key _ e3 (.inl rfl)
      · exact key _ e3 (.inr (.inl rfl))
      · exact key _ e3 (.inr (.inr rfl))
    obtain ⟨m, hn, hl⟩ := I.loc
    have hvis : Vis X.env.scope y := (ok.free _ (PySem.mem_of_lookup hfr.1) rfl).elim (fun k => .inr (.inl k)) (fun k => .inr (.inr k))
    obtain ⟨w, r, q⟩ := hl i y av e1 e2 hvis
    refine ⟨w, r, .inr ⟨hfr.2, ?_⟩⟩
    obtain ⟨c, h1, h2⟩ := look hfr.1
    rcases q with ⟨k, _⟩ | ⟨_, c', e', z⟩
    · have k : X.env.scope.names.lookup y = some .local := k
      rcases ok.free _ (PySem.mem_of_lookup hfr.1) rfl with k' | k' <;> rw [show X.env.scope.names.lookup y = _ from k'] at k <;> cases k
    · rw [h2] at e'; cases e'
      exact ⟨c, h1, z.keeps kp⟩
  · have e : cenv.cells.lookup y = some c := e
    rcases mem e with ⟨h1, _⟩ | ⟨_, z⟩
    · obtain ⟨w, z⟩ := I.cell y c h1
      exact ⟨w, z.keeps kp⟩
    · exact ⟨_, z⟩
  · show H cenv.locals = none
    rw [hL]; exact I.hok.fresh (Nat.le_refl _)
  · have e : cenv.cells.lookup y = some c := e
    rcases mem e with ⟨h1, _⟩ | ⟨h1, _⟩
    · exact I.freeC y c h1
    · exact I.hok.fresh (Nat.le_of_succ_le h1)
  · exact absurd (show p ∈ ([] : List (Addr × Obj)) ++ [] from hp) (by simp)
theorem app_ok {E : Value → Shared → Prop} {D : Addr} {xs : List V} {y : V} {v : Value} {Q : Value → Shared → Prop} (I : Inv X pins σ H s) (hD : H D = some (.lst xs)) (hz : xs.length < sizeLine) (r : RelV y v)
    (h : ∀ s', Inv X pins σ (upd H D (.lst (xs ++ [y]))) s' → Q .none s') : wpAny (model X.prog X.w) X.A (call (.builtin "list.append") [.ref D, v]) Q E s := by
  obtain ⟨hz', its, n, ri, e⟩ := I.hok D _ hD
  have hl := ri.length
  refine append_at (hsz := by rw [List.size_toArray]; omega) e fun h' sb ho' => ?_
  refine h { s with heap := h' } (I.write (t' := s.toks) (by rw [hD]; trivial) (.inl rfl) (fun b u hb q => (sb.2 b hb).trans q) ⟨_, ho'⟩ ⟨by rw [List.length_append]; exact hz, its ++ [v], n + 1, ri.append (.cons r .nil), ?_⟩)
  rw [ho']
  simp
def PTs (X : Cx) (ifs : List Expr) (t : TT) : Prop :=
  ∀ (pins : List (Addr × Obj)) (s : Shared) (σ : St) (H : Hp) (Q : Bool → Hp → Prop), Inv X pins σ H s → t σ H Q →
    wpAny (model X.prog X.w) X.A (forIn ifs true fun c r => if r = true then do let ok ← isTrue c X.env (eval c X.env); pure (ForInStep.yield ok) else pure (ForInStep.yield r)) (TP X pins σ Q) X.xe s
def tYes : TT := fun _ H Q => Q true H
theorem pts_nil : PTs X [] tYes := fun _ _ _ H _ I h => wpAny_tests_nil ⟨H, I, h⟩
theorem pts_one {c : Expr} {t : TT} (h : PT X c t) : PTs X [c] t := fun pins s σ H Q I hw => wpAny_tests_one (h pins s σ H Q I hw)
end
theorem thnF {α : Type} {t : Sem α} {Q Q' : α → Shared → Prop} {M : Model} {A : Around} {E : Value → Shared → Prop} {s : Shared} (h : wpAny M A t Q (fun _ _ => False) s) (hQ : ∀ a s, Q a s → Q' a s) : wpAny M A t Q' E s := wpAny_mono h hQ fun _ _ z => False.elim z
theorem compLoop_any {prog : Program} {w : World} {A : Around} {R : Result → Shared → Prop} {s : Shared} {elt target iter : Expr} {ifs : List Expr} {scope : Scope} {pos : Pos} {it acc : Value} {env : Env} (I : Nat → Shared → Prop)
    (turn : ∀ n s, I n s → wpAny (model prog w) A (pyNext it) (fun r s₁ => match r with
      | none => R (.ok .next) s₁
      | some v => wpAny (model prog w) A (letOwnedTupleGo target it v) (fun _ s₁' => wpAny (model prog w) A (assign target env v) (fun _ s₂ =>
          wpAny (model prog w) A (forIn ifs true fun c r => if r = true then do let ok ← isTrue c env (eval c env); pure (ForInStep.yield ok) else pure (ForInStep.yield r)) (fun ok s₃ =>
            if ok = true then wpAny (model prog w) A (eval elt env) (fun x s₄ =>
              wpAny (model prog w) A (call (.builtin "list.append") [acc, x]) (fun _ s₅ => ∃ m, m < n ∧ I m s₅) (notedBy (model prog w) A env fun e s' => R (.error e) s') s₄) (notedBy (model prog w) A env fun e s' => R (.error e) s') s₃
            else ∃ m, m < n ∧ I m s₃) (notedBy (model prog w) A env fun e s' => R (.error e) s') s₂) (notedBy (model prog w) A env fun e s' => R (.error e) s') s₁') (notedBy (model prog w) A env fun e s' => R (.error e) s') s₁) (notedBy (model prog w) A env fun e s' => R (.error e) s') s)
    (n : Nat) (h : I n s) :
    codeAny (model prog w) A (.compLoop (.ListComp elt [⟨target, iter, ifs, 0⟩] scope pos) 0 it acc env) R s := by
  refine codeAny_loop rfl I (fun n s hI => ?_) n h
  show wpAny _ A ((compTurn (.ListComp elt [⟨target, iter, ifs, 0⟩] scope pos) 0 it acc env).onRaise (fun x => do noteFrame x env; theTreesLotGoes x)) _ _ s
  refine wpAny_noted ?_
  rw [compTurn_list]
  refine wpAny_bind (wpAny_standAt (wpAny_bind (wpAny_mono (turn n s hI) (fun r s₁ h₁ => ?_) fun _ _ h' => h')))
  cases r with
  | none => exact wpAny_pure h₁
  | some v =>
    refine wpAny_bind (wpAny_mono h₁ (fun _ s₁' h₁' => ?_) fun _ _ h' => h')
    refine wpAny_bind (wpAny_mono h₁' (fun _ s₂ h₂ => wpAny_bind (wpAny_mono h₂ (fun ok s₃ h₃ => ?_) fun _ _ h' => h')) fun _ _ h' => h')
    cases ok with
    | false => exact wpAny_pure ⟨rfl, h₃⟩
    | true =>
      exact wpAny_bind (wpAny_bind (wpAny_mono h₃ (fun x s₄ h₄ => wpAny_bind (wpAny_mono h₄ (fun _ s₅ h₅ => wpAny_pure (wpAny_pure ⟨rfl, h₅⟩)) fun _ _ h' => h')) fun _ _ h' => h'))
section
variable {X : Cx}
def tLc (wi : TI) (g : TG) (tt : TT) (te : TE) (vs : List Nat) : TE := fun σ H Q => wi σ H fun J H1 => ∀ D, H1 D = none → ∃ W : Nat → Nat → Hp → Prop, (∃ m, W 0 m (upd H1 D (.lst []))) ∧ ∀ i m H, W i m H →
  (J.stop i H ∧ Q (.ref D) H) ∨ (J.go i H ∧ ∃ Nx : Hp → Prop, (∀ H', Nx H' → ∃ m', m' < m ∧ W (i + 1) m' H') ∧ ∀ x H', J.yld i H x H' → g x (wipe σ vs) H' fun σ2 H2 => wipe σ2 vs = wipe σ vs ∧ tt σ2 H2 fun b H3 =>
    if b = true then te σ2 H3 fun y H4 => ∃ acc, H4 D = some (.lst acc) ∧ acc.length < sizeLine ∧ Nx (upd H4 D (.lst (acc ++ [y]))) else Nx H3)
theorem lc_core {pins : List (Addr × Obj)} {s : Shared} {σ : St} {H : Hp} {Q : VK} {elt tg iter : Expr} {ifs : List Expr} {scope : Scope} {own : List (Str × Nat)} {pos pos' : Pos} {wi : TI} {g : TG} {tt : TT} {te : TE} {use : Option (Value → Sem Unit)} {Qf : Value → Shared → Prop}
    (hc : X.calm = true) (hN : X.N.Nodup) (I : Inv X pins σ H s) (hi : PI X tg iter wi) (ok : BlkOk X.N X.env.scope scope own)
    (hg : ∀ (s : Shared) (H : Hp) (C : Addr) (cl : List (Str × Addr)) (fp : List Addr), PG (X.blk s H scope (compEnvC scope cl C X.env) fp) tg g) (ht : ∀ (s : Shared) (H : Hp) (C : Addr) (cl : List (Str × Addr)) (fp : List Addr), PTs (X.blk s H scope (compEnvC scope cl C X.env) fp) ifs tt)
    (he : ∀ (s : Shared) (H : Hp) (C : Addr) (cl : List (Str × Addr)) (fp : List Addr), PE (X.blk s H scope (compEnvC scope cl C X.env) fp) elt te) (hs : ∀ x, foldedSetIterable iter X.env x = pure x)
    (h : tLc wi g tt te (own.map (·.2)) σ H Q)
    (hRR : ∀ D C s' m H', Inv X pins σ H' s' → Q (.ref D) H' → s'.heap.Ns C m → FpOk X pins H' C → compPost (model X.prog X.w) X.A X.xe use Qf (.ref D) C (.ok .next) s') :
    wpAny (model X.prog X.w) X.A (comprehension (.ListComp elt [⟨tg, iter, ifs, 0⟩] scope pos) scope X.env pos' (newList []) false (eval iter X.env) use) Qf X.xe s := by
  have hfree : ∀ y ∈ scope.names, y.2 = .free → ∃ c, X.env.cells.lookup y.1 = some c := fun y hy e => by
    rcases ok.free y hy e with k | k
    · exact I.ok.has _ (.inl k)
    · exact I.ok.has _ (.inr k)
  refine wpAny_comprehension_free (use := use) rfl hs (closure_ok hfree) ok.kind (fun y hy e => by rw [ok.uniq y hy, e])
    (thn (hi pins s σ H _ I h) fun xv s1 hx => thn hx fun itv s2 h2 => ?_)
  obtain ⟨it, fp, tn, J, H2, e, I2, T, st2, f2, q⟩ := h2
  subst e
  refine wpAny_newObj_type (newEnv_comp ?_) (by show 0 ≤ sizeLine; decide)
  generalize hD : s2.heap.objs.size = D
  have hDn : H2 D = none := I2.hok.fresh (Nat.le_of_eq hD)
  obtain ⟨W, ⟨m0, w0⟩, turn⟩ := q D hDn
  -- the new list
  generalize hs3 : ({ s2 with heap := s2.heap.push { cls := .type "list", data := .seq ([] : List Value).toArray } } : Shared) = s3
  have I3 : Inv X pins σ (upd H2 D (.lst [])) s3 := by
    rw [← hs3]
    refine I2.laid (t' := s2.toks) (fun b o e => Heap.get?_push_of_some _ e) (Nat.le_of_eq hD) ⟨Nat.zero_le _, [], 0, .nil, ?_⟩
    rw [← hD]
    exact Heap.get?_push_size _ rfl
  have h3 : s3.heap = s2.heap.push { cls := .type "list", data := .seq ([] : List Value).toArray } := by rw [← hs3]
  have sz : ∀ b ∈ fp, b < s2.heap.objs.size := fun b hb => by
    obtain ⟨o, e, _⟩ := T.obj _ _ st2 b hb
    exact Heap.lt_size e
  have f3 : ∀ b ∈ fp, FpOk X pins (upd H2 D (.lst [])) b ∧ b < s3.heap.objs.size := fun b hb => by
    have hlt := sz b hb
    refine ⟨⟨?_, (f2 b hb).2⟩, by rw [h3, Heap.size_push]; exact Nat.lt_succ_of_lt hlt⟩
    rw [upd_ne (by rw [← hD]; exact Nat.ne_of_lt hlt)]
    exact (f2 b hb).1
  have st3 : tn 0 s3.heap := T.keep _ _ _ st2 fun b _ o e => by rw [h3]; exact Heap.get?_push_of_some _ e
  have I4 := block_start I3 ok hN f3
  have pg := hg s3 (upd H2 D (.lst [])) s3.heap.objs.size (cellsFrom (s3.heap.objs.size + 1) scope.names (cloFrom X.env.cells scope.names [])) fp
  have pt := ht s3 (upd H2 D (.lst [])) s3.heap.objs.size (cellsFrom (s3.heap.objs.size + 1) scope.names (cloFrom X.env.cells scope.names [])) fp
  have pe := he s3 (upd H2 D (.lst [])) s3.heap.objs.size (cellsFrom (s3.heap.objs.size + 1) scope.names (cloFrom X.env.cells scope.names [])) fp
  show codeAny _ _ (.compStart (.ListComp elt [⟨tg, iter, ifs, 0⟩] scope pos) 0 (.ref it) (.ref D) (compEnvC scope (cellsFrom (s3.heap.objs.size + 1) scope.names (cloFrom X.env.cells scope.names [])) s3.heap.objs.size X.env)) (compPost (model X.prog X.w) X.A X.xe use Qf (.ref D) s3.heap.objs.size) { s3 with heap := pushCells (s3.heap.push { cls := .type "dict", data := .dict #[] }) scope.names }
  have nfp : ∀ b ∈ fp, (upd H2 D (.lst [])) b = none := fun b hb => (f3 b hb).1.1
  generalize hce : compEnvC scope (cellsFrom (s3.heap.objs.size + 1) scope.names (cloFrom X.env.cells scope.names [])) s3.heap.objs.size X.env = ce at I4 pg pt pe ⊢
  have cL : ce.locals = s3.heap.objs.size := by subst hce; rfl
  generalize hH3 : upd H2 D (.lst []) = H3 at I3 I4 pg pt pe w0 nfp f3
  generalize hs4 : ({ s3 with heap := pushCells (s3.heap.push { cls := .type "dict", data := .dict #[] }) scope.names } : Shared) = s4 at I4 ⊢
  have st4 : tn 0 s4.heap := T.keep _ _ _ st3 fun b _ o e => by rw [← hs4]; exact pushCells_keeps _ _ _ _ (Heap.get?_push_of_some _ e)
  have stat : ∀ {σ' : St} {H' : Hp} {s' : Shared}, Inv (X.blk s3 H3 scope ce fp) [] σ' H' s' → (∀ b ∈ fp, H' b = none) → ∀ b ∈ fp, FpOk (X.blk s3 H3 scope ce fp) [] H' b := fun {σ' H' s'} I' hn b hb =>
    ⟨hn b hb, (I'.ok.exf b hb).1, I'.ok.exfs b hb, .inl hb, fun x c e => (I'.ok.exf b hb).2 x c e, fun p hp => absurd (show p ∈ ([] : List (Addr × Obj)) ++ [] from hp) (by simp)⟩
  have loop : codeAny (model X.prog X.w) X.A (.compLoop (.ListComp elt [⟨tg, iter, ifs, 0⟩] scope pos) 0 (.ref it) (.ref D) ce) (compPost (model X.prog X.w) X.A X.xe use Qf (.ref D) s3.heap.objs.size) s4 := by
    refine compLoop_any (fun n s' => ∃ i H', Inv (X.blk s3 H3 scope ce fp) [] (wipe σ (own.map (·.2))) H' s' ∧ tn i s'.heap ∧ (∀ b ∈ fp, H' b = none) ∧ W i n H') ?_ m0 ⟨0, H3, I4, st4, nfp, w0⟩
    rintro n s5 ⟨i, H5, I5, st5, n5, w5⟩
    rcases turn i n H5 w5 with ⟨stop, qq⟩ | ⟨go, Nx, hNx, step⟩
    · have td := T.done (X.blk s3 H3 scope ce fp) rfl rfl rfl hc i [] s5 _ H5 (fun _ _ => False) I5 (stat I5 n5) st5 stop
      refine thnF td fun r s6 ⟨hr, I6⟩ => ?_
      subst hr
      -- back in the def's context
      have I7 : Inv X pins σ H5 s6 := I3.call' (ch := fp) I6.os I6.base I6.hok I6.bare fun b hb => ⟨(f3 b hb).1.2.2.2.1, (f3 b hb).1.2.1, (f3 b hb).1.2.2.2.2.1, (f3 b hb).1.2.2.2.2.2⟩
      have nC : H5 s3.heap.objs.size = none := by
        have z : H5 ce.locals = none := I6.free
        rw [cL] at z
        exact z
      obtain ⟨m, hn, _⟩ := I6.loc
      have hn : s6.heap.Ns ce.locals m := hn
      rw [cL] at hn
      exact hRR D s3.heap.objs.size s6 m H5 I7 qq hn (I3.fpOk (Nat.le_refl _) nC)
    · have ti := T.item (X.blk s3 H3 scope ce fp) rfl rfl rfl hc i [] s5 _ H5 (fun _ _ => False) I5 (stat I5 n5) st5 go
      refine thnF ti fun r s6 ⟨u, hr, h6⟩ => ?_
      subst hr
      refine thnF h6 fun _ s7 ⟨x, H7, I7, r7, y7, st7, n7⟩ => ?_
      have I7' := I7.pinned (stat I7 n7) (T.obj _ _ st7)
      refine thnF (pg _ s7 _ H7 x u _ I7' r7 (step x H7 y7)) fun _ s8 ⟨σ8, H8, I8, hw8, q8⟩ => ?_
      refine thnF (pt _ s8 σ8 H8 _ I8 q8) fun b s9 ⟨H9, I9, q9⟩ => ?_
      -- the turn's end
      have fin : ∀ {s' : Shared} {H' : Hp}, Inv (X.blk s3 H3 scope ce fp) ([] ++ pinsAt fp s7.heap) σ8 H' s' → Nx H' → ∃ m, m < n ∧ ∃ i H', Inv (X.blk s3 H3 scope ce fp) [] (wipe σ (own.map (·.2))) H' s' ∧ tn i s'.heap ∧ (∀ b ∈ fp, H' b = none) ∧ W i m H' := fun {s' H'} I' nx => by
        obtain ⟨m', hm, w'⟩ := hNx H' nx
        have pin' : ∀ b ∈ fp, ∀ o, s7.heap.get? b = some o → s'.heap.get? b = some o ∧ H' b = none := fun b hb o e =>
          let z := I'.pin (b, o) (List.mem_append_right _ (List.mem_append_right _ (mem_pinsAt hb e)))
          ⟨z.1, z.2.1⟩
        have hl : (wipe σ (own.map (·.2))).length = σ8.length := by rw [← hw8, wipe_length]
        refine ⟨m', hm, i + 1, H', (I'.unpinned (pins := [])).weak hl (fun j v e => ?_), T.keep _ _ _ st7 fun b hb o e => (pin' b hb o e).1, fun b hb => ?_, w'⟩
        · rw [← hw8] at e
          exact (wipe_some e).1
        · obtain ⟨o, e, _⟩ := T.obj _ _ st7 b hb
          exact (pin' b hb o e).2
      cases b with
      | false =>
        simp only [Bool.false_eq_true, if_false] at q9 ⊢
        exact fin I9 q9
      | true =>
        simp only [if_true] at q9 ⊢
        refine thnF (pe _ s9 σ8 H9 _ I9 q9) fun z s10 ⟨yv, H10, I10, r10, acc, hD10, hz10, nx⟩ => ?_
        exact app_ok (X := X.blk s3 H3 scope ce fp) I10 hD10 hz10 r10 fun s11 I11 => fin I11 nx
  exact codeAny_compStart_list loop (T.self X.A 0 _ _ _ st4 loop)
theorem pe_lc {elt tg iter : Expr} {ifs : List Expr} {scope : Scope} {own : List (Str × Nat)} {pos : Pos} {wi : TI} {g : TG} {tt : TT} {te : TE} (hc : X.calm = true) (hN : X.N.Nodup) (hi : PI X tg iter wi) (ok : BlkOk X.N X.env.scope scope own)
    (hg : ∀ (s : Shared) (H : Hp) (C : Addr) (cl : List (Str × Addr)) (fp : List Addr), PG (X.blk s H scope (compEnvC scope cl C X.env) fp) tg g) (ht : ∀ (s : Shared) (H : Hp) (C : Addr) (cl : List (Str × Addr)) (fp : List Addr), PTs (X.blk s H scope (compEnvC scope cl C X.env) fp) ifs tt)
    (he : ∀ (s : Shared) (H : Hp) (C : Addr) (cl : List (Str × Addr)) (fp : List Addr), PE (X.blk s H scope (compEnvC scope cl C X.env) fp) elt te) (hs : ∀ x, foldedSetIterable iter X.env x = pure x := by intro _; rfl) :
    PE X (.ListComp elt [⟨tg, iter, ifs, 0⟩] scope pos) (tLc wi g tt te (own.map (·.2))) := by
  intro pins s σ H Q I h
  rw [eval_ListComp]
  refine lc_core hc hN I hi ok hg ht he hs h fun D C s' m H' I' q hn f => ⟨m, hn, fun h'' sb => ?_⟩
  obtain ⟨f0, f1, f2, f3, f4, f5⟩ := f
  exact ⟨.ref D, H', I'.turned (t' := s'.toks) (fun b o hb e => (sb.2 b hb).trans e) f0 f1 f3 f4 f5, rfl, q⟩
theorem ps_setLc {i : Nat} {y : Str} {py : Pos} {elt tg iter : Expr} {ifs : List Expr} {scope : Scope} {own : List (Str × Nat)} {pos spos : Pos} {wi : TI} {g : TG} {tt : TT} {te : TE} (hc : X.calm = true) (hN : X.N.Nodup) (hy : X.N[i]? = some y) (hyl : X.env.scope.names.lookup y = some .local)
    (hsw : swapsWith (.ListComp elt [⟨tg, iter, ifs, 0⟩] scope pos) (some (.Name y py)) spos.line X.env = pure true) (hi : PI X tg iter wi) (ok : BlkOk X.N X.env.scope scope own)
    (hg : ∀ (s : Shared) (H : Hp) (C : Addr) (cl : List (Str × Addr)) (fp : List Addr), PG (X.blk s H scope (compEnvC scope cl C X.env) fp) tg g) (ht : ∀ (s : Shared) (H : Hp) (C : Addr) (cl : List (Str × Addr)) (fp : List Addr), PTs (X.blk s H scope (compEnvC scope cl C X.env) fp) ifs tt)
    (he : ∀ (s : Shared) (H : Hp) (C : Addr) (cl : List (Str × Addr)) (fp : List Addr), PE (X.blk s H scope (compEnvC scope cl C X.env) fp) elt te) (hs : ∀ x, foldedSetIterable iter X.env x = pure x := by intro _; rfl) :
    PS X (.Assign [.Name y py] (.ListComp elt [⟨tg, iter, ifs, 0⟩] scope pos) spos) (tAsg (tLc wi g tt te (own.map (·.2))) (gName i)) := by
  intro pins s σ H D I h
  rw [exec_Assign_Name_used _ _ _ _ hsw]
  refine wpAny_bind (wpAny_standAt (wpAny_bind ?_))
  show wpAny _ X.A (do let _ ← comprehension (.ListComp elt [⟨tg, iter, ifs, 0⟩] scope pos) scope X.env (firstIterPos [⟨tg, iter, ifs, 0⟩] pos) (newList []) false (eval iter X.env) (some (assign (.Name y py) X.env))) _ _ s
  have h : tLc wi g tt te (own.map (·.2)) σ H (fun x H1 => gName i x σ H1 D.nx) := h
  refine wpAny_bind (thn (lc_core (Qf := fun _ s' => SP X pins D .next s') hc hN I hi ok hg ht he hs h fun L C s' m H' I' q hn f => ?_) fun _ s' hq => wpAny_pure (wpAny_pure hq))
  show wpAny _ _ (assign (.Name y py) X.env (.ref L)) _ _ _
  refine wpAny_assign_Name (store_ok2 (v := V.ref L) I' hN hy (.inl hyl) rfl (fun s2 I2 ⟨a, sb, ha⟩ => ?_) (.inr hyl))
  obtain ⟨f0, f1, f2, f3, f4, f5⟩ := f
  have haC : C ≠ a := by
    rcases ha with z | z
    · rw [z]; exact f1
    · exact fun e => f4 y a z e.symm
  refine ⟨m, hn.sameBut sb haC, fun h3 sb3 => ?_⟩
  exact ⟨_, H', I2.turned (t' := s2.toks) (fun b o hb e => (sb3.2 b hb).trans e) f0 f1 f3 f4 f5, q⟩
theorem sw_true {elt : Expr} {gs : List Comprehension} {scope : Scope} {pos py : Pos} {y : Str} {l : Nat} {env : Env} (hk : env.scope.kind = .function) (hy : env.scope.names.lookup y = some .local) (hl : (py.line == pos.line) = true)
    (ha : (scope.names.any fun (n, k) => n == y && (k == .local || k == .cell)) = false) : swapsWith (.ListComp elt gs scope pos) (some (.Name y py)) l env = pure true := by
  have ky : env.kindOf y = some .local := hy
  have hb : env.blockKind = .function := by unfold Env.blockKind; rw [hk]; rfl
  unfold swapsWith
  simp only [hb, ky, ha, Expr.pos, hl]
  rfl
end
theorem lc_range {lo : Int} {n : Nat} {g : TG} {tt : TT} {te : TE} {vs : List Nat} {σ : St} {H1 : Hp} {D : Addr} {Qd : Hp → Prop} (Pv : Nat → Hp → Prop) (h0 : Pv 0 (upd H1 D (.lst [])))
    (hs : ∀ i H, i < n → Pv i H → g (.int (lo + i)) (wipe σ vs) H fun σ2 H2 => wipe σ2 vs = wipe σ vs ∧ tt σ2 H2 fun b H3 =>
      if b = true then te σ2 H3 fun y H4 => ∃ acc, H4 D = some (.lst acc) ∧ acc.length < sizeLine ∧ Pv (i + 1) (upd H4 D (.lst (acc ++ [y]))) else Pv (i + 1) H3) (hd : ∀ H, Pv n H → Qd H) :
    ∃ W : Nat → Nat → Hp → Prop, (∃ m, W 0 m (upd H1 D (.lst []))) ∧ ∀ i m H, W i m H →
      ((Itr lo n).stop i H ∧ Qd H) ∨ ((Itr lo n).go i H ∧ ∃ Nx : Hp → Prop, (∀ H', Nx H' → ∃ m', m' < m ∧ W (i + 1) m' H') ∧ ∀ x H', (Itr lo n).yld i H x H' → g x (wipe σ vs) H' fun σ2 H2 => wipe σ2 vs = wipe σ vs ∧ tt σ2 H2 fun b H3 =>
        if b = true then te σ2 H3 fun y H4 => ∃ acc, H4 D = some (.lst acc) ∧ acc.length < sizeLine ∧ Nx (upd H4 D (.lst (acc ++ [y]))) else Nx H3) := by
  refine ⟨fun i m H => m = n - i ∧ i ≤ n ∧ Pv i H, ⟨n, by simp, Nat.zero_le _, h0⟩, ?_⟩
  rintro i m H ⟨rfl, hi, p⟩
  by_cases hlt : i < n
  · refine .inr ⟨hlt, Pv (i + 1), fun H' p' => ⟨n - (i + 1), by omega, rfl, hlt, p'⟩, fun x H' y => ?_⟩
    obtain ⟨e, y⟩ := y
    subst e y
    exact hs i _ hlt p
  · have e : i = n := by omega
    subst e
    exact .inl ⟨Nat.le_refl _, hd H p⟩
theorem lc_list {K : PySem.W.Frag} {a : Addr} {xs : List V} {g : TG} {tt : TT} {te : TE} {vs : List Nat} {σ : St} {H1 : Hp} {D : Addr} {Qd : Hp → Prop} (Pv : Nat → Hp → Prop) (h0 : Pv 0 (upd H1 D (.lst []))) (hl : ∀ i H, i ≤ xs.length → Pv i H → SqL K H a xs)
    (hs : ∀ i x H, xs[i]? = some x → Pv i H → g x (wipe σ vs) H fun σ2 H2 => wipe σ2 vs = wipe σ vs ∧ tt σ2 H2 fun b H3 =>
      if b = true then te σ2 H3 fun y H4 => ∃ acc, H4 D = some (.lst acc) ∧ acc.length < sizeLine ∧ Pv (i + 1) (upd H4 D (.lst (acc ++ [y]))) else Pv (i + 1) H3) (hd : ∀ H, Pv xs.length H → Qd H) :
    ∃ W : Nat → Nat → Hp → Prop, (∃ m, W 0 m (upd H1 D (.lst []))) ∧ ∀ i m H, W i m H →
      ((Itl K a).stop i H ∧ Qd H) ∨ ((Itl K a).go i H ∧ ∃ Nx : Hp → Prop, (∀ H', Nx H' → ∃ m', m' < m ∧ W (i + 1) m' H') ∧ ∀ x H', (Itl K a).yld i H x H' → g x (wipe σ vs) H' fun σ2 H2 => wipe σ2 vs = wipe σ vs ∧ tt σ2 H2 fun b H3 =>
        if b = true then te σ2 H3 fun y H4 => ∃ acc, H4 D = some (.lst acc) ∧ acc.length < sizeLine ∧ Nx (upd H4 D (.lst (acc ++ [y]))) else Nx H3) := by
  refine ⟨fun i m H => m = xs.length - i ∧ i ≤ xs.length ∧ Pv i H, ⟨xs.length, by simp, Nat.zero_le _, h0⟩, ?_⟩
  rintro i m H ⟨rfl, hi, p⟩
  have q := hl i H hi p
  by_cases hlt : i < xs.length
  · refine .inr ⟨⟨xs, xs[i], q, by simp [hlt]⟩, Pv (i + 1), fun H' p' => ⟨xs.length - (i + 1), by omega, rfl, hlt, p'⟩, fun x H' y => ?_⟩
    obtain ⟨e, y⟩ := y
    subst e
    exact hs i x _ (y xs q) p
  · have e : i = xs.length := by omega
    subst e
    exact .inl ⟨⟨xs, q, Nat.le_refl _⟩, hd H p⟩
theorem lc_tup {K : PySem.W.Frag} {a : Addr} {xs : List V} {g : TG} {tt : TT} {te : TE} {vs : List Nat} {σ : St} {H1 : Hp} {D : Addr} {Qd : Hp → Prop} (Pv : Nat → Hp → Prop) (h0 : Pv 0 (upd H1 D (.lst []))) (hl : ∀ i H, i ≤ xs.length → Pv i H → SqT K H a xs)
    (hs : ∀ i x H, xs[i]? = some x → Pv i H → g x (wipe σ vs) H fun σ2 H2 => wipe σ2 vs = wipe σ vs ∧ tt σ2 H2 fun b H3 =>
      if b = true then te σ2 H3 fun y H4 => ∃ acc, H4 D = some (.lst acc) ∧ acc.length < sizeLine ∧ Pv (i + 1) (upd H4 D (.lst (acc ++ [y]))) else Pv (i + 1) H3) (hd : ∀ H, Pv xs.length H → Qd H) :
    ∃ W : Nat → Nat → Hp → Prop, (∃ m, W 0 m (upd H1 D (.lst []))) ∧ ∀ i m H, W i m H →
      ((Itt K a).stop i H ∧ Qd H) ∨ ((Itt K a).go i H ∧ ∃ Nx : Hp → Prop, (∀ H', Nx H' → ∃ m', m' < m ∧ W (i + 1) m' H') ∧ ∀ x H', (Itt K a).yld i H x H' → g x (wipe σ vs) H' fun σ2 H2 => wipe σ2 vs = wipe σ vs ∧ tt σ2 H2 fun b H3 =>
        if b = true then te σ2 H3 fun y H4 => ∃ acc, H4 D = some (.lst acc) ∧ acc.length < sizeLine ∧ Nx (upd H4 D (.lst (acc ++ [y]))) else Nx H3) := by
  refine ⟨fun i m H => m = xs.length - i ∧ i ≤ xs.length ∧ Pv i H, ⟨xs.length, by simp, Nat.zero_le _, h0⟩, ?_⟩
  rintro i m H ⟨rfl, hi, p⟩
  have q := hl i H hi p
  by_cases hlt : i < xs.length
  · refine .inr ⟨⟨xs, xs[i], q, by simp [hlt]⟩, Pv (i + 1), fun H' p' => ⟨xs.length - (i + 1), by omega, rfl, hlt, p'⟩, fun x H' y => ?_⟩
    obtain ⟨e, y⟩ := y
    subst e
    exact hs i x _ (y xs q) p
  · have e : i = xs.length := by omega
    subst e
    exact .inl ⟨⟨xs, q, Nat.le_refl _⟩, hd H p⟩
def blkC (N : List Str) (sc scope : Scope) (own : List (Str × Nat)) : Bool :=
  (match scope.kind with | .function => true | _ => false) && (scope.names.all fun y => decide (scope.names.lookup y.1 = some y.2)) && (own.all fun p => decide (N[p.2]? = some p.1)) &&
    (scope.names.all fun y => match y.2 with
      | .free => (match sc.names.lookup y.1 with | some .cell => true | some .free => true | _ => false)
      | .local => decide (y.1 ∈ own.map (·.1)) || decide (y.1 ∉ N)
      | .cell => decide (y.1 ∈ own.map (·.1)) || decide (y.1 ∉ N)
      | _ => true)
theorem blkOk_by {N : List Str} {sc scope : Scope} {own : List (Str × Nat)} (h : blkC N sc scope own = true) : BlkOk N sc scope own := by
  unfold blkC at h
  simp only [Bool.and_eq_true, List.all_eq_true, decide_eq_true_eq] at h
  obtain ⟨⟨⟨h1, h2⟩, h3⟩, h4⟩ := h
  refine ⟨?_, h2, h3, fun y hy e => ?_, fun y hy e => ?_⟩
  · split at h1
    · assumption
    · cases h1
  · have q := h4 y hy
    simp only [e] at q
    split at q <;> first | exact .inl (by assumption) | exact .inr (by assumption) | cases q
  · have q := h4 y hy
    rcases e with e | e <;> (simp only [e, Bool.or_eq_true, decide_eq_true_eq] at q; exact q)
end L2
namespace L2
open PySem PySem.Spec PyProof.Rows
section
variable {prog : Program} {w : World} {A : Around} {R : Result → Shared → Prop} {s : Shared} {elt t0 i0 t1 i1 : Expr} {ifs0 ifs1 : List Expr} {scope : Scope} {pos : Pos} {it acc : Value} {env : Env}
end
section
variable {X : Cx}
end
end L2
namespace L2
open PySem PySem.Spec PyProof.Rows
section
variable {κ : Type} [DecidableEq κ]
def valV (kvs : List (κ × V)) (k : κ) : Option V := (kvs.find? fun kv => decide (kv.1 = k)).map (·.2)
theorem valV_pos {p : κ × V} {r : List (κ × V)} {k : κ} (e : p.1 = k) : valV (p :: r) k = some p.2 := by simp [valV, List.find?_cons, e]
theorem valV_neg {p : κ × V} {r : List (κ × V)} {k : κ} (e : ¬ p.1 = k) : valV (p :: r) k = valV r k := by simp [valV, List.find?_cons, e]
theorem RelO.getD {o : Option V} {u : Option Value} {d : V} {d' : Value} (r : RelO o u) (rd : RelV d d') : RelV (o.getD d) (u.getD d') := by
  cases o with
  | none => cases u with
    | none => exact rd
    | some _ => exact (show False from r).elim
  | some _ => cases u with
    | none => exact (show False from r).elim
    | some _ => exact r
theorem KV.val {kvs : List (κ × V)} {vs : List (κ × Value)} (r : KV kvs vs) (k : κ) : RelO (valV kvs k) (valueAt vs k) := by
  unfold KV at r
  induction r with
  | nil => exact True.intro
  | @cons p q ps qs h t ih =>
    obtain ⟨h1, h2⟩ := h
    by_cases e : p.1 = k
    · have e' : q.1 = k := h1.symm.trans e
      have b : valueAt (q :: qs) k = some q.2 := by simp [valueAt, List.find?_cons, e']
      rw [valV_pos e, b]; exact h2
    · have e' : ¬ q.1 = k := fun z => e (h1.trans z)
      have b : valueAt (q :: qs) k = valueAt qs k := by simp [valueAt, List.find?_cons, e']
      rw [valV_neg e, b]; exact ih
end
theorem kV_is {P : Program} {w : World} {k : Key} {u : Value} (r : RelV (kV k) u) : (mixKind P w).is k u = true := by
  cases k with
  | inl i => obtain ⟨t, e⟩ := (show ∃ t, u = Value.int i t from r); subst e; exact mixKind_int P w i t
  | inr x => obtain ⟨t, e⟩ := (show ∃ t, u = Value.str x t from r); subst e; exact mixKind_str P w x t
section
variable {P : Program} {w : World} {H : Hp} {h : Heap} {a : Addr}
end
section
variable {X : Cx} {pins : List (Addr × Obj)} {σ : St} {H : Hp} {s : Shared} {a : Addr} {y v : V} {u r : Value} {o : Option V} {A : Around} {E : Value → Shared → Prop}
end
section
variable {X : Cx} {pins : List (Addr × Obj)} {σ : St} {H : Hp} {s : Shared} {a : Addr} {kvs : List (Key × V)} {k : Key} {u : Value} {A : Around} {E : Value → Shared → Prop}
end
section
variable {X : Cx} {o i e value : Expr} {pos pos' tpos : Pos} {td ty tv : TE}
end
section
variable {X : Cx} {pos : Pos}
end
structure M2 (X : Cx) (o : Expr) (m : Str) (apos : Pos) (e f : Expr) (cpos : Pos) : Prop where
  base : attributeBase o m X.env (eval o X.env) = eval o X.env
  few : ((backTo cpos (starEach [e, f] X.env)).all (fun x => !x.1) && (backToKw cpos (keywordEach [] X.env)).all (fun x => x.1.isSome)
    && decide (([e, f] : List Expr).length + ([] : List Keyword).length + (if ([] : List Keyword).isEmpty then 0 else 1) < 30)) = true
  line : (apos.endLine == cpos.line) = true
  trees : backTo cpos (starEach [e, f] X.env) = [(false, eval e X.env), (false, eval f X.env)]
section
variable {X : Cx} {pins : List (Addr × Obj)} {σ : St} {H : Hp} {s : Shared} {a : Addr} {y d : V} {u r : Value} {o : Option V} {A : Around} {E : Value → Shared → Prop}
end
section
variable {X : Cx} {o e f : Expr} {apos cpos : Pos} {td ty tx : TE}
end
section
variable {X : Cx} {pins : List (Addr × Obj)} {σ : St} {H : Hp} {s : Shared} {a : Addr} {kvs : List (Key × V)} {A : Around} {E : Value → Shared → Prop}
end
section
variable {X : Cx} {pins : List (Addr × Obj)} {σ : St} {H : Hp} {s : Shared} {a : Addr} {y : V} {u : Value} {A : Around} {E : Value → Shared → Prop}
end
end L2
namespace L2
open PySem PySem.Spec PyProof.Rows
section
variable {prog : Program} {w : World} {A : Around} {E : Value → Shared → Prop}
end
section
variable {X : Cx}
end
end L2
namespace L2
open PySem PySem.Spec PyProof.Rows
section
variable {X : Cx} {pins : List (Addr × Obj)} {σ : St} {H : Hp} {s : Shared} {h' : Heap}
theorem Inv.turnedNew {t' : Nat} {ch : List Addr} {T : Addr} {ob : HO} (I : Inv X pins σ H s) (k : ∀ b o, b ∉ ch → s.heap.get? b = some o → h'.get? b = some o) (hf : ∀ b ∈ ch, FpOk X pins H b) (hT : s.heap.objs.size ≤ T)
    (new : ObjOk X.prog X.w (upd H T ob) h' T ob) : Inv X pins σ (upd H T ob) { s with heap := h', toks := t' } := by
  have hn : H T = none := I.hok.fresh hT
  have nit : ∀ b u, H b = some u → b ∉ ch := fun b u e z => by
    have q := (hf b z).1
    rw [q] at e; cases e
  refine I.step (g' := s.gens) (d' := s.drawn) (ch := ch) (fun b hb => ⟨(hf b hb).2.2.2.1, (hf b hb).2.1, (hf b hb).2.2.2.2.1, (hf b hb).2.2.2.2.2⟩) (fun b o _ _ hc e _ => k b o hc e) (fun b o _ _ hc e _ => ⟨o.slots, k b o hc e⟩)
    (fun b o _ e n => ?_) (fun b o hc e => ⟨o, k b o hc e⟩) (fun b xs e => ?_) (fun b o u e => ?_) (fun b ps e => ⟨#[], ?_⟩) (fun m hm => ?_) (fun b u e => ?_) I.bare
  · rw [upd_ne (Nat.ne_of_lt (Nat.lt_of_lt_of_le (Heap.lt_size e) hT))]; exact n
  · rw [upd_ne (ne_of_none e hn)]; exact e
  · rw [upd_ne (ne_of_none e hn)]; exact e
  · rw [upd_ne (ne_of_none e hn), e]; simp
  · obtain ⟨o, es, ep, ho, r⟩ := hm
    exact ⟨o, es, ep, k _ o (fun z => (hf _ z).2.1 rfl) ho, r⟩
  · by_cases hb : b = T
    · subst hb
      rw [upd_same] at e
      cases e
      exact new
    · rw [upd_ne hb] at e
      refine (I.hok b u e).stay (fun c v hc q => k c v ?_ q) (fun c q => by rw [upd_ne (ne_of_none q hn)]; exact q) fun c xs q => by rw [upd_ne (ne_of_none q hn)]; exact q
      rcases hc with z | z
      · rw [z]; exact nit b u e
      · exact nit c _ z
end
section
variable {X : Cx}
theorem pi_one {tg : Expr} {pins : List (Addr × Obj)} {σ : St} {H : Hp} {s : Shared} {R : It → Hp → Prop} {J : It} {tn : Nat → Heap → Prop} {tk : Nat} (I : Inv X pins σ H s) (o : Obj)
    (T : Turn X.prog X.w X.K tg J [s.heap.objs.size] s.heap.objs.size tn) (st : tn 0 (s.heap.push o)) (q : R J H) : PIE X pins σ tg R (.ref s.heap.objs.size) { s with heap := s.heap.push o, toks := tk } := by
  refine ⟨s.heap.objs.size, [s.heap.objs.size], tn, J, H, rfl, I.kept fun b ob e => Heap.get?_push_of_some _ e, T, st, fun b hb => ?_, q⟩
  have e : b = s.heap.objs.size := by simpa using hb
  subst e
  exact I.fpOk (Nat.le_refl _) (I.hok.fresh (Nat.le_refl _))
end
section
variable {X : Cx} {tg : Expr}
end
section
variable {X : Cx} {tg : Expr}
end
def Its (x : Str) : It := ⟨fun i _ => i < x.cps.size, fun i H v H' => H' = H ∧ ∃ c, x.cps[i]? = some c ∧ v = .str ⟨#[c]⟩, fun i _ => x.cps.size ≤ i⟩
theorem turn_str {P : Program} {w : World} {K : PySem.W.Frag} {tg : Expr} (it : Addr) (x : Str) (t : Tok) (ty : String) (hty : ty = "str_ascii_iterator" ∨ ty = "str_iterator") :
    Turn P w K tg (Its x) [it] it (fun i h => h.IsStrIter it ty x t i) where
  mem := by simp
  obj := fun i h st b hb => by
    have e : b = it := by simpa using hb
    subst e
    obtain ⟨o, e, c, d⟩ := st
    exact ⟨o, e, fun v z => by rw [d] at z; cases z⟩
  keep := fun i h h' st k => let ⟨o, ho, r⟩ := st; ⟨o, k it (by simp) o ho, r⟩
  item := by
    intro X hP hw hK hc i pins s σ H E I hf st hg
    subst hP hw hK
    obtain ⟨f0, f1, f2, f3, f4, f5⟩ := hf it (by simp)
    have W : Walks X.prog X.w X.A it [it] [it] x.cps.size (SignAt x) (fun i h => h.IsStrIter it ty x t i) := by
      rcases hty with e | e
      · rw [e]; exact Walks.strAscii (I.ok.hd hc) it x t
      · rw [e]; exact Walks.strWide (I.ok.hd hc) it x t
    have hno : ["enumerate", "zip", "dict_itemiterator", "dict_reverseitemiterator", "odict_iterator", "itertools.zip_longest", "itertools.pairwise"].contains ty = false := by
      rcases hty with e | e
      · rw [e]; decide
      · rw [e]; decide
    refine W.item i s _ _ hg st fun v h' tk hv st' kk => ?_
    obtain ⟨c, u, hcx, rfl⟩ := hv
    have I1 : Inv X pins σ H { s with heap := h', toks := tk } := I.turned (fun b o hb e => kk b o (by simpa using hb) e) f0 f1 f3 f4 f5
    obtain ⟨oi, e, cc, dd⟩ := id st'
    exact ⟨_, rfl, go_of (s := { s with heap := h', toks := tk }) e cc dd hno ⟨.str ⟨#[c]⟩, H, I1, ⟨u, rfl⟩, ⟨rfl, c, hcx, rfl⟩, st', fun b hb => (hf b hb).1⟩⟩
  done := by
    intro X hP hw hK hc i pins s σ H E I hf st hg
    subst hP hw hK
    obtain ⟨f0, f1, f2, f3, f4, f5⟩ := hf it (by simp)
    have hx : x.cps[i]? = none := Array.getElem?_eq_none hg
    rcases hty with e | e
    · rw [e] at st
      exact wpAny_pyNext_ascii_end (I.ok.hd hc) st hx fun h' eb => ⟨rfl, I.turned (t' := s.toks) (fun b o hb e => eb b o hb e) f0 f1 f3 f4 f5⟩
    · rw [e] at st
      exact wpAny_pyNext_wide_end (I.ok.hd hc) st hx fun h' eb => ⟨rfl, I.turned (t' := s.toks) (fun b o hb e => eb b o hb e) f0 f1 f3 f4 f5⟩
  self := fun A i s Q E st h => by
    rcases hty with e | e
    · rw [e] at st; exact wpAny_pyIter_striter_ascii st h
    · rw [e] at st; exact wpAny_pyIter_striter_wide st h
def iStr (te : TE) : TI := fun σ H R => te σ H fun v H1 => ∃ x, v = .str x ∧ R (Its x) H1
theorem pi_str {X : Cx} {tg e : Expr} {te : TE} (he : PE X e te) : PI X tg e (iStr te) := by
  intro pins s σ H R I h
  refine thn (he pins s σ H _ I h) fun v s1 ⟨y, H1, I1, r1, x, ex, q⟩ => ?_
  subst ex
  obtain ⟨t, rfl⟩ := r1
  cases ha : x.cps.all (· < 128)
  · exact wpAny_pyIter_wide ha (pi_one (tk := s1.toks) I1 _ (turn_str _ x t "str_iterator" (.inr rfl)) ⟨_, Heap.get?_push_size _ rfl, rfl, rfl⟩ q)
  · exact wpAny_pyIter_ascii ha (pi_one (tk := s1.toks) I1 _ (turn_str _ x t "str_ascii_iterator" (.inl rfl)) ⟨_, Heap.get?_push_size _ rfl, rfl, rfl⟩ q)
section
variable {prog : Program} {w : World} {A : Around} {E : Value → Shared → Prop} {s : Shared}
end
section
variable {X : Cx} {pins : List (Addr × Obj)} {σ : St} {H : Hp} {s : Shared} {d : Addr} {o : Obj}
end
section
variable {P : Program} {w : World} {K : PySem.W.Frag} {tg : Expr} {d : Addr} {o : Obj} {es : Array DictEntry} {ep : Nat}
end
section
variable {X : Cx} {tg e : Expr} {td : TE} {apos cpos : Pos}
end
def Ite (K : PySem.W.Frag) (a : Addr) : It :=
  ⟨fun i H => ∃ (xs : List V) (x : V), SqL K H a xs ∧ xs[i]? = some x, fun i H v H' => ∃ T x, v = .ref T ∧ H T = none ∧ H' = upd H T (.tup [.int (i : Nat), x]) ∧ ∀ xs, SqL K H a xs → xs[i]? = some x, fun i H => ∃ xs : List V, SqL K H a xs ∧ xs.length ≤ i⟩
theorem turn_enum {P : Program} {w : World} {K : PySem.W.Frag} {elts : List Expr} {kk : Nat} {tpos : Pos} (a e it : Addr) :
    Turn P w K (.Tuple elts kk tpos) (Ite K a) [e, it] e (fun i h => (∃ old, IsEnum h e it ((i : Nat) : Int) old) ∧ h.IsListIter it a i ∧ e ≠ it) where
  mem := by simp
  obj := fun i h st b hb => by
    obtain ⟨⟨old, he⟩, ⟨o, ho, hc, hd⟩, _⟩ := st
    have e' : b = e ∨ b = it := by simpa using hb
    rcases e' with z | z
    · rw [z]; exact ⟨_, he, fun v q => nomatch q⟩
    · rw [z]; exact ⟨o, ho, fun v q => by rw [hd] at q; cases q⟩
  keep := fun i h h' st k => let ⟨⟨old, he⟩, hi, hne⟩ := st; ⟨⟨old, k e (by simp) _ he⟩, hi.at fun o q => k it (by simp) o q, hne⟩
  item := by
    intro X hP hw hK hc i pins s σ H E I hf st hg
    subst hP hw hK
    obtain ⟨⟨old, he⟩, hit, hne⟩ := st
    obtain ⟨xs, x, hq, hx⟩ := hg
    obtain ⟨its, rv, p, hz⟩ := I.list hq
    obtain ⟨u, hu, ru⟩ := rv.get hx
    have hel : e < s.heap.objs.size := Heap.lt_size he
    have hil : it < s.heap.objs.size := by obtain ⟨_, q, _⟩ := hit; exact Heap.lt_size q
    refine wpAny_pyNext_enum_item he hit p.isList (x := u) (by simpa using hu) hne fun h' ho hit' hT hsz hk => ?_
    refine ⟨_, rfl, wpAny_letOwnedTupleGo_enum (s := { s with heap := h', toks := s.toks + 1 }) ho fun h'' he' sb => ?_⟩
    have hT2 : h''.get? s.heap.objs.size = some { cls := .type "tuple", data := .seq #[.int i s.toks, u] } := (sb.2 _ (Nat.ne_of_gt hel)).trans hT
    have new : ObjOk X.prog X.w (upd H s.heap.objs.size (.tup [.int (i : Nat), x])) h'' s.heap.objs.size (.tup [.int (i : Nat), x]) :=
      ⟨by show 2 ≤ sizeLine; decide, [.int i s.toks, u], .cons ⟨_, rfl⟩ (.cons ru .nil), ⟨_, hT2, rfl, _, rfl⟩⟩
    have I1 : Inv X pins σ (upd H s.heap.objs.size (.tup [.int (i : Nat), x])) { s with heap := h'', toks := s.toks + 1 } :=
      I.turnedNew (ch := [e, it]) (fun b ob hb q => (sb.2 b (fun z => hb (by simp [z]))).trans (hk b ob (fun z => hb (by simp [z])) (fun z => hb (by simp [z])) q)) hf (Nat.le_refl _) new
    refine ⟨.ref s.heap.objs.size, _, I1, rfl, ⟨_, x, rfl, I.hok.fresh (Nat.le_refl _), rfl, fun ys hy => by rw [I.list_inj hy hq]; exact hx⟩, ⟨⟨u, ?_⟩, hit'.at fun o q => (sb.2 it (Ne.symm hne)).trans q, hne⟩, fun b hb => ?_⟩
    · have e1 : ((i + 1 : Nat) : Int) = (i : Int) + 1 := by omega
      rw [e1]; exact he'
    · have hb' : b < s.heap.objs.size := by
        have e' : b = e ∨ b = it := by simpa using hb
        rcases e' with z | z
        · rw [z]; exact hel
        · rw [z]; exact hil
      rw [upd_ne (Nat.ne_of_lt hb')]
      exact (hf b hb).1
  done := by
    intro X hP hw hK hc i pins s σ H E I hf st hg
    subst hP hw hK
    obtain ⟨⟨old, he⟩, hit, hne⟩ := st
    obtain ⟨xs, hq, hx⟩ := hg
    obtain ⟨its, rv, p, hz⟩ := I.list hq
    obtain ⟨f0, f1, f2, f3, f4, f5⟩ := hf it (by simp)
    have hl := rv.length
    exact wpAny_pyNext_enum_end (I.ok.hd hc) he hit p.isList (by simp; omega) fun h' eb => ⟨rfl, I.turned (t' := s.toks) (fun b o hb q => eb b o hb q) f0 f1 f3 f4 f5⟩
  self := fun A i s Q E st h => let ⟨⟨_, he⟩, _⟩ := st; wpAny_pyIter_enum he h
def iEnum (K : PySem.W.Frag) (ta : TA) : TI := fun σ H R => ta σ H fun vs H1 => ∃ a xs, vs = [.ref a] ∧ SqL K H1 a xs ∧ R (Ite K a) H1
theorem pi_enum {X : Cx} {e : Expr} {ta : TA} {p pos tpos : Pos} {elts : List Expr} {kk : Nat} (hg : Gl X "enumerate") (hm : X.mg "enumerate" = none) (ha : PA X [e] ta) (hs : starEach [e] X.env = [(false, eval e X.env)] := by rfl) :
    PI X (.Tuple elts kk tpos) (.Call (.Name "enumerate" p) [e] [] pos) (iEnum X.K ta) := by
  intro pins s σ H R I h
  refine Call_ (ld_blt I hg hm boot_enumerate (PyProof.Rows.callWith_type1 (thn (ha pos pins s σ H _ I h) fun us s1 ⟨vs, H1, I1, r1, q1⟩ => ?_) hs rfl))
  obtain ⟨a, xs, ex, hq, q⟩ := q1
  subst ex
  cases r1 with
  | cons r rr =>
    cases rr
    cases r
    obtain ⟨its, rv, p', hz⟩ := I1.list hq
    refine call_enumerate_list p'.isList fun h' he hit hsz hk => wpAny_pyIter_enum he ?_
    have I2 : Inv X pins σ H1 { s1 with heap := h' } := I1.kept (t' := s1.toks) hk
    refine ⟨s1.heap.objs.size + 1, [s1.heap.objs.size + 1, s1.heap.objs.size], _, _, H1, rfl, I2, turn_enum a (s1.heap.objs.size + 1) s1.heap.objs.size, ⟨⟨.none, he⟩, hit, Nat.succ_ne_self _⟩, fun b hb => ?_, q⟩
    have e' : b = s1.heap.objs.size + 1 ∨ b = s1.heap.objs.size := by simpa using hb
    have hle : s1.heap.objs.size ≤ b := by
      rcases e' with z | z
      · rw [z]; exact Nat.le_add_right _ _
      · rw [z]; exact Nat.le_refl _
    exact I1.fpOk hle (I1.hok.fresh hle)
end L2
section 
namespace Bits
open PySem PyProof.Rows
end Bits
end 
section 
namespace TL
open PySem PySem.Builtin PySem.Builtin.Str PySem.StrLaws
theorem join_eq (y : Str) (parts : List Str) : Txt.join y parts = Str.join y parts := glued_eq_join y parts
end TL
end 
namespace L2
open PySem PySem.Spec PyProof.Rows
theorem strs_of_vals : ∀ {ys : List Str} {us : List Value}, Vals (ys.map V.str) us → StrsAre us ys
  | [], _, .nil => .nil
  | y :: ys, _, .cons r t => by
    obtain ⟨k, rfl⟩ := r
    exact .cons y k (strs_of_vals t)
section
variable {X : Cx} {pins : List (Addr × Obj)} {σ : St} {H : Hp} {s : Shared} {Q : VK}
end
section
variable {X : Cx}
theorem mt_join : MtR X "str.join" (fun x xs H Q => ∃ a p, ∃ ys : List Str, x = .str a ∧ xs = [.ref p] ∧ (SqL X.K H p (ys.map V.str) ∨ SqT X.K H p (ys.map V.str)) ∧
    (ys.map (·.length)).sum + ys.length * a.length ≤ 16777216 ∧ Q (.str (Txt.join a ys)) H) := by
  intro pins s σ H x xs v us Q I rx rs h
  obtain ⟨a, p, ys, rfl, rfl, hp, hz, h⟩ := h
  obtain ⟨t, rfl⟩ := rx
  cases rs with
  | cons r1 rs =>
    cases rs
    cases r1
    rcases hp with hp | hp
    · obtain ⟨its, r, ⟨o, n, ho, hc, _, hd⟩, _⟩ := I.list hp
      exact PyProof.Rows.join_list (items := its.toArray) ⟨o, ho, hc, n, hd⟩ (by rw [List.toList_toArray]; exact strs_of_vals r) hz fun t' k => ⟨.str _, H, I.tok k, ⟨t', rfl⟩, h⟩
    · obtain ⟨its, r, ht, _⟩ := I.tuple hp
      exact PyProof.Rows.join_tuple (items := its.toArray) ht (by rw [List.toList_toArray]; exact strs_of_vals r) hz fun t' k => ⟨.str _, H, I.tok k, ⟨t', rfl⟩, h⟩
end
section
variable {X : Cx} {o e : Expr} {to te : TE}
def tM1 (r : V → List V → Hp → VK → Prop) (to te : TE) : TE := fun σ H Q => to σ H fun x H1 => (∃ a, x = .str a) ∧ te σ H1 fun y H2 => r x [y] H2 Q
theorem pe_m1 {id : String} {name : Str} {apos pos : Pos} {r : V → List V → Hp → VK → Prop} (slot : Slot "str" name id) (ty : typeOf (.builtin id) = pure (.type "method_descriptor")) (rule : MtR X id r) (ho : PE X o to) (he : PE X e te)
    (hs : starEach [e] X.env = [(false, eval e X.env)] := by rfl) (hbase : attributeBase o name X.env (eval o X.env) = eval o X.env := by rfl) (hline : (apos.endLine == pos.line) = true := by rfl) :
    PE X (.Call (.Attribute o name apos) [e] [] pos) (tM1 r to te) := by
  intro pins s σ H Q I h
  refine PySem.Call_method1 hbase hs hline (thn (ho pins s σ H _ I h) fun v s1 ⟨x, H1, I1, r1, q1⟩ => ?_)
  obtain ⟨⟨a, rfl⟩, q1⟩ := q1
  obtain ⟨t, rfl⟩ := _root_.id r1
  refine ⟨"str", _, F.plainAttrs_str, slot, ty, typeIs_str _ _ _, (fun _ e => nomatch e), Calls.callWith_builtin rfl (Calls.evalArgs_plain (Calls.spliced_cons ?_))⟩
  exact thn (he pins s1 σ H1 _ I1 q1) fun u s2 ⟨y, H2, I2, r2, q2⟩ => Calls.spliced_nil (rule pins s2 σ H2 _ [y] _ [u] Q I2 r1 (.cons r2 .nil) q2)
theorem pe_join {apos pos : Pos} (ho : PE X o to) (he : PE X e te) (hs : starEach [e] X.env = [(false, eval e X.env)] := by rfl) (hbase : attributeBase o "join" X.env (eval o X.env) = eval o X.env := by rfl) (hline : (apos.endLine == pos.line) = true := by rfl) :
    PE X (.Call (.Attribute o "join" apos) [e] [] pos) (tM1 (fun x xs H Q => ∃ a p, ∃ ys : List Str, x = .str a ∧ xs = [.ref p] ∧ (SqL X.K H p (ys.map V.str) ∨ SqT X.K H p (ys.map V.str)) ∧
      (ys.map (·.length)).sum + ys.length * a.length ≤ 16777216 ∧ Q (.str (Txt.join a ys)) H) to te) :=
  pe_m1 F.slot_str_join F.type_str_join mt_join ho he hs hbase hline
end
end L2
namespace L2
open PySem PySem.Spec PyProof.Rows
section
variable {X : Cx}
end
end L2
namespace Att
open PySem PySem.W PySem.Calls PyProof.Rows
section
variable {prog : Program} {w : World} {A : Around} {E : Value → Shared → Prop} {s : Shared} {K : Frag}
end
end Att
namespace L2
open PySem PySem.Spec PyProof.Rows
end L2
namespace L2
open PySem PySem.Spec PyProof.Rows
end L2
namespace L2
open PySem PySem.Spec PyProof.Rows
def inClass (s : Stmt) (j : Nat) : Stmt := match s with
  | .ClassDef _ _ _ body _ _ _ _ _ _ _ => body.getD j (.Pass ⟨0, 0, 0, 0⟩)
  | _ => .Pass ⟨0, 0, 0, 0⟩
def defArgs (s : Stmt) : Arguments := match s with
  | .FunctionDef _ a _ _ _ _ _ _ _ _ => a
  | _ => { posonlyargs := [], args := [], vararg := none, kwonlyargs := [], kw_defaults := [], kwarg := none, defaults := [] }
def defBody (s : Stmt) : List Stmt := match s with
  | .FunctionDef _ _ b _ _ _ _ _ _ _ => b
  | _ => []
def defScope (s : Stmt) : Scope := match s with
  | .FunctionDef _ _ _ _ _ _ sc _ _ _ => sc
  | _ => { kind := .function, names := [], isGenerator := false, isCoroutine := false }
abbrev CX0 : CXT := fun _ _ _ _ _ _ => False
abbrev E0 : XK := fun _ _ _ => False
theorem pass0 {X : Cx} : Passes CX0 X E0 := fun _ _ _ _ _ _ _ h => h.elim
structure Fun (K : PySem.W.Frag) (x qual : Str) (st : Stmt) (f : Addr) (fd : FuncData) : Prop where
  ex : ∃ (oc : Value) (od : Option Addr) (kV doc pm : Value) (an : Option Addr) (cdv ct : Value) (osl : Array (Option Value)),
    fd = PySem.W.fnOf x qual (defArgs st) (defBody st) (defScope st) .none kV doc pm an cdv ct ∧ K.lookup f = some ⟨oc, od, .func fd, osl⟩ ∧ PySem.W.codeIn K cdv qual = true
  kp : PySem.W.keepIn K (.ref f) = true
section
variable {P : Program} {w : World} {K : PySem.W.Frag} {mg : Str → Option Value} {base : Heap}
theorem Fun.ok {x qual : Str} {st : Stmt} {f : Addr} {fd : FuncData} {N ps : List Str} {k : Nat} {sp : Sp} (F : Fun K x qual st f fd) (S : FnScope N ps (defScope st)) (len : ∀ vs H Q E, sp vs H Q E → vs.length = ps.length)
    (hbody : ∀ (cdv : Value) (A : Around) (outer : List Env) (s : Shared) (H : Hp) (vs : List V) (Q : VK) (E : XK), Room k (A.deeper (envOfC qual (defScope st) s.heap.objs.size f cdv)) → sp vs H Q E →
      ∃ t, PSs (cxOf CX0 P w K mg base N qual (defScope st) f cdv A outer s H E).nox (defBody st) t ∧ t { nx := fun _ H' => Q .non H', rt := Q } (start N vs) H) : FnOk P w K mg base CX0 (k + 1) f fd ps sp := by
  obtain ⟨oc, od, kV, doc, pm, an, cdv, ct, osl, rfl, lk, hcd⟩ := F.ex
  refine fn_of lk hcd S len fun A outer s H vs Q E hr hsp => ?_
  obtain ⟨t, h, q⟩ := hbody cdv A outer s H vs Q E hr hsp
  exact ⟨t, h.nox, q⟩
theorem Fun.binds {x qual : Str} {st : Stmt} {f : Addr} {fd : FuncData} {ps : List Str} (F : Fun K x qual st f fd)
    (h : ∀ (kV doc pm : Value) (an : Option Addr) (cdv ct : Value) (us : List Value), us.length = ps.length → bindArgs (PySem.W.fnOf x qual (defArgs st) (defBody st) (defScope st) .none kV doc pm an cdv ct) ⟨us, []⟩ = pure (ps.zip us)) : Binds K fd ps [] := by
  obtain ⟨oc, od, kV, doc, pm, an, cdv, ct, osl, rfl, lk, hcd⟩ := F.ex
  exact .all (h kV doc pm an cdv ct)
theorem fun_mk {x qual : Str} {st : Stmt} {f : Addr} {oc : Value} {od an : Option Addr} {osl : Array (Option Value)} {kV doc pm cdv ct : Value} (l : K.lookup f = some ⟨oc, od, .func (PySem.W.fnOf x qual (defArgs st) (defBody st) (defScope st) .none kV doc pm an cdv ct), osl⟩)
    (c : PySem.W.codeIn K cdv qual = true) (k : PySem.W.keepIn K (.ref f) = true) : Fun K x qual st f (PySem.W.fnOf x qual (defArgs st) (defBody st) (defScope st) .none kV doc pm an cdv ct) := ⟨⟨oc, od, kV, doc, pm, an, cdv, ct, osl, rfl, l, c⟩, k⟩
end
section
variable {X : Cx}
theorem pv (i : Nat) {x : Str} {pos : Pos} (hN : X.N[i]? = some x := by rfl) (hv : Vis X.env.scope x := by first | exact Or.inl rfl | exact Or.inr (Or.inl rfl) | exact Or.inr (Or.inr rfl)) (hd : (x == ("__debug__" : Str)) = false := by decide)
    (hcd : (x == ("__classdict__" : Str)) = false := by decide) : PE X (.Name x pos) (tVar i) := pe_var hN hv hd hcd
end
def Same (H H' : Hp) : Prop := ∀ b o, H b = some o → H' b = some o
theorem Same.refl (H : Hp) : Same H H := fun _ _ h => h
theorem Same.trans {H H1 H2 : Hp} (a : Same H H1) (b : Same H1 H2) : Same H H2 := fun c o h => b c o (a c o h)
theorem Same.free {H H' : Hp} (e : Same H H') {l : Addr} (h : H' l = Option.none) : H l = Option.none := by
  cases q : H l with
  | none => rfl
  | some o =>
    rw [e l o q] at h
    cases h
theorem Same.seq {K : PySem.W.Frag} {H H' : Hp} {a : Addr} {xs : List V} (e : Same H H') (h : SqL K H a xs) : SqL K H' a xs := by
  rcases h with (h | ⟨o, h⟩) | h
  · exact .inl (.inl (e _ _ h))
  · exact .inl (.inr ⟨o, e _ _ h⟩)
  · exact .inr h
section
variable {κ : Type} [DecidableEq κ]
end
theorem Same.made {H H1 : Hp} {x dx C : Addr} (nx : H x = Option.none) (nd : H dx = Option.none) (k : ∀ b o, (upd (upd H dx (.own x)) x (.ins C dx [])) b = some o → b ≠ x → H1 b = some o) : Same H H1 := fun b o e =>
  k b o (by rw [upd_ne (ne_of_none e nx), upd_ne (ne_of_none e nd)]; exact e) (ne_of_none e nx)
end L2
end
section
section
set_option Elab.async false
set_option linter.all false
set_option maxRecDepth 100000
set_option maxHeartbeats 2000000
namespace L2
open PySem PySem.Spec PyProof.Rows
open PySem.W (WData Codec OpenSpec Well WellAll ReadsW ReadsAllW)
mutual
/-- x stands for the datum d, lists and tuples all the way -/
inductive Dw (K : PySem.W.Frag) (H : Hp) : V → WData → Prop
  | non : Dw K H .non .none
  | bl (b : Bool) : Dw K H (.bl b) (.bool b)
  | int (i : Int) : Dw K H (.int i) (.int i)
  | str (x : Str) : Dw K H (.str x) (.str x)
  | byt (b : Array UInt8) : Dw K H (.byt b) (.bytes b.toList)
  | lst {a : Addr} {xs : List V} {ds : List WData} : SqL K H a xs → DwAll K H xs ds → Dw K H (.ref a) (.list ds)
  | tup {a : Addr} {xs : List V} {ds : List WData} : SqT K H a xs → DwAll K H xs ds → Dw K H (.ref a) (.tuple ds)
inductive DwAll (K : PySem.W.Frag) (H : Hp) : List V → List WData → Prop
  | nil : DwAll K H [] []
  | cons {v : V} {vs : List V} {d : WData} {ds : List WData} : Dw K H v d → DwAll K H vs ds → DwAll K H (v :: vs) (d :: ds)
end
theorem dw_ints {K : PySem.W.Frag} {H : Hp} : ∀ ns : List Int, DwAll K H (ns.map V.int) (ns.map WData.int)
  | [] => .nil
  | n :: r => .cons (.int n) (dw_ints r)
theorem ints_dw {K : PySem.W.Frag} {H : Hp} : ∀ (ns : List Int) (xs : List V), DwAll K H xs (ns.map WData.int) → xs = ns.map V.int
  | [], xs, h => by
    cases h
    rfl
  | n :: r, xs, h => by
    cases h with
    | cons h1 h2 =>
      cases h1
      rw [ints_dw r _ h2] <;> rfl
section
variable {P : Program} {w : World} {K : PySem.W.Frag} {H : Hp} {h : Heap} {R : PySem.W.WRecords} {cl : Str → Option Addr}
theorem sqL_at {a : Addr} {xs : List V} (hok : HOk P w H h) (KX : K.In h) (q : SqL K H a xs) : ∃ (its : List Value) (o : Obj) (n : Nat), Vals xs its ∧ h.get? a = some o ∧ o.cls = .type "list" ∧ o.data = .seq its.toArray n := by
  rcases q with q | ⟨o, its, n, e, hc, _, hd, _, hv⟩
  · obtain ⟨_, its, n, hv, e⟩ := (show ObjOk P w H h a (.lst xs) from q.ok hok)
    exact ⟨its, _, n, hv, e, rfl, rfl⟩
  · exact ⟨its.toList, o, n, hv, KX _ _ e, hc, by simp [hd]⟩
theorem sqT_at {a : Addr} {xs : List V} (hok : HOk P w H h) (KX : K.In h) (q : SqT K H a xs) : ∃ (its : List Value) (o : Obj) (n : Nat), Vals xs its ∧ h.get? a = some o ∧ o.cls = .type "tuple" ∧ o.data = .seq its.toArray n := by
  rcases q with q | ⟨o, its, n, e, hc, hd, _, hv⟩
  · obtain ⟨_, its, hv, o, e, hc, n, hd⟩ := (show ObjOk P w H h a (.tup xs) from q.ok hok)
    exact ⟨its, o, n, hv, e, hc, hd⟩
  · exact ⟨its.toList, o, n, hv, KX _ _ e, hc, by simp [hd]⟩
mutual
theorem Dw.reads (hok : HOk P w H h) (KX : K.In h) : ∀ (d : WData) (v : V) (u : Value), Dw K H v d → RelV v u → ∃ as, ReadsW R cl h u d as
  | .none, _, _, x, r => by
    cases x
    cases r
    exact ⟨_, ReadsW.none⟩
  | .bool b, _, _, x, r => by
    cases x
    cases r
    exact ⟨_, ReadsW.bool b⟩
  | .int i, _, _, x, r => by
    cases x
    obtain ⟨t, rfl⟩ := r
    exact ⟨_, ReadsW.int i t⟩
  | .str s, _, _, x, r => by
    cases x
    obtain ⟨t, rfl⟩ := r
    exact ⟨_, ReadsW.str s t⟩
  | .bytes b, _, _, x, r => by
    cases x
    obtain ⟨t, rfl⟩ := r
    exact ⟨_, ReadsW.bytes _ t⟩
  | .list ds, _, _, x, r => by
    cases x with
    | lst hs ha =>
      cases r
      obtain ⟨its, o, n, rv, ho, hc, hd⟩ := sqL_at hok KX hs
      obtain ⟨as, hr⟩ := Dw.readsAll hok KX ds _ its ha rv
      exact ⟨_, ReadsW.list ho hc hd hr⟩
  | .tuple ds, _, _, x, r => by
    cases x with
    | tup hs ha =>
      cases r
      obtain ⟨its, o, n, rv, ho, hc, hd⟩ := sqT_at hok KX hs
      obtain ⟨as, hr⟩ := Dw.readsAll hok KX ds _ its ha rv
      exact ⟨_, ReadsW.tuple ho hc hd hr⟩
  | .float _, _, _, x, _ => by cases x
  | .dict _, _, _, x, _ => by cases x
  | .bytearray _, _, _, x, _ => by cases x
  | .set _, _, _, x, _ => by cases x
  | .frozenset _, _, _, x, _ => by cases x
  | .obj _ _, _, _, x, _ => by cases x
theorem Dw.readsAll (hok : HOk P w H h) (KX : K.In h) : ∀ (ds : List WData) (vs : List V) (us : List Value), DwAll K H vs ds → Vals vs us → ∃ as, ReadsAllW R cl h us ds as
  | [], _, _, x, r => by
    cases x
    cases r
    exact ⟨_, ReadsAllW.nil⟩
  | d :: ds, _, _, x, r => by
    cases x with
    | cons h1 h2 =>
      cases r with
      | cons r1 r2 =>
        obtain ⟨as, q1⟩ := Dw.reads hok KX d _ _ h1 r1
        obtain ⟨bs, q2⟩ := Dw.readsAll hok KX ds _ _ h2 r2
        exact ⟨_, ReadsAllW.cons q1 q2⟩
end
end
mutual
/-- data that a codec tells -/
def plW : WData → Bool
  | .none => true
  | .bool _ => true
  | .int _ => true
  | .str _ => true
  | .bytes _ => true
  | .list xs => plWs xs
  | .tuple xs => plWs xs
  | _ => false
def plWs : List WData → Bool
  | [] => true
  | x :: r => plW x && plWs r
end
theorem plWs_map {α : Type} {f : α → WData} (h : ∀ a, plW (f a) = true) : ∀ l : List α, plWs (l.map f) = true
  | [] => rfl
  | x :: r => by
    show (plW (f x) && plWs (r.map f)) = true
    rw [h x, plWs_map h r] <;> rfl
theorem pl_enc : ∀ (c : Codec) (a : c.denote), plW (c.enc a) = true
  | .unit, _ => rfl
  | .bool, _ => rfl
  | .int _ _, _ => rfl
  | .nat _ _, _ => rfl
  | .u8, _ => rfl
  | .bytes _ _, _ => rfl
  | .text _ _ _ _, _ => rfl
  | .list _ _ c, a => plWs_map (fun x => pl_enc c x) a
  | .pair c d, a => by
    show (plW (c.enc a.1) && (plW (d.enc a.2) && true)) = true
    rw [pl_enc c a.1, pl_enc d a.2] <;> rfl
  | .triple c d e, a => by
    show (plW (c.enc a.1) && (plW (d.enc a.2.1) && (plW (e.enc a.2.2) && true))) = true
    rw [pl_enc c a.1, pl_enc d a.2.1, pl_enc e a.2.2] <;> rfl
  | .option c, none => rfl
  | .option c, some x => pl_enc c x
theorem pl_encAll : ∀ (cs : List Codec) (a : Codec.denoteAll cs), plWs (Codec.encAll cs a) = true
  | [], _ => rfl
  | c :: cs, a => by
    show (plW (c.enc a.1) && plWs (Codec.encAll cs a.2)) = true
    rw [pl_enc c a.1, pl_encAll cs a.2] <;> rfl
theorem weight_mem : ∀ {xs : List WData} {d : WData}, d ∈ xs → d.weight ≤ WData.weightAll xs
  | [], d, h => absurd h (by simp)
  | x :: r, d, h => by
    show d.weight ≤ x.weight + 1 + WData.weightAll r
    rcases List.mem_cons.mp h with e | m
    · rw [e]
      omega
    · have z := weight_mem m
      omega
def toV : Value → V
  | .none => .non
  | .bool b => .bl b
  | .int i _ => .int i
  | .str x _ => .str x
  | .bytes b _ => .byt b
  | .ref a => .ref a
  | _ => .non
def OkU (A : List Addr) : Value → Prop
  | .none => True
  | .bool _ => True
  | .int _ _ => True
  | .str _ _ => True
  | .bytes _ _ => True
  | .ref a => a ∈ A
  | _ => False
theorem OkU.mono {A B : List Addr} (h : ∀ a ∈ A, a ∈ B) : ∀ {u : Value}, OkU A u → OkU B u := fun {u} x => by
  cases u with
  | ref a => exact h a x
  | none => trivial
  | bool b => trivial
  | int i t => trivial
  | str s t => trivial
  | bytes b t => trivial
  | _ => exact False.elim x
theorem relV_toV {A : List Addr} {u : Value} (x : OkU A u) : RelV (toV u) u := by
  cases u with
  | ref a => rfl
  | none => rfl
  | bool b => rfl
  | int i t => exact ⟨t, rfl⟩
  | str s t => exact ⟨t, rfl⟩
  | bytes b t => exact ⟨t, rfl⟩
  | _ => exact False.elim x
theorem vals_toV {A : List Addr} : ∀ {vs : List Value}, (∀ u ∈ vs, OkU A u) → Vals (vs.map toV) vs
  | [], _ => .nil
  | u :: r, h => .cons (relV_toV (h u (List.mem_cons_self ..))) (vals_toV fun x hx => h x (List.mem_cons_of_mem _ hx))
def ArgOb (h : Heap) (A : List Addr) (a : Addr) : Prop := ∃ vs : List Value, vs.length ≤ sizeLine ∧ (∀ u ∈ vs, OkU A u) ∧
  (h.get? a = some { cls := .type "list", data := .seq vs.toArray } ∨ h.get? a = some { cls := .type "tuple", data := .seq vs.toArray })
theorem ArgOb.mono {h : Heap} {A B : List Addr} {a : Addr} (k : ∀ a ∈ A, a ∈ B) (x : ArgOb h A a) : ArgOb h B a := by
  obtain ⟨vs, h1, h2, h3⟩ := x
  exact ⟨vs, h1, fun u hu => (h2 u hu).mono k, h3⟩
theorem wellAll_len {P : Params} {h : Heap} : ∀ {vs : List Value} {ds : List WData}, WellAll P h vs ds → vs.length = ds.length
  | _, _, .nil => rfl
  | _, _, .cons _ b => by
    show _ + 1 = _ + 1
    rw [wellAll_len b]
theorem well_list {P : Params} {h : Heap} {v : Value} {ds : List WData} (x : Well P h v (.list ds)) : ∃ (a : Addr) (vs : List Value), v = .ref a ∧ h.get? a = some { cls := .type "list", data := .seq vs.toArray } ∧ WellAll P h vs ds := by
  cases x with
  | list ho hall => exact ⟨_, _, rfl, ho, hall⟩
theorem well_tuple {P : Params} {h : Heap} {v : Value} {ds : List WData} (x : Well P h v (.tuple ds)) : ∃ (a : Addr) (vs : List Value), v = .ref a ∧ h.get? a = some { cls := .type "tuple", data := .seq vs.toArray } ∧ WellAll P h vs ds := by
  cases x with
  | tuple ho hall => exact ⟨_, _, rfl, ho, hall⟩
theorem well_cons {P : Params} {h : Heap} {us : List Value} {d : WData} {ds : List WData} (x : WellAll P h us (d :: ds)) : ∃ (v : Value) (vs : List Value), us = v :: vs ∧ Well P h v d ∧ WellAll P h vs ds := by
  cases x with
  | cons a b => exact ⟨_, _, rfl, a, b⟩
theorem line_of {n : Nat} (h : n ≤ 1048576) : n ≤ sizeLine := Nat.le_trans h (by decide)
section
variable {P : Params} {h : Heap}
mutual
theorem area_one : ∀ (d : WData) (v : Value), Well P h v d → plW d = true → d.weight ≤ 1048576 → ∃ A : List Addr, OkU A v ∧ ∀ a ∈ A, ArgOb h A a
  | .none, _, x, _, _ => by
    cases x
    exact ⟨[], trivial, fun a m => absurd m (by simp)⟩
  | .bool b, _, x, _, _ => by
    cases x
    exact ⟨[], trivial, fun a m => absurd m (by simp)⟩
  | .int i, _, x, _, _ => by
    cases x
    exact ⟨[], trivial, fun a m => absurd m (by simp)⟩
  | .str s, _, x, _, _ => by
    cases x
    exact ⟨[], trivial, fun a m => absurd m (by simp)⟩
  | .bytes b, _, x, _, _ => by
    cases x
    exact ⟨[], trivial, fun a m => absurd m (by simp)⟩
  | .list ds, _, x, p, z => by
    obtain ⟨a, vs, rfl, ho, hall⟩ := well_list x
    have z2 : WData.weightAll ds ≤ 1048576 := z
    obtain ⟨A, h1, h2⟩ := area_all ds _ hall p fun d hd => Nat.le_trans (weight_mem hd) z2
    have k : ∀ b ∈ A, b ∈ a :: A := fun b hb => List.mem_cons_of_mem _ hb
    refine ⟨a :: A, List.mem_cons_self .., fun b hb => ?_⟩
    rcases List.mem_cons.mp hb with e | m
    · rw [e]
      exact ⟨vs, line_of (by rw [wellAll_len hall]; exact Nat.le_trans (PySem.W.length_le_weightAllW ds) z2), fun u hu => (h1 u hu).mono k, .inl ho⟩
    · exact (h2 b m).mono k
  | .tuple ds, _, x, p, z => by
    obtain ⟨a, vs, rfl, ho, hall⟩ := well_tuple x
    have z2 : WData.weightAll ds ≤ 1048576 := z
    obtain ⟨A, h1, h2⟩ := area_all ds _ hall p fun d hd => Nat.le_trans (weight_mem hd) z2
    have k : ∀ b ∈ A, b ∈ a :: A := fun b hb => List.mem_cons_of_mem _ hb
    refine ⟨a :: A, List.mem_cons_self .., fun b hb => ?_⟩
    rcases List.mem_cons.mp hb with e | m
    · rw [e]
      exact ⟨vs, line_of (by rw [wellAll_len hall]; exact Nat.le_trans (PySem.W.length_le_weightAllW ds) z2), fun u hu => (h1 u hu).mono k, .inr ho⟩
    · exact (h2 b m).mono k
  | .float _, _, _, p, _ => Bool.noConfusion (show false = true from p)
  | .dict _, _, _, p, _ => Bool.noConfusion (show false = true from p)
  | .bytearray _, _, _, p, _ => Bool.noConfusion (show false = true from p)
  | .set _, _, _, p, _ => Bool.noConfusion (show false = true from p)
  | .frozenset _, _, _, p, _ => Bool.noConfusion (show false = true from p)
  | .obj _ _, _, _, p, _ => Bool.noConfusion (show false = true from p)
theorem area_all : ∀ (ds : List WData) (vs : List Value), WellAll P h vs ds → plWs ds = true → (∀ d ∈ ds, d.weight ≤ 1048576) → ∃ A : List Addr, (∀ u ∈ vs, OkU A u) ∧ ∀ a ∈ A, ArgOb h A a
  | [], _, x, _, _ => by
    cases x
    exact ⟨[], fun u m => absurd m (by simp), fun a m => absurd m (by simp)⟩
  | d :: ds, _, x, p, z => by
    obtain ⟨v, vs, rfl, x1, x2⟩ := well_cons x
    have q : plW d = true ∧ plWs ds = true := Bool.and_eq_true_iff.mp p
    obtain ⟨A, a1, a2⟩ := area_one d v x1 q.1 (z d (List.mem_cons_self ..))
    obtain ⟨B, b1, b2⟩ := area_all ds vs x2 q.2 fun e he => z e (List.mem_cons_of_mem _ he)
    have kA : ∀ b ∈ A, b ∈ A ++ B := fun b hb => List.mem_append.mpr (.inl hb)
    have kB : ∀ b ∈ B, b ∈ A ++ B := fun b hb => List.mem_append.mpr (.inr hb)
    refine ⟨A ++ B, fun u hu => ?_, fun b hb => ?_⟩
    · rcases List.mem_cons.mp hu with e | m
      · rw [e]
        exact a1.mono kA
      · exact (b1 u m).mono kB
    · rcases List.mem_append.mp hb with m | m
      · exact (a2 b m).mono kA
      · exact (b2 b m).mono kB
end
end
def hoOf (o : Obj) : Option HO := match o.data with
  | .seq vs _ => if (o.cls == Value.type "list") = true then some (.frz o (.lst (vs.toList.map toV))) else some (.frz o (.tup (vs.toList.map toV)))
  | _ => none
def argH (K : PySem.W.Frag) (h : Heap) (A : List Addr) : Hp := fun b => if b ∈ A then (if (K.lookup b).isNone = true then (h.get? b).bind hoOf else none) else none
def OnlyF (H : Hp) : Prop := ∀ b, H b = none ∨ ∃ o u, H b = some (.frz o u)
theorem hoOf_lst (vs : List Value) : hoOf { cls := .type "list", data := .seq vs.toArray } = some (.frz { cls := .type "list", data := .seq vs.toArray } (.lst (vs.map toV))) := by
  show (if (Value.type "list" == Value.type "list") = true then some (HO.frz { cls := .type "list", data := .seq vs.toArray } (.lst (vs.toArray.toList.map toV))) else some (HO.frz { cls := .type "list", data := .seq vs.toArray } (.tup (vs.toArray.toList.map toV)))) = _
  rw [if_pos (beq_self_eq_true _)]
theorem hoOf_tup (vs : List Value) : hoOf { cls := .type "tuple", data := .seq vs.toArray } = some (.frz { cls := .type "tuple", data := .seq vs.toArray } (.tup (vs.map toV))) := by
  show (if (Value.type "tuple" == Value.type "list") = true then some (HO.frz { cls := .type "tuple", data := .seq vs.toArray } (.lst (vs.toArray.toList.map toV))) else some (HO.frz { cls := .type "tuple", data := .seq vs.toArray } (.tup (vs.toArray.toList.map toV)))) = _
  rw [if_neg (by decide)]
section
variable {P : Program} {w : World} {K : PySem.W.Frag} {h : Heap} {A : List Addr}
theorem argH_at {b : Addr} {o : Obj} (hb : b ∈ A) (hk : K.lookup b = none) (e : h.get? b = some o) : argH K h A b = hoOf o := by
  unfold argH
  rw [if_pos hb, hk, if_pos (show (none : Option Obj).isNone = true from rfl), e] <;> rfl
theorem of_argH {b : Addr} {u : HO} (q : argH K h A b = some u) : b ∈ A ∧ K.lookup b = none := by
  unfold argH at q
  by_cases hb : b ∈ A
  · rw [if_pos hb] at q
    cases hk : K.lookup b with
    | none => exact ⟨hb, rfl⟩
    | some o =>
      rw [hk, if_neg (by simp)] at q
      cases q
  · rw [if_neg hb] at q
    cases q
theorem argH_is (ar : ∀ a ∈ A, ArgOb h A a) {b : Addr} {u : HO} (q : argH K h A b = some u) : K.lookup b = none ∧ ∃ vs : List Value, vs.length ≤ sizeLine ∧ (∀ u ∈ vs, OkU A u) ∧
    ((h.get? b = some { cls := .type "list", data := .seq vs.toArray } ∧ u = .frz { cls := .type "list", data := .seq vs.toArray } (.lst (vs.map toV))) ∨
     (h.get? b = some { cls := .type "tuple", data := .seq vs.toArray } ∧ u = .frz { cls := .type "tuple", data := .seq vs.toArray } (.tup (vs.map toV)))) := by
  obtain ⟨hb, hk⟩ := of_argH q
  obtain ⟨vs, h1, h2, h3⟩ := ar b hb
  refine ⟨hk, vs, h1, h2, ?_⟩
  rcases h3 with e | e
  · rw [argH_at hb hk e, hoOf_lst] at q
    exact .inl ⟨e, (Option.some.inj q).symm⟩
  · rw [argH_at hb hk e, hoOf_tup] at q
    exact .inr ⟨e, (Option.some.inj q).symm⟩
theorem argH_only (ar : ∀ a ∈ A, ArgOb h A a) : OnlyF (argH K h A) := fun b => by
  cases q : argH K h A b with
  | none => exact .inl rfl
  | some u =>
    obtain ⟨_, vs, _, _, ⟨_, e⟩ | ⟨_, e⟩⟩ := argH_is ar q
    · exact .inr ⟨_, _, by rw [e]⟩
    · exact .inr ⟨_, _, by rw [e]⟩
theorem argH_ok (ar : ∀ a ∈ A, ArgOb h A a) : HOk P w (argH K h A) h := fun b u q => by
  obtain ⟨_, vs, h1, h2, ⟨e, rfl⟩ | ⟨e, rfl⟩⟩ := argH_is ar q
  · exact ⟨e, by rw [List.length_map]; exact h1, vs, _, vals_toV h2, e⟩
  · exact ⟨e, by rw [List.length_map]; exact h1, vs, vals_toV h2, _, e, rfl, _, rfl⟩
theorem seq_inj {c c' : Value} {vs us : List Value} (e : (some { cls := c, data := .seq vs.toArray } : Option Obj) = some { cls := c', data := .seq us.toArray }) : c = c' ∧ vs = us := by
  have e1 := Option.some.inj e
  have e2 : c = c' := congrArg Obj.cls e1
  have e3 : Data.seq vs.toArray = Data.seq us.toArray := congrArg Obj.data e1
  injection e3 with e4
  refine ⟨e2, ?_⟩
  have e5 := congrArg Array.toList e4
  simpa using e5
theorem argL (KX : K.In h) (ar : ∀ a ∈ A, ArgOb h A a) {a : Addr} {vs : List Value} (ha : a ∈ A) (e : h.get? a = some { cls := .type "list", data := .seq vs.toArray }) : (∀ u ∈ vs, OkU A u) ∧ SqL K (argH K h A) a (vs.map toV) := by
  obtain ⟨us, h1, h2, h3⟩ := ar a ha
  have hu : us = vs := by
    rcases h3 with q | q
    · rw [e] at q
      exact (seq_inj q).2.symm
    · rw [e] at q
      exact absurd (Value.type.inj (seq_inj q).1) (by decide)
  subst hu
  refine ⟨h2, ?_⟩
  cases hk : K.lookup a with
  | none => exact .inl (.inr ⟨_, by rw [argH_at ha hk e, hoOf_lst]⟩)
  | some o =>
    have e2 := KX a o hk
    rw [e] at e2
    obtain rfl := Option.some.inj e2
    exact .inr ⟨_, us.toArray, _, hk, rfl, rfl, rfl, by rw [List.size_toArray]; exact h1, by simpa using vals_toV h2⟩
theorem argT (KX : K.In h) (ar : ∀ a ∈ A, ArgOb h A a) {a : Addr} {vs : List Value} (ha : a ∈ A) (e : h.get? a = some { cls := .type "tuple", data := .seq vs.toArray }) : (∀ u ∈ vs, OkU A u) ∧ SqT K (argH K h A) a (vs.map toV) := by
  obtain ⟨us, h1, h2, h3⟩ := ar a ha
  have hu : us = vs := by
    rcases h3 with q | q
    · rw [e] at q
      exact absurd (Value.type.inj (seq_inj q).1) (by decide)
    · rw [e] at q
      exact (seq_inj q).2.symm
  subst hu
  refine ⟨h2, ?_⟩
  cases hk : K.lookup a with
  | none => exact .inl (.inr ⟨_, by rw [argH_at ha hk e, hoOf_tup]⟩)
  | some o =>
    have e2 := KX a o hk
    rw [e] at e2
    obtain rfl := Option.some.inj e2
    exact .inr ⟨_, us.toArray, _, hk, rfl, rfl, by rw [List.size_toArray]; exact h1, by simpa using vals_toV h2⟩
mutual
theorem dw_one {Pm : Params} (KX : K.In h) (ar : ∀ a ∈ A, ArgOb h A a) : ∀ (d : WData) (v : Value), Well Pm h v d → plW d = true → OkU A v → Dw K (argH K h A) (toV v) d
  | .none, _, x, _, _ => by
    cases x
    exact .non
  | .bool b, _, x, _, _ => by
    cases x
    exact .bl b
  | .int i, _, x, _, _ => by
    cases x
    exact .int i
  | .str s, _, x, _, _ => by
    cases x
    exact .str s
  | .bytes b, _, x, _, _ => by
    cases x
    have z := Dw.byt (K := K) (H := argH K h A) b.toArray
    exact z
  | .list ds, _, x, p, hu => by
    obtain ⟨a, vs, rfl, ho, hall⟩ := well_list x
    obtain ⟨h2, hs⟩ := argL KX ar hu ho
    exact .lst hs (dw_all KX ar ds _ hall p h2)
  | .tuple ds, _, x, p, hu => by
    obtain ⟨a, vs, rfl, ho, hall⟩ := well_tuple x
    obtain ⟨h2, hs⟩ := argT KX ar hu ho
    exact .tup hs (dw_all KX ar ds _ hall p h2)
  | .float _, _, _, p, _ => Bool.noConfusion (show false = true from p)
  | .dict _, _, _, p, _ => Bool.noConfusion (show false = true from p)
  | .bytearray _, _, _, p, _ => Bool.noConfusion (show false = true from p)
  | .set _, _, _, p, _ => Bool.noConfusion (show false = true from p)
  | .frozenset _, _, _, p, _ => Bool.noConfusion (show false = true from p)
  | .obj _ _, _, _, p, _ => Bool.noConfusion (show false = true from p)
theorem dw_all {Pm : Params} (KX : K.In h) (ar : ∀ a ∈ A, ArgOb h A a) : ∀ (ds : List WData) (vs : List Value), WellAll Pm h vs ds → plWs ds = true → (∀ u ∈ vs, OkU A u) → DwAll K (argH K h A) (vs.map toV) ds
  | [], _, x, _, _ => by
    cases x
    exact .nil
  | d :: ds, _, x, p, hu => by
    obtain ⟨v, vs, rfl, x1, x2⟩ := well_cons x
    have q : plW d = true ∧ plWs ds = true := Bool.and_eq_true_iff.mp p
    exact .cons (dw_one KX ar d v x1 q.1 (hu _ (List.mem_cons_self ..))) (dw_all KX ar ds vs x2 q.2 fun u m => hu u (List.mem_cons_of_mem _ m))
end
end
theorem spec_call {P : Program} {w : World} {K : PySem.W.Frag} {mg mb : Str → Option Value} {CX : CXT} {k : Nat} {fa : Addr} {fd : FuncData} {ps : List Str} {sp : Sp} {s₁ : Shared} {vals : List Value} {ds : List WData} {R : PySem.W.WRecords} {cl : Str → Option Addr} {d0 : WData}
    (KX : K.In s₁.heap) (hns : s₁.heap.Ns mainGlobals mg) (hb : s₁.heap.Ns builtinsNs mb) (hbb : ∀ x : Str, x ≠ "__name__" → mb x = bootBuiltins x) (hlim : s₁.heap.NoLimit) (hg : s₁.gens = #[])
    (hwl : WellAll w.params s₁.heap vals ds) (hpl : plWs ds = true) (hwt : ∀ d ∈ ds, d.weight ≤ 1048576) (hr : Room k callerA)
    (F : ∀ base : Heap, K.In base → base.Ns mainGlobals mg → FnOk P w K mg base CX k fa fd ps sp) (hbind : ∀ (s : Shared) (us : List Value), us.length = ps.length → BindsTo s fd ⟨us, []⟩ (ps.zip us)) (hlen : ds.length = ps.length)
    (hsp : ∀ (H : Hp) (xs : List V), OnlyF H → DwAll K H xs ds → sp xs H (fun v H' => Dw K H' v d0) fun _ _ _ => False)
    (hCX : ∀ H e s', CX [] H s₁ (fun _ _ _ => False) e s' → False) :
    codeAny (model P w) callerA (.call (.ref fa) ⟨vals, []⟩) (fun r s' => ∃ u as, r = .ok (.ret u) ∧ ReadsW R cl s'.heap u d0 as ∧ OldK s₁.heap s'.heap ∧ s'.os = s₁.os ∧ AllBare s'.gens) s₁ := by
  obtain ⟨A, ho, ar⟩ := area_all ds vals hwl hpl hwt
  have hO : OnlyF (argH K s₁.heap A) := argH_only ar
  have hok : HOk P w (argH K s₁.heap A) s₁.heap := argH_ok ar
  have hS := dw_all KX ar ds vals hwl hpl ho
  have hV := vals_toV ho
  have hK : ∀ b u, argH K s₁.heap A b = some u → K.lookup b = none := fun b u q => (argH_is ar q).1
  have noA : ∀ {b : Addr} {o : Obj} {es : Array DictEntry} {ep : Nat}, s₁.heap.get? b = some o → o.data = .dict es ep → argH K s₁.heap A b = none := fun {b o es ep} e d => by
    cases q : argH K s₁.heap A b with
    | none => rfl
    | some u =>
      obtain ⟨_, vs, _, _, ⟨e2, _⟩ | ⟨e2, _⟩⟩ := argH_is ar q
      · rw [e2] at e
        cases e
        have d' : Data.seq vs.toArray _ = Data.dict es ep := d
        cases d'
      · rw [e2] at e
        cases e
        have d' : Data.seq vs.toArray _ = Data.dict es ep := d
        cases d'
  generalize argH K s₁.heap A = H at hO hok hS hK noA
  have base_of : ∀ {b : Addr} {o : Obj}, s₁.heap.get? b = some o → H b = none → (hidT s₁.heap H).get? b = some o := fun e n => hidT_get e n
  have nsK : ∀ {b : Addr} {m : Str → Option Value}, s₁.heap.Ns b m → (hidT s₁.heap H).Ns b m := fun {b m} ⟨o, es, ep, e, d, r⟩ => ⟨o, es, ep, base_of e (noA e d), d, r⟩
  have nK : ∀ b o, K.lookup b = some o → H b = none := fun b o e => by
    cases q : H b with
    | none => rfl
    | some u =>
      rw [hK b u q] at e
      cases e
  have hKb : K.In (hidT s₁.heap H) := fun b o e => base_of (KX b o e) (nK b o e)
  have hM : Mod K mg (hidT s₁.heap H) := ⟨hKb, nsK hns, ⟨mb, nsK hb, hbb⟩, let ⟨mc, h1, h2⟩ := hlim; ⟨mc, nsK h1, h2⟩⟩
  have e0 : Env0 P w K mg (hidT s₁.heap H) callerA [] s₁ H := ⟨rfl, hM, fun b o e => of_hidT e, Nat.le_of_eq (hidT_size _ _), trivial, fun b hb => absurd (show b ∈ ([] : List Addr) from hb) (by simp), hok, .of_eq hg⟩
  have hl : vals.length = ps.length := by rw [wellAll_len hwl]; exact hlen
  refine codeAny_mono ((F _ hKb (nsK hns)).run callerA [] s₁ H ⟨vals, []⟩ vals (vals.map toV) _ _ hr e0 (hbind s₁ vals hl) hV (hsp H _ hO hS)) fun r s' x => ?_
  cases r with
  | error e => exact (hCX H e s' x).elim
  | ok fl =>
    cases fl with
    | next => exact False.elim x
    | brk => exact False.elim x
    | cont => exact False.elim x
    | ret u =>
      obtain ⟨v, H', os, bare, un, hok', r', q⟩ := x
      have kept : ∀ b o, s₁.heap.get? b = some o → s'.heap.get? b = some o := fun b o e => by
        cases q2 : H b with
        | none => exact un.keep b o e q2 (by intro z; exact absurd (show b ∈ ([] : List Addr) from z) (by simp)) (by simp)
        | some u2 =>
          rcases hO b with z | ⟨ob, u3, z⟩
          · rw [q2] at z
            cases z
          · have z2 := un.frzs b ob _ z
            obtain ⟨e1, _⟩ := hok b _ z
            obtain ⟨e2, _⟩ := hok' b _ z2
            rw [e] at e1
            cases e1
            exact e2
      have KX' : K.In s'.heap := fun b o e => kept b o (KX b o e)
      obtain ⟨as, hrd⟩ := Dw.reads (R := R) (cl := cl) hok' KX' d0 v u q r'
      exact ⟨u, as, rfl, hrd, OldK.of_keep kept, os, bare⟩
theorem layable_weight {ds : List WData} (h : WData.layableAll ds = true) : ∀ d ∈ ds, d.weight ≤ 1048576 := fun d hd =>
  (PySem.W.layableW_iff.mp (List.all_eq_true.mp h d hd)).2.2
theorem encAll_len : ∀ (cs : List Codec) (a : Codec.denoteAll cs), (Codec.encAll cs a).length = cs.length
  | [], _ => rfl
  | c :: cs, a => by
    show (Codec.encAll cs a.2).length + 1 = cs.length + 1
    rw [encAll_len cs a.2]
theorem walk_spec {r : OpenSpec} {k : Nat} {q : Program} {loose : List Str} {XP : (Str → Option Value) → Heap → Prop} {YP : World → Heap → Prop} {d : DefRec} {K : Params → PySem.W.Frag} {CX : World → CXT} {ps : List Str} {sp : World → Sp}
    (hwell : r.wellSaid = true) (hdf : d.params.defaults = []) (hlen : r.args.length = ps.length) (hr : Room k callerA)
    (hY : ∀ (w : World) (h : Heap), YP w h → (K w.params).In h)
    (F : ∀ (w : World) (mg : Str → Option Value) (fa : Addr) (h : Heap), YP w h → (K w.params).In h → h.Ns mainGlobals mg → mg d.name = some (.ref fa) →
      ∃ fd : FuncData, (∀ (s : Shared) (us : List Value), us.length = ps.length → BindsTo s fd ⟨us, []⟩ (ps.zip us)) ∧
        ∀ base : Heap, (K w.params).In base → base.Ns mainGlobals mg → FnOk r.prog w (K w.params) mg base (CX w) k fa fd ps (sp w))
    (hsp : ∀ (w : World) (H : Hp) (xs : List V) (a : Codec.denoteAll r.args), OnlyF H → Codec.withinAll r.args a = true → Codec.app r.args r.asked a = true → DwAll (K w.params) H xs (Codec.encAll r.args a) →
      sp w xs H (fun v H' => Dw (K w.params) H' v (r.ret.enc (Codec.app r.args r.f a))) fun _ _ _ => False)
    (hCX : ∀ (w : World) (H : Hp) (s : Shared) (e : Value) (s' : Shared), CX w [] H s (fun _ _ _ => False) e s' → False) :
    PySem.W.WalkOS q loose XP YP r d [] (fun f vs => PySem.call f vs) := by
  intro w s_0 s₁ mg mb G Y fa o pm cd doc dV kV ho hd hcd hD hmg hg args vals as hpre hlay hrd hwl hlo
  obtain ⟨a, e1, e2⟩ := PySem.W.os_pre_some hpre
  obtain ⟨e3, hwi⟩ := Codec.encAll_of_decAll r.args args a e1
  subst e3
  have KX := hY w _ Y
  obtain ⟨fd, hb, hF⟩ := F w mg fa _ Y KX G.T.g hmg
  refine PySem.W.enter_call (codeAny_mono (spec_call (R := []) (cl := classAt s_0.heap) (d0 := r.ret.enc (Codec.app r.args r.f a)) KX G.T.g G.T.b G.T.builtins G.T.nolimit hg hwl (pl_encAll _ _) (layable_weight hlay) hr hF hb (by rw [encAll_len]; exact hlen)
    (fun H xs hO hS => hsp w H xs a hO hwi e2 hS) fun H e s' => hCX w H s₁ e s') fun r' s' hq => ?_)
  obtain ⟨u, as', rfl, h1, h2, h3, h4⟩ := hq
  exact ⟨.inl ⟨u, _, as', rfl, fun _ => rfl, h1, (OpenSpec.post_iff hwell hwi _ _).mpr rfl, fun z => Bool.noConfusion (show false = true from z)⟩, h2, h3, h4⟩
theorem walk_specK {r : OpenSpec} {k : Nat} {q : Program} {loose : List Str} {XP : (Str → Option Value) → Heap → Prop} {YP : World → Heap → Prop} {d : DefRec} {K : Params → PySem.W.Frag} {CX : CXT} {ps : List Str} {sp : PySem.W.Frag → Sp}
    (hwell : r.wellSaid = true) (hdf : d.params.defaults = []) (hlen : r.args.length = ps.length) (hr : Room k callerA)
    (hY : ∀ (w : World) (h : Heap), YP w h → (K w.params).In h)
    (F : ∀ (w : World) (mg : Str → Option Value) (fa : Addr) (h : Heap), YP w h → (K w.params).In h → h.Ns mainGlobals mg → mg d.name = some (.ref fa) →
      ∃ fd : FuncData, (∀ (s : Shared) (us : List Value), us.length = ps.length → BindsTo s fd ⟨us, []⟩ (ps.zip us)) ∧
        ∀ base : Heap, (K w.params).In base → base.Ns mainGlobals mg → FnOk r.prog w (K w.params) mg base CX k fa fd ps (sp (K w.params)))
    (hsp : ∀ (K : PySem.W.Frag) (H : Hp) (xs : List V) (a : Codec.denoteAll r.args), OnlyF H → Codec.withinAll r.args a = true → Codec.app r.args r.asked a = true → DwAll K H xs (Codec.encAll r.args a) →
      sp K xs H (fun v H' => Dw K H' v (r.ret.enc (Codec.app r.args r.f a))) fun _ _ _ => False)
    (hCX : ∀ (H : Hp) (s : Shared) (e : Value) (s' : Shared), CX [] H s (fun _ _ _ => False) e s' → False) :
    PySem.W.WalkOS q loose XP YP r d [] (fun f vs => PySem.call f vs) :=
  walk_spec (K := K) (CX := fun _ => CX) (sp := fun w => sp (K w.params)) hwell hdf hlen hr hY F (fun w H xs a h1 h2 h3 h4 => hsp (K w.params) H xs a h1 h2 h3 h4) fun _ H s e s' => hCX H s e s'
end L2
-- rests on (row put in by the clerk, for the bench that shows a file only what it spells): KE.SpHead KE.OsShapes
end
end
section
set_option Elab.async false
set_option linter.all false
set_option maxRecDepth 100000
set_option maxHeartbeats 4000000
namespace Py
open PySem PySem.Spec PyProof.Rows L2
open Bn (Rhythm Phase)
/-! ### the text by places -/
def top (i : Nat) : Stmt := PySem.Challenge.pw_lightrhythms_s01_answers.main.body.getD i (.Pass ⟨0, 0, 0, 0⟩)
/-! ### names of the file's top -/
def GI (mg : Str → Option Value) (x : Str) (i : Int) : Prop := ∃ t, mg x = some (Value.int i t)
section
variable {X : Cx} {x : Str} {pos p : Pos} {e : Expr} {es : List Expr} {t : TA}
theorem pe_gi {i : Int} (hg : Gl X x) (h : GI X.mg x i) (hd : (x == ("__debug__" : Str)) = false := by decide) : PE X (.Name x pos) (tC (.int i)) :=
  let ⟨t, e⟩ := h
  pe_glob hg e ⟨t, rfl⟩ hd
theorem pe_gr {a : Addr} (hg : Gl X x) (h : X.mg x = some (.ref a)) (hd : (x == ("__debug__" : Str)) = false := by decide) : PE X (.Name x pos) (tC (.ref a)) := pe_glob hg h rfl hd
end
/-- a def that keeps its promise stands at the file's top -/
def Has (P : Program) (w : World) (K : PySem.W.Frag) (mg : Str → Option Value) (base : Heap) (k : Nat) (x : Str) (ps : List Str) (sp : Sp) : Prop :=
  ∃ f fd, mg x = some (.ref f) ∧ PySem.W.keepIn K (.ref f) = true ∧ Binds K fd ps [] ∧ FnOk P w K mg base CX0 k f fd ps sp
theorem pe_has {X : Cx} {x : Str} {pos p : Pos} {e : Expr} {es : List Expr} {t : TA} {k : Nat} {ps : List Str} {sp : Sp} (h : Has X.prog X.w X.K X.mg X.base k x ps sp) (hr : Room k X.A) (hg : Gl X x)
    (ha : PA X (e :: es) t) (hdb : (x == ("__debug__" : Str)) = false := by decide) (he : starEach (e :: es) X.env = (false, eval e X.env) :: starEach es X.env := by rfl) (hpl : (backTo pos (starEach es X.env)).any (·.1) = false := by rfl) :
    PE X (.Call (.Name x p) (e :: es) [] pos) (tCall sp [] E0 t) :=
  let ⟨f, fd, hm, hk, hb, F⟩ := h
  pe_call F hr hg hm hk hb .nil pass0 ha hdb he hpl
/-! ### rules whose reading names the written part as it is (within a comprehension) -/
section
variable {X : Cx} {K : PySem.W.Frag}
theorem pg_tupK {es : List Expr} {k : Nat} {t : TGs} {n : Nat} {pos : Pos} (hK : X.K = K) (hc : X.calm = true) (h : PGs X es t)
    (hn : (assignEach es X.env).length = n := by rfl) (hst : (assignEach es X.env).findIdx? (·.1) = none := by rfl) : PG X (.Tuple es k pos) (gTup K n t) := by
  subst hK
  exact pg_tup hc h hn hst
theorem ix_listK (hK : X.K = K) : IxR X (rIxL K) := by
  subst hK
  exact ix_list
theorem ix_tupK (hK : X.K = K) : IxR X (rIxT K) := by
  subst hK
  exact ix_tup
theorem sl_listK (hK : X.K = K) : SlR X (rSlL K) := by
  subst hK
  exact sl_list
theorem call_len_seqK (hK : X.K = K) : CallR X (.builtin "len") (fun xs H Q => ∃ p ys, xs = [.ref p] ∧ (SqL K H p ys ∨ SqT K H p ys) ∧ Q (.int ys.length) H) := by
  subst hK
  exact call_len_seq
end
/-! ### heaps -/
theorem _root_.L2.Same.new {H : Hp} {p : Addr} {o : HO} (h : H p = none) : Same H (upd H p o) := fun b u e => by
  rw [upd_ne (ne_of_none e h)]
  exact e
theorem _root_.L2.Same.put {H H' : Hp} {p : Addr} {o : HO} (s : Same H H') (h : H p = none) : Same H (upd H' p o) := fun b u e => by
  rw [upd_ne (ne_of_none e h)]
  exact s b u e
theorem _root_.L2.Same.tup {K : PySem.W.Frag} {H H' : Hp} {a : Addr} {xs : List V} (e : Same H H') (h : SqT K H a xs) : SqT K H' a xs := by
  rcases h with (h | ⟨o, h⟩) | h
  · exact .inl (.inl (e _ _ h))
  · exact .inl (.inr ⟨o, e _ _ h⟩)
  · exact .inr h
/-! ### pairs of lists -/
section
variable {α β : Type} {F : α → β → Prop}
theorem pr_append : ∀ {a c : List α} {b d : List β}, Paired F a b → Paired F c d → Paired F (a ++ c) (b ++ d)
  | _, _, _, _, .nil, s => s
  | _, _, _, _, .cons r t, s => .cons r (pr_append t s)
theorem pr_take : ∀ {a : List α} {b : List β} (n : Nat), Paired F a b → Paired F (a.take n) (b.take n)
  | _, _, 0, _ => .nil
  | _, _, _ + 1, .nil => .nil
  | _, _, n + 1, .cons r t => .cons r (pr_take n t)
theorem pr_drop : ∀ {a : List α} {b : List β} (n : Nat), Paired F a b → Paired F (a.drop n) (b.drop n)
  | _, _, 0, r => r
  | _, _, _ + 1, .nil => .nil
  | _, _, n + 1, .cons _ t => pr_drop n t
theorem pr_get : ∀ {a : List α} {b : List β} {i : Nat} {x : α}, Paired F a b → a[i]? = some x → ∃ y, b[i]? = some y ∧ F x y
  | _, _, _, _, .nil, e => by simp at e
  | _, _, 0, _, .cons r _, e => by
    have e' := Option.some.inj e
    subst e'
    exact ⟨_, rfl, r⟩
  | _, _, i + 1, x, .cons _ t, e => pr_get (i := i) t e
theorem pr_getR : ∀ {a : List α} {b : List β} {i : Nat} {y : β}, Paired F a b → b[i]? = some y → ∃ x, a[i]? = some x ∧ F x y
  | _, _, _, _, .nil, e => by simp at e
  | _, _, 0, _, .cons r _, e => by
    have e' := Option.some.inj e
    subst e'
    exact ⟨_, rfl, r⟩
  | _, _, i + 1, x, .cons _ t, e => pr_getR (i := i) t e
theorem pr_snoc_inv {a : List α} {x : α} {b : List β} (h : Paired F (a ++ [x]) b) : ∃ c y, b = c ++ [y] ∧ Paired F a c ∧ F x y := by
  induction a generalizing b with
  | nil =>
    cases h with
    | cons r t =>
      cases t
      exact ⟨[], _, rfl, .nil, r⟩
  | cons z a ih =>
    cases h with
    | cons r t =>
      obtain ⟨c, y, rfl, h1, h2⟩ := ih t
      exact ⟨_ :: c, y, rfl, .cons r h1, h2⟩
theorem pr_imp {G : α → β → Prop} (f : ∀ a b, F a b → G a b) : ∀ {a : List α} {b : List β}, Paired F a b → Paired G a b
  | _, _, .nil => .nil
  | _, _, .cons r t => .cons (f _ _ r) (pr_imp f t)
theorem pr_rep (n : Nat) {a : List α} {b : List β} (h : Paired F a b) : Paired F (List.replicate n a).flatten (List.replicate n b).flatten := by
  induction n with
  | zero => exact .nil
  | succ n ih =>
    rw [List.replicate_succ, List.replicate_succ, List.flatten_cons, List.flatten_cons]
    exact pr_append h ih
end
/-! ### phases and rhythms in the heap -/
def phV (x : Phase) : List V := [.int ((x.1 : Nat) : Int), .int ((x.2 : Nat) : Int)]
def PhV (K : PySem.W.Frag) (H : Hp) (v : V) (x : Phase) : Prop := ∃ a, v = .ref a ∧ SqT K H a (phV x)
abbrev RhyV (K : PySem.W.Frag) (H : Hp) : List V → Rhythm → Prop := Paired (PhV K H)
theorem RhyV.same {K : PySem.W.Frag} {H H' : Hp} {vs : List V} {r : Rhythm} (h : RhyV K H vs r) (s : Same H H') : RhyV K H' vs r :=
  pr_imp (fun v x ⟨a, e, q⟩ => ⟨a, e, s.tup q⟩) h
/-- a list that holds a rhythm's phases -/
def RhyL (K : PySem.W.Frag) (H : Hp) (a : Addr) (r : Rhythm) : Prop := ∃ vs, SqL K H a vs ∧ RhyV K H vs r
theorem RhyL.same {K : PySem.W.Frag} {H H' : Hp} {a : Addr} {r : Rhythm} (h : RhyL K H a r) (s : Same H H') : RhyL K H' a r :=
  let ⟨vs, h1, h2⟩ := h
  ⟨vs, s.seq h1, h2.same s⟩
theorem take_snoc {α : Type} : ∀ {l : List α} {i : Nat} {x : α}, l[i]? = some x → l.take (i + 1) = l.take i ++ [x]
  | [], i, x, h => by simp at h
  | a :: l, 0, x, h => by
    have e : a = x := Option.some.inj h
    subst e
    rfl
  | a :: l, i + 1, x, h => by
    have ih := take_snoc (l := l) (i := i) (x := x) h
    show a :: l.take (i + 1) = a :: l.take i ++ [x]
    rw [ih]
    rfl
theorem small {n : Nat} (h : n ≤ 1000000) : n < sizeLine := Nat.lt_of_le_of_lt h (by decide)
/-! ### what the top holds -/
def GS (mg : Str → Option Value) (x s : Str) : Prop := ∃ t, mg x = some (Value.str s t)
theorem pe_gs {X : Cx} {x s : Str} {pos : Pos} (hg : Gl X x) (h : GS X.mg x s) (hd : (x == ("__debug__" : Str)) = false := by decide) : PE X (.Name x pos) (tC (.str s)) :=
  let ⟨t, e⟩ := h
  pe_glob hg e ⟨t, rfl⟩ hd
/-- a tuple that the top has written -/
def KT (K : PySem.W.Frag) (a : Addr) (xs : List V) : Prop := ∃ o, K.lookup a = some o ∧ o.cls = .type "tuple" ∧ o.dict = none ∧ ∀ H, SqT K H a xs
def GT (K : PySem.W.Frag) (mg : Str → Option Value) (x : Str) (ns : List Int) : Prop := ∃ a, mg x = some (.ref a) ∧ KT K a (ns.map V.int)
/-- the four letters with their colours -/
def GL (K : PySem.W.Frag) (mg : Str → Option Value) (x : Str) (ls : List (Int × Str)) : Prop := ∃ a as, mg x = some (.ref a) ∧ KT K a (as.map V.ref) ∧ Paired (fun b (l : Int × Str) => KT K b [.int l.1, .str l.2]) as ls
structure Txt (K : PySem.W.Frag) (mg : Str → Option Value) : Prop where
  n_max : mg "max" = none
  n_set : mg "set" = none
  n_all : mg "all" = none
  g_DARK : GI mg "DARK" 0
  g_LIT : GI mg "LIT" 1
  g_LONG_FLASH : GI mg "LONG_FLASH" 20
  g_JUDGE : GI mg "JUDGE" 0
  g_FORM : GI mg "FORM" 1
  g_SAME : GI mg "SAME" 2
  g_SHIFT : GI mg "SHIFT" 3
  g_AT : GI mg "AT" 4
  g_PERIOD : GI mg "PERIOD" 6
  g_LATEST : GI mg "LATEST" 1000000
  g_TOO_LATE : GI mg "TOO_LATE" (-1)
  g_THERE_IS_NONE : GI mg "THERE_IS_NONE" (-3)
  g_FIXED : GS mg "FIXED" "F"
  g_OCCULTING : GS mg "OCCULTING" "Oc"
  g_COLOUR_BYTES : GT K mg "COLOUR_BYTES" [45, 87, 82, 71, 89]
  g_TIMES : GT K mg "TIMES" [0, 0, 0, 0, 1, 1, 0, 0]
  g_TEXTS : GT K mg "TEXTS" [1, 1, 2, 2, 1, 1, 1, 1]
  g_LETTERS : GL K mg "LETTERS" [(1, "W"), (2, "R"), (3, "G"), (4, "Y")]
  n_len : mg "len" = none
  n_sum : mg "sum" = none
  n_min : mg "min" = none
  n_range : mg "range" = none
  n_enumerate : mg "enumerate" = none
  n_str : mg "str" = none
  n_ord : mg "ord" = none
  g_BLANK : GI mg "BLANK" 32
  g_NOUGHT : GI mg "NOUGHT" 48
  g_NINE : GI mg "NINE" 57
  g_MOST_BYTES : GI mg "MOST_BYTES" 1024
  g_MOST_PHASES : GI mg "MOST_PHASES" 32
  g_LONGEST_PHASE : GI mg "LONGEST_PHASE" 600
  g_LONGEST_RHYTHM : GI mg "LONGEST_RHYTHM" 6000
  g_TOO_MANY_BYTES : GI mg "TOO_MANY_BYTES" (-2)
  g_AT_FAULT : GI mg "AT_FAULT" (-6)
section
variable {P : Program} {w : World} {K : PySem.W.Frag} {mg : Str → Option Value} {base : Heap}
/-! ### span_of -/
abbrev s_span_of : Stmt := top 2
theorem sc_span_of : FnScope ["phases", "colour", "length"] ["phases"] (defScope s_span_of) := ⟨rfl, rfl, rfl, by decide +kernel, rfl, by decide +kernel, by decide +kernel⟩
def spSpan (K : PySem.W.Frag) : Sp := fun vs H Q _ => ∃ a r, vs = [.ref a] ∧ RhyL K H a r ∧ r.length ≤ 1000000 ∧ ∀ H', Same H H' → Q (.int ((Bn.total r : Nat) : Int)) H'
theorem sum_total : ∀ r : Rhythm, (r.map fun x => ((x.2 : Nat) : Int)).sum = ((Bn.total r : Nat) : Int)
  | [] => rfl
  | x :: r => by
    rw [List.map_cons, List.sum_cons, sum_total r, Lt.total_cons]
    omega
theorem ok_span_of {f : Addr} {fd : FuncData} (F : Fun K "span_of" "span_of" s_span_of f fd) (T : Txt K mg) : FnOk P w K mg base CX0 1 f fd ["phases"] (spSpan K) := by
  refine F.ok sc_span_of (fun vs H Q E h => ?_) (fun cdv A outer s H vs Q E hr h => ?_)
  · obtain ⟨a, r, rfl, _⟩ := h
    rfl
  · obtain ⟨a, r, rfl, ⟨us, hL, hV⟩, hlen, k⟩ := h
    refine ⟨_, (pss_one (ps_ret (pe_callB (cr_sum rfl) (by rfl) T.n_sum boot_sum (pa_cons (pe_lc rfl sc_span_of.nd (pi_list (pv 0)) (blkOk_by (own := [("colour", 1), ("length", 2)]) (by kernel_rfl)) (fun _ _ _ _ _ => (pg_tupK (K := K) (n := 2) rfl rfl (pgs_cons (pg_name (i := 1) sc_span_of.nd rfl (Or.inl rfl)) (pgs_cons (pg_name (i := 2) sc_span_of.nd rfl (Or.inl rfl)) pgs_nil)))) (fun _ _ _ _ _ => pts_nil) (fun _ _ _ _ _ => (pv 2))) pa_nil)))), ?_⟩
    have hul : us.length = r.length := hV.length
    refine ⟨_, rfl, a, rfl, ⟨_, hL⟩, fun D hD => ?_⟩
    refine lc_list (K := K) (a := a) (xs := us) (fun i H' => Same H H' ∧ H' D = some (.lst ((r.take i).map fun x => V.int ((x.2 : Nat) : Int)))) ⟨Same.new hD, upd_same⟩ (fun i H' _ h => h.1.seq hL) ?_ ?_
    · rintro i x H' hx ⟨s1, hd⟩
      obtain ⟨y, hy, ⟨b, rfl, hb⟩⟩ := pr_get hV hx
      refine ⟨b, _, rfl, s1.tup hb, rfl, _, _, rfl, _, _, rfl, rfl, rfl, ?_⟩
      refine ⟨_, rfl, _, hd, small (by rw [List.length_map, List.length_take]; omega), s1.put hD, ?_⟩
      rw [upd_same, take_snoc hy, List.map_append]
      rfl
    · rintro H' ⟨s1, hd⟩
      refine ⟨D, r.map fun x => ((x.2 : Nat) : Int), rfl, SqL.of ?_, ?_⟩
      · rw [hd, hul, List.take_length, List.map_map]
        rfl
      · rw [sum_total]
        exact k H' s1
end
end Py
end
section
set_option Elab.async false
set_option linter.all false
set_option maxRecDepth 100000
set_option maxHeartbeats 4000000
namespace Py
open PySem PySem.Spec PyProof.Rows L2
open Bn (Rhythm Phase)
theorem iteP {c : Bool} {A B : Prop} (h : c = true) (a : A) : if c = true then A else B := by
  rw [if_pos h]
  exact a
theorem iteQ {c : Bool} {A B : Prop} (h : c = false) (b : B) : if c = true then A else B := by
  rw [if_neg (by rw [h]; exact Bool.false_ne_true)]
  exact b
theorem SqT_lst {K : PySem.W.Frag} {H : Hp} {a p : Addr} {xs ys : List V} {o : HO} (h : SqT K H a xs) (hp : H p = some (.lst ys)) : SqT K (upd H p o) a xs := by
  rcases h with (h | ⟨u, h⟩) | h
  · refine .inl (.inl ?_)
    rw [upd_ne (ne_of h hp (by intro q; cases q))]
    exact h
  · refine .inl (.inr ⟨u, ?_⟩)
    rw [upd_ne (ne_of h hp (by intro q; cases q))]
    exact h
  · exact .inr h
theorem RhyV_lst {K : PySem.W.Frag} {H : Hp} {p : Addr} {ws ys : List V} {r : Rhythm} {o : HO} (h : RhyV K H ws r) (hp : H p = some (.lst ys)) : RhyV K (upd H p o) ws r :=
  pr_imp (fun v x ⟨a, e, q⟩ => ⟨a, e, SqT_lst q hp⟩) h
section
variable {P : Program} {w : World} {K : PySem.W.Frag} {mg : Str → Option Value} {base : Heap}
/-! ### joined -/
abbrev s_joined : Stmt := top 3
theorem sc_joined : FnScope ["phases", "runs", "colour", "length"] ["phases"] (defScope s_joined) := ⟨rfl, rfl, rfl, by decide +kernel, rfl, by decide +kernel, by decide +kernel⟩
def spJoined (K : PySem.W.Frag) : Sp := fun vs H Q _ => ∃ a r, vs = [.ref a] ∧ RhyL K H a r ∧ r.length ≤ 1000000 ∧
  ∀ H' p us, Same H H' → H p = none → H' p = some (.lst us) → RhyV K H' us (Bn.joined r) → Q (.ref p) H'
theorem joined_len : ∀ r : Rhythm, (Bn.joined r).length ≤ r.length
  | [] => Nat.le_refl _
  | x :: l => by
    have ih := joined_len l
    rw [Lt.joined_cons]
    cases e : Bn.joined l with
    | nil => simp [Lt.mrg]
    | cons z m =>
      rw [e] at ih
      rw [Lt.mrg_cons]
      rw [List.length_cons] at ih ⊢
      split <;> simp only [List.length_cons] <;> omega
theorem ok_joined {f : Addr} {fd : FuncData} (F : Fun K "joined" "joined" s_joined f fd) (T : Txt K mg) : FnOk P w K mg base CX0 1 f fd ["phases"] (spJoined K) := by
  refine F.ok sc_joined (fun vs H Q E h => ?_) (fun cdv A outer s H vs Q E hr h => ?_)
  · obtain ⟨a, r, rfl, _⟩ := h
    rfl
  · obtain ⟨a, r, rfl, ⟨us, hL, hV⟩, hlen, k⟩ := h
    refine ⟨_, (pss_cons (ps_set (i := 1) sc_joined.nd rfl (Or.inl rfl) (pe_lst pa_nil))
      (pss_cons (ps_for PassesOwn.never rfl (pi_list (pv 0)) (pg_tup rfl (pgs_cons (pg_name (i := 2) sc_joined.nd rfl (Or.inl rfl)) (pgs_cons (pg_name (i := 3) sc_joined.nd rfl (Or.inl rfl)) pgs_nil)))
      (pss_one (ps_if (pw_and (pt_cmpR op_gt (pe_callB call_len_seq (by rfl) T.n_len PySem.boot_len (pa_cons (pv 1) pa_nil)) pe_int (nomark _)) (pw_and1 (pt_cmpR op_eq (pe_ix ix_tup (pe_ix ix_list (pv 1) (pe_un un_neg pe_int) (fun _ _ => rfl)) pe_int (fun _ _ => rfl)) (pv 2) (nomark _)))).pt (pss_one (ps_asg (pe_tup (pa_cons (pv 2) (pa_cons (pe_op op_add (pe_ix ix_tup (pe_ix ix_list (pv 1) (pe_un un_neg pe_int) (fun _ _ => rfl)) pe_int (fun _ _ => rfl)) (pv 3)) pa_nil))) (pg_sub (pv 1) (pe_un un_neg pe_int) set_list))) (pss_one (ps_expr (pe_bm PySem.F.plainAttrs_list PySem.F.slot_list_append PySem.F.type_list_append mt_append (pv 1) (pa_cons (pe_tup (pa_cons (pv 2) (pa_cons (pv 3) pa_nil))) pa_nil)))))))
      (pss_one (ps_ret (pv 1))))), ?_⟩
    have hul : us.length = r.length := hV.length
    refine ⟨Nat.zero_le _, fun p hp0 => ?_⟩
    refine ⟨_, rfl, a, rfl, ⟨_, (Same.new hp0).seq hL⟩, for_list (K := K) (a := a) (xs := us) (fun i σ H' => ∃ (v2 v3 : Option V) (ws : List V), σ = [some (.ref a), some (.ref p), v2, v3] ∧ Same H H' ∧ H' p = some (.lst ws) ∧ RhyV K H' ws (Bn.joined (r.take i)))
      ⟨none, none, [], rfl, Same.new hp0, upd_same, .nil⟩ (fun i σ H' _ ⟨_, _, _, _, s1, _⟩ => s1.seq hL) ?_ ?_⟩
    · rintro i x σ H' hx ⟨v2, v3, ws, rfl, s1, hp, hW⟩
      obtain ⟨y, hy, ⟨b, rfl, hb⟩⟩ := pr_get hV hx
      have hi : i < r.length := by
        rcases Nat.lt_or_ge i r.length with h | h
        · exact h
        · rw [List.getElem?_eq_none h] at hy; cases hy
      have ej : Bn.joined (r.take (i + 1)) = Lt.joinStep (Bn.joined (r.take i)) y := by rw [take_snoc hy, Lt.joined_snoc]
      have hwl : ws.length ≤ 1000000 := by
        have h1 := hW.length
        have h2 := joined_len (r.take i)
        rw [List.length_take] at h2
        omega
      refine ⟨b, _, rfl, s1.tup hb, rfl, _, _, rfl, _, _, rfl, rfl, ?_⟩
      rcases List.eq_nil_or_concat ws with rfl | ⟨ws, v, rfl⟩
      · -- nothing yet
        have e0 : Bn.joined (r.take i) = [] := by
          have := hW.length
          exact List.eq_nil_of_length_eq_zero this.symm
        refine ⟨_, rfl, p, _, rfl, .inl (SqL.of hp), _, _, rfl, rfl, _, rfl, ?_⟩
        refine ⟨_, rfl, .inl ⟨rfl, _, SqL.of hp⟩, _, rfl, _, rfl, (by show 2 ≤ sizeLine; decide), fun t ht => ?_⟩
        have hp2 : (upd H' t (.tup [.int ((y.1 : Nat) : Int), .int ((y.2 : Nat) : Int)])) p = some (.lst []) := by
          rw [upd_ne (ne_of_none hp ht)]
          exact hp
        refine ⟨p, _, _, rfl, rfl, hp2, (by show 0 < sizeLine; decide), ?_⟩
        refine ⟨_, _, _, rfl, (s1.put (s1.free ht)).put hp0, upd_same, ?_⟩
        rw [ej, e0, Lt.joinStep_nil]
        refine .cons ⟨t, rfl, SqT.of ?_⟩ .nil
        rw [upd_ne (ne_of_none hp ht).symm]
        exact upd_same
      · rw [List.concat_eq_append] at hp hW hwl
        obtain ⟨l, z, el, hWl, ⟨c, rfl, hc⟩⟩ := pr_snoc_inv hW
        have hpos : decide ((0 : Int) < (((ws ++ [V.ref c]).length : Nat) : Int)) = true := decide_eq_true (by rw [List.length_append]; show (0 : Int) < ((ws.length + 1 : Nat) : Int); omega)
        refine ⟨_, rfl, p, _, rfl, .inl (SqL.of hp), _, _, rfl, rfl, _, rfl, iteP hpos ?_⟩
        refine ⟨_, rfl, _, rfl, p, _, _, _, rfl, rfl, SqL.of hp, atI_last ws _, c, _, _, _, rfl, rfl, hc, atI_nat (j := 0) rfl, _, rfl, rfl, _, rfl, ?_⟩
        by_cases hz : z.1 = y.1
        · -- the last one goes on
          refine iteP (decide_eq_true (by rw [hz])) ?_
          refine ⟨_, rfl, _, rfl, _, rfl, p, _, _, _, rfl, rfl, SqL.of hp, atI_last ws _, c, _, _, _, rfl, rfl, hc, atI_nat (j := 1) rfl, _, rfl, _, _, rfl, rfl, (by show 2 ≤ sizeLine; decide), fun t ht => ?_⟩
          have hp2 : (upd H' t (.tup [.int ((y.1 : Nat) : Int), .int (((z.2 : Nat) : Int) + ((y.2 : Nat) : Int))])) p = some (.lst (ws ++ [V.ref c])) := by
            rw [upd_ne (ne_of_none hp ht)]
            exact hp
          have hix : ixN (ws ++ [V.ref c]).length (-1) = some ws.length := by
            unfold ixN
            rw [List.length_append, if_neg (by decide), if_pos (by show -((ws.length + 1 : Nat) : Int) ≤ -1; omega)]
            congr 1
            show ((-1 : Int) + ((ws.length + 1 : Nat) : Int)).toNat = _
            omega
          refine ⟨_, rfl, _, rfl, p, _, _, _, rfl, rfl, hp2, hix, ?_⟩
          refine ⟨_, _, _, rfl, (s1.put (s1.free ht)).put hp0, upd_same, ?_⟩
          have es : (ws ++ [V.ref c]).set ws.length (V.ref t) = ws ++ [V.ref t] := by
            rw [List.set_append_right _ _ (Nat.le_refl _), Nat.sub_self]
            rfl
          rw [ej, el, Lt.joinStep_snoc, if_pos hz, es]
          refine pr_append (RhyV_lst (RhyV.same hWl (Same.new ht)) hp2) (.cons ⟨t, rfl, SqT.of ?_⟩ .nil)
          rw [upd_ne (ne_of_none hp ht).symm, upd_same]
          show some (HO.tup [V.int ((y.1 : Nat) : Int), V.int (((z.2 : Nat) : Int) + ((y.2 : Nat) : Int))]) = some (HO.tup [V.int ((y.1 : Nat) : Int), V.int (((z.2 + y.2 : Nat)) : Int)])
          rw [Int.natCast_add]
        · -- another colour
          refine iteQ (decide_eq_false (fun q => hz (by injection q with q; omega))) ?_
          refine ⟨_, rfl, .inl ⟨rfl, _, SqL.of hp⟩, _, rfl, _, rfl, (by show 2 ≤ sizeLine; decide), fun t ht => ?_⟩
          have hp2 : (upd H' t (.tup [.int ((y.1 : Nat) : Int), .int ((y.2 : Nat) : Int)])) p = some (.lst (ws ++ [V.ref c])) := by
            rw [upd_ne (ne_of_none hp ht)]
            exact hp
          refine ⟨p, _, _, rfl, rfl, hp2, small hwl, ?_⟩
          refine ⟨_, _, _, rfl, (s1.put (s1.free ht)).put hp0, upd_same, ?_⟩
          rw [ej, el, Lt.joinStep_snoc, if_neg hz, ← el]
          refine pr_append (RhyV_lst (RhyV.same hW (Same.new ht)) hp2) (.cons ⟨t, rfl, SqT.of ?_⟩ .nil)
          rw [upd_ne (ne_of_none hp ht).symm]
          exact upd_same
    · rintro σ H' ⟨v2, v3, ws, rfl, s1, hp, hW⟩
      rw [hul, List.take_length] at hW
      exact ⟨_, rfl, k H' p ws s1 hp0 hp hW⟩
end
end Py
end
section
set_option Elab.async false
set_option linter.all false
set_option maxRecDepth 100000
set_option maxHeartbeats 4000000
namespace Py
open PySem PySem.Spec PyProof.Rows L2
open Bn (Rhythm Phase)
/-! ### rhythms as data, compared -/
def dP (x : Phase) : PyData := .tuple [.int ((x.1 : Nat) : Int), .int ((x.2 : Nat) : Int)]
def dR (r : Rhythm) : PyData := .list (r.map dP)
theorem dpAll {K : PySem.W.Frag} {H : Hp} : ∀ {us : List V} {r : Rhythm}, RhyV K H us r → DpAll K H us (r.map dP)
  | _, _, .nil => .nil
  | _, _, .cons ⟨a, e, q⟩ t => by
    subst e
    exact .cons (.tup q (.cons (.int _) (.cons (.int _) .nil))) (dpAll t)
theorem dp_rhy {K : PySem.W.Frag} {H : Hp} {a : Addr} {us : List V} {r : Rhythm} (h : SqL K H a us) (v : RhyV K H us r) : Dp K H (.ref a) (dR r) := .lst h (dpAll v)
theorem lay_dR : ∀ r : Rhythm, PyData.canLayAll0 (r.map dP) = true
  | [] => rfl
  | x :: r => by
    show (PyData.canLay0 (dP x) && PyData.canLayAll0 (r.map dP)) = true
    rw [lay_dR r]
    rfl
theorem depth_dR : ∀ r : Rhythm, PyData.depthAll (r.map dP) ≤ 1
  | [] => Nat.zero_le _
  | x :: r => by
    show max (PyData.depth (dP x)) (PyData.depthAll (r.map dP)) ≤ 1
    have h1 := depth_dR r
    have h2 : PyData.depth (dP x) = 1 := rfl
    omega
theorem shaped_dR (r : Rhythm) : SeqAt.shaped (dR r) = true := by
  unfold SeqAt.shaped
  rw [Bool.and_eq_true, decide_eq_true_iff]
  refine ⟨lay_dR r, ?_⟩
  show PyData.depthAll (r.map dP) + 1 ≤ 64
  have := depth_dR r
  omega
theorem eqv_dP (x y : Phase) : PyData.eqv (dP x) (dP y) = decide (x = y) := by
  show ((((x.1 : Nat) : Int) == ((y.1 : Nat) : Int)) && ((((x.2 : Nat) : Int) == ((y.2 : Nat) : Int)) && true)) = _
  rw [Bool.and_true]
  by_cases h : x = y
  · subst h
    simp
  · rw [decide_eq_false h]
    rw [Bool.and_eq_false_iff]
    by_cases h1 : x.1 = y.1
    · right
      rw [beq_eq_false_iff_ne]
      intro q
      exact h (Prod.ext h1 (by omega))
    · left
      rw [beq_eq_false_iff_ne]
      intro q
      exact h1 (by omega)
theorem eqv_all : ∀ r s : Rhythm, PyData.eqvAll (r.map dP) (s.map dP) = decide (r = s)
  | [], [] => rfl
  | [], y :: s => by
    show false = _
    rw [decide_eq_false (by simp)]
  | x :: r, [] => by
    show false = _
    rw [decide_eq_false (by simp)]
  | x :: r, y :: s => by
    show (PyData.eqv (dP x) (dP y) && PyData.eqvAll (r.map dP) (s.map dP)) = _
    rw [eqv_dP, eqv_all r s]
    by_cases h1 : x = y
    · by_cases h2 : r = s
      · subst h1 h2
        simp
      · rw [decide_eq_false h2, decide_eq_false (fun q => h2 (List.cons.inj q).2)]
        simp
    · rw [decide_eq_false h1, decide_eq_false (fun q => h1 (List.cons.inj q).1)]
      simp
theorem eqv_dR (r s : Rhythm) : PyData.eqv (dR r) (dR s) = decide (r = s) := eqv_all r s
theorem cut_take (us : List V) (k : Nat) : cutV us none (some (k : Int)) = us.take k := by
  unfold cutV
  rw [HT.sIx_none, HT.sIx_nat, List.drop_zero, Nat.sub_zero]
  rcases Nat.le_total k us.length with h | h
  · rw [Nat.min_eq_left h]
  · rw [Nat.min_eq_right h, List.take_length, List.take_of_length_le h]
theorem cut_drop (us : List V) (k : Nat) : cutV us (some (k : Int)) none = us.drop k := by
  unfold cutV
  rw [HT.sIx_none, HT.sIx_nat]
  rcases Nat.le_total k us.length with h | h
  · rw [Nat.min_eq_left h, List.take_of_length_le (by rw [List.length_drop]; exact Nat.le_refl _)]
  · rw [Nat.min_eq_right h, List.drop_of_length_le h, List.drop_of_length_le (Nat.le_refl _), List.take_nil]
section
variable {P : Program} {w : World} {K : PySem.W.Frag} {mg : Str → Option Value} {base : Heap}
/-! ### closed_behind -/
abbrev s_closed_behind : Stmt := top 4
theorem sc_closed_behind : FnScope ["runs"] ["runs"] (defScope s_closed_behind) := ⟨rfl, rfl, rfl, by decide +kernel, rfl, by decide +kernel, by decide +kernel⟩
def spLead (K : PySem.W.Frag) : Sp := fun vs H Q _ => ∃ a r, vs = [.ref a] ∧ RhyL K H a r ∧ ∀ H', Same H H' → Q (.int ((Lt.leadOf r : Nat) : Int)) H'
theorem lead_short {r : Rhythm} (h : ¬ 1 < r.length) : Lt.leadOf r = 0 := by
  unfold Lt.leadOf
  cases r with
  | nil => rfl
  | cons x l =>
    cases l with
    | cons y l => exact absurd (by simp) h
    | nil => rfl
theorem ok_closed_behind {f : Addr} {fd : FuncData} (F : Fun K "closed_behind" "closed_behind" s_closed_behind f fd) (T : Txt K mg) : FnOk P w K mg base CX0 1 f fd ["runs"] (spLead K) := by
  refine F.ok sc_closed_behind (fun vs H Q E h => ?_) (fun cdv A outer s H vs Q E hr h => ?_)
  · obtain ⟨a, r, rfl, _⟩ := h
    rfl
  · obtain ⟨a, r, rfl, ⟨us, hL, hV⟩, k⟩ := h
    refine ⟨_, (pss_cons (ps_if (pw_and (pt_cmpR op_gt (pe_callB call_len_seq (by rfl) T.n_len PySem.boot_len (pa_cons (pv 0) pa_nil)) pe_int (nomark _)) (pw_and1 (pt_cmpR op_eq (pe_ix ix_tup (pe_ix ix_list (pv 0) pe_int (fun _ _ => rfl)) pe_int (fun _ _ => rfl)) (pe_ix ix_tup (pe_ix ix_list (pv 0) (pe_un un_neg pe_int) (fun _ _ => rfl)) pe_int (fun _ _ => rfl)) (nomark _)))).pt (pss_one (ps_ret (pe_ix ix_tup (pe_ix ix_list (pv 0) pe_int (fun _ _ => rfl)) pe_int (fun _ _ => rfl)))) pss_nil)
      (pss_one (ps_ret pe_int))), ?_⟩
    have hul : us.length = r.length := hV.length
    refine ⟨_, rfl, a, _, rfl, .inl hL, _, _, rfl, rfl, _, rfl, ?_⟩
    by_cases h1 : 1 < r.length
    · refine iteP (decide_eq_true (by omega)) ?_
      obtain ⟨x, m, z, rfl⟩ : ∃ x m z, r = x :: (m ++ [z]) := by
        cases r with
        | nil => simp at h1
        | cons x l =>
          cases l with
          | nil => simp at h1
          | cons y l =>
            obtain ⟨m, z, e⟩ := Lt.snoc_cases (y :: l) (by simp)
            exact ⟨x, m, z, by rw [e]⟩
      cases hV with
      | cons hx hm =>
        rename_i v0 vs0
        obtain ⟨c, rfl, hc⟩ := hx
        have hv0 : vs0 ≠ [] := by
          intro q
          have := hm.length
          rw [q, List.length_append] at this
          simp at this
        obtain ⟨ws, v, rfl⟩ : ∃ ws v, vs0 = ws ++ [v] := ⟨vs0.dropLast, vs0.getLast hv0, (List.dropLast_concat_getLast hv0).symm⟩
        obtain ⟨l', z', e', _, ⟨d, rfl, hd⟩⟩ := pr_snoc_inv hm
        have ez : z = z' := by
          have := congrArg List.getLast? e'
          rw [List.getLast?_concat, List.getLast?_concat] at this
          exact Option.some.inj this
        subst ez
        refine ⟨_, rfl, a, _, _, _, rfl, rfl, hL, atI_nat (j := 0) rfl, c, _, _, _, rfl, rfl, hc, atI_nat (j := 0) rfl, _, rfl, _, rfl, a, _, _, _, rfl, rfl, hL, atI_last (V.ref c :: ws) (V.ref d), d, _, _, _, rfl, rfl, hd, atI_nat (j := 0) rfl, rfl, _, rfl, ?_⟩
        rw [Lt.lead_snoc] at k
        by_cases hxz : x.1 = z.1
        · refine iteP (decide_eq_true (by rw [hxz])) ?_
          rw [if_pos hxz] at k
          exact ⟨_, rfl, a, _, _, _, rfl, rfl, hL, atI_nat (j := 0) rfl, c, _, _, _, rfl, rfl, hc, atI_nat (j := 1) rfl, k H (Same.refl H)⟩
        · refine iteQ (decide_eq_false (fun q => hxz (by injection q with q; omega))) ?_
          rw [if_neg hxz] at k
          exact k H (Same.refl H)
    · refine iteQ (decide_eq_false (by omega)) ?_
      rw [lead_short h1] at k
      exact k H (Same.refl H)
/-! ### one_round -/
abbrev s_one_round : Stmt := top 5
theorem sc_one_round : FnScope ["runs", "count"] ["runs"] (defScope s_one_round) := ⟨rfl, rfl, rfl, by decide +kernel, rfl, by decide +kernel, by decide +kernel⟩
def spRound (K : PySem.W.Frag) : Sp := fun vs H Q _ => ∃ a r, vs = [.ref a] ∧ RhyL K H a r ∧ r ≠ [] ∧ r.length ≤ 1000000 ∧ ∀ H' p, Same H H' → RhyL K H' p (Bn.onceOf r) → Q (.ref p) H'
theorem ok_one_round {f : Addr} {fd : FuncData} (F : Fun K "one_round" "one_round" s_one_round f fd) (T : Txt K mg) : FnOk P w K mg base CX0 1 f fd ["runs"] (spRound K) := by
  refine F.ok sc_one_round (fun vs H Q E h => ?_) (fun cdv A outer s H vs Q E hr h => ?_)
  · obtain ⟨a, r, rfl, _⟩ := h
    rfl
  · obtain ⟨a, r, rfl, ⟨us, hL, hV⟩, hne, hlen, k⟩ := h
    have hu64 := hr.units
    refine ⟨_, (pss_cons (ps_for PassesOwn.never rfl (pi_range2 rfl T.n_range (pa_cons pe_int (pa_cons (pe_callB call_len_seq (by rfl) T.n_len PySem.boot_len (pa_cons (pv 0) pa_nil)) pa_nil))) (pg_name (i := 1) sc_one_round.nd rfl (Or.inl rfl))
      (pss_one (ps_if (pt_cmpR (op_eqD hu64) (pe_op op_rep (pe_slice sl_list (pv 0) po_none (po_some (pv 1))) (pe_op op_fdiv (pe_callB call_len_seq (by rfl) T.n_len PySem.boot_len (pa_cons (pv 0) pa_nil)) (pv 1))) (pv 0) (nomark _)) (pss_one (ps_ret (pe_slice sl_list (pv 0) po_none (po_some (pv 1))))) pss_nil)))
      (pss_one (ps_ret (pv 0)))), ?_⟩
    have hul : us.length = r.length := hV.length
    have hr0 : 0 < r.length := List.length_pos_iff.mpr hne
    refine ⟨_, rfl, a, _, rfl, .inl hL, 1, _, rfl, ⟨by omega, by omega, by omega, by omega⟩, for_range (lo := 1) (n := (((us.length : Nat) : Int) - 1).toNat)
      (fun i σ H' => ∃ v1 : Option V, σ = [some (.ref a), v1] ∧ Same H H' ∧ ∀ c, 1 ≤ c → c < 1 + i → Lt.pow (r.take c) (r.length / c) ≠ r) ⟨none, rfl, Same.refl H, fun c h1 h2 => by omega⟩ ?_ ?_⟩
    · rintro i σ H' hi ⟨v1, rfl, s1, hno⟩
      have hi2 : 1 + i < r.length := by omega
      have ec : (1 : Int) + ((i : Nat) : Int) = ((1 + i : Nat) : Int) := by omega
      refine ⟨_, rfl, _, rfl, _, rfl, a, us, rfl, s1.seq hL, fun q hq => ?_⟩
      rw [ec, cut_take]
      have s2 := s1.put (s1.free hq) (o := .lst (us.take (1 + i)))
      refine ⟨_, rfl, a, _, rfl, .inl (s2.seq hL), _, rfl, _, _, rfl, rfl, ⟨by omega, by omega⟩, ?_⟩
      have ek : ((us.length : Nat) : Int) / ((1 + i : Nat) : Int) = ((r.length / (1 + i) : Nat) : Int) := by rw [hul]; rfl
      have hmul : (r.length / (1 + i)) * (1 + i) ≤ r.length := Nat.div_mul_le_self _ _
      have hdl : r.length / (1 + i) ≤ r.length := Nat.div_le_self _ _
      refine ⟨q, _, us.take (1 + i), rfl, congrArg V.int ek, upd_same, (Int.le_trans (by decide) (Int.natCast_nonneg _)), (Int.lt_of_le_of_lt (Int.ofNat_le.mpr (Nat.le_trans hdl hlen)) (by decide)), ?_, fun q2 hq2 => ?_⟩
      · rw [List.length_take, Int.toNat_natCast, Nat.min_eq_left (by omega), Nat.mul_comm]
        exact Nat.le_trans hmul (Nat.le_of_lt (small hlen))
      rw [Int.toNat_natCast]
      have hq2' : H' q2 = none := by
        have := hq2
        by_cases e : q2 = q
        · rw [e, upd_same] at this; cases this
        · rw [upd_ne e] at this; exact this
      have s3 : Same H (upd (upd H' q (.lst (us.take (1 + i)))) q2 (.lst (List.replicate (r.length / (1 + i)) (us.take (1 + i))).flatten)) := s2.put (s1.free hq2')
      have hV3 : RhyV K (upd (upd H' q (.lst (us.take (1 + i)))) q2 (.lst (List.replicate (r.length / (1 + i)) (us.take (1 + i))).flatten)) us r := RhyV.same hV s3
      refine ⟨_, rfl, _, _, dp_rhy (r := Lt.pow (r.take (1 + i)) (r.length / (1 + i))) (SqL.of upd_same) (pr_rep _ (pr_take _ hV3)), dp_rhy (s3.seq hL) hV3, shaped_dR _, shaped_dR _, _, rfl, ?_⟩
      rw [eqv_dR]
      by_cases hp : Lt.pow (r.take (1 + i)) (r.length / (1 + i)) = r
      · refine iteP (decide_eq_true hp) ?_
        refine ⟨_, rfl, _, rfl, _, rfl, a, us, rfl, s3.seq hL, fun q4 hq4 => ?_⟩
        rw [cut_take]
        have s4 := s3.put (s3.free hq4) (o := .lst (us.take (1 + i)))
        refine k _ q4 s4 ?_
        rw [Lt.onceOf_first (by omega) (by omega) hp fun c h1 h2 => hno c h1 h2]
        exact ⟨_, SqL.of upd_same, pr_take _ (RhyV.same hV s4)⟩
      · refine iteQ (decide_eq_false hp) ?_
        refine ⟨_, rfl, s3, fun c h1 h2 => ?_⟩
        by_cases e : c = 1 + i
        · rw [e]; exact hp
        · exact hno c h1 (by omega)
    · rintro σ H' ⟨v1, rfl, s1, hno⟩
      refine ⟨_, rfl, k H' a s1 ?_⟩
      rw [Lt.onceOf_all hne fun c h1 h2 => hno c h1 (by omega)]
      exact ⟨us, s1.seq hL, RhyV.same hV s1⟩
end
end Py
end
section
set_option Elab.async false
set_option linter.all false
set_option maxRecDepth 100000
set_option maxHeartbeats 4000000
namespace Py
open PySem PySem.Spec PyProof.Rows L2
open Bn (Rhythm Phase)
/-! ### lists of words -/
abbrev WordsV (H : Hp) : List Addr → List (List Int) → Prop := Paired (fun a w => H a = some (.lst (w.map V.int)))
theorem words_upd {H : Hp} {p : Addr} {o : HO} : ∀ {as : List Addr} {ws : List (List Int)}, WordsV H as ws → p ∉ as → WordsV (upd H p o) as ws
  | _, _, .nil, _ => .nil
  | _, _, .cons h t, hp => .cons (by rw [upd_ne (fun e => hp (by rw [e]; simp))]; exact h) (words_upd t fun m => hp (by simp [m]))
theorem words_some {H : Hp} : ∀ {as : List Addr} {ws : List (List Int)} {a : Addr}, WordsV H as ws → a ∈ as → ∃ o, H a = some o
  | _, _, _, .nil, h => by cases h
  | _, _, a, .cons h t, m => by
    rcases List.mem_cons.mp m with rfl | m
    · exact ⟨_, h⟩
    · exact words_some t m
theorem words_new {H : Hp} {p : Addr} {as : List Addr} {ws : List (List Int)} (h : WordsV H as ws) (hp : H p = none) : p ∉ as := fun m => by
  obtain ⟨o, e⟩ := words_some h m
  rw [hp] at e
  cases e
theorem words_same {H H' : Hp} {as : List Addr} {ws : List (List Int)} (h : WordsV H as ws) (s : Same H H') : WordsV H' as ws := pr_imp (fun a w e => s a _ e) h
section
variable {P : Program} {w : World} {K : PySem.W.Frag} {mg : Str → Option Value} {base : Heap}
/-! ### words_of -/
abbrev s_words_of : Stmt := top 22
theorem sc_words_of : FnScope ["text", "words", "word", "byte"] ["text"] (defScope s_words_of) := ⟨rfl, rfl, rfl, by decide +kernel, rfl, by decide +kernel, by decide +kernel⟩
def spWords (K : PySem.W.Frag) : Sp := fun vs H Q _ => ∃ a t, vs = [.ref a] ∧ SqL K H a (t.map V.int) ∧ t.length ≤ 100000 ∧ ∀ H' p as, Same H H' → H' p = some (.lst (as.map V.ref)) → WordsV H' as (Lt.splitI t) → Q (.ref p) H'
theorem ok_words_of {f : Addr} {fd : FuncData} (F : Fun K "words_of" "words_of" s_words_of f fd) (T : Txt K mg) : FnOk P w K mg base CX0 1 f fd ["text"] (spWords K) := by
  refine F.ok sc_words_of (fun vs H Q E h => ?_) (fun cdv A outer s H vs Q E hr h => ?_)
  · obtain ⟨a, t, rfl, _⟩ := h
    rfl
  · obtain ⟨a, t, rfl, hL, hlen, k⟩ := h
    refine ⟨_, (pss_cons (ps_set (i := 1) sc_words_of.nd rfl (Or.inl rfl) (pe_lst pa_nil))
      (pss_cons (ps_set (i := 2) sc_words_of.nd rfl (Or.inl rfl) (pe_lst pa_nil))
      (pss_cons (ps_for PassesOwn.never rfl (pi_list (pv 0)) (pg_name (i := 3) sc_words_of.nd rfl (Or.inl rfl))
      (pss_one (ps_if (pt_cmpR op_eq (pv 3) (pe_gi (by rfl) T.g_BLANK) (nomark _)) (pss_cons (ps_expr (pe_bm PySem.F.plainAttrs_list PySem.F.slot_list_append PySem.F.type_list_append mt_append (pv 1) (pa_cons (pv 2) pa_nil)))
      (pss_one (ps_set (i := 2) sc_words_of.nd rfl (Or.inl rfl) (pe_lst pa_nil)))) (pss_one (ps_expr (pe_bm PySem.F.plainAttrs_list PySem.F.slot_list_append PySem.F.type_list_append mt_append (pv 2) (pa_cons (pv 3) pa_nil)))))))
      (pss_cons (ps_expr (pe_bm PySem.F.plainAttrs_list PySem.F.slot_list_append PySem.F.type_list_append mt_append (pv 1) (pa_cons (pv 2) pa_nil)))
      (pss_one (ps_ret (pv 1))))))), ?_⟩
    refine ⟨Nat.zero_le _, fun p hp0 => ⟨Nat.zero_le _, fun q hq0 => ?_⟩⟩
    have hpq : p ≠ q := ne_of_none (H := upd H p (.lst [])) upd_same hq0
    have hqH : H q = none := by rw [upd_ne hpq.symm] at hq0; exact hq0
    have s0 : Same H (upd (upd H p (.lst [])) q (.lst [])) := (Same.new hp0).put hqH
    refine ⟨_, rfl, a, rfl, ⟨_, s0.seq hL⟩, for_list (K := K) (a := a) (xs := t.map V.int) (fun i σ H' => ∃ (q : Addr) (v3 : Option V) (as : List Addr) (ws : List (List Int)) (wd : List Int),
        σ = [some (.ref a), some (.ref p), some (.ref q), v3] ∧ Same H H' ∧ H' p = some (.lst (as.map V.ref)) ∧ H' q = some (.lst (wd.map V.int)) ∧ WordsV H' as ws ∧ p ∉ as ∧ q ∉ as ∧ p ≠ q ∧ H q = none ∧ as.length ≤ i ∧ wd.length ≤ i ∧
        Lt.splitI (t.take i) = ws ++ [wd])
      ⟨q, none, [], [], [], rfl, s0, by rw [upd_ne hpq]; exact upd_same, upd_same, .nil, by simp, by simp, hpq, hqH, Nat.zero_le _, Nat.zero_le _, rfl⟩ (fun i σ H' _ ⟨_, _, _, _, _, _, s1, _⟩ => s1.seq hL) ?_ ?_⟩
    · rintro i x σ H' hx ⟨q, v3, as, ws, wd, rfl, s1, hp, hq, hW, pa, qa, pq, qH, la, lw, es⟩
      obtain ⟨z, hz, rfl⟩ : ∃ z, t[i]? = some z ∧ x = V.int z := by
        rw [List.getElem?_map] at hx
        obtain ⟨z, hz, e⟩ := Option.map_eq_some_iff.mp hx
        exact ⟨z, hz, e.symm⟩
      have hi : i < t.length := by
        rcases Nat.lt_or_ge i t.length with h | h
        · exact h
        · rw [List.getElem?_eq_none h] at hz; cases hz
      refine ⟨_, rfl, rfl, _, rfl, ?_⟩
      by_cases hb : z = 32
      · refine iteP (decide_eq_true (by rw [hb])) ?_
        refine ⟨_, rfl, .inl ⟨rfl, _, SqL.of hp⟩, _, rfl, p, _, _, rfl, rfl, hp, small (by rw [List.length_map]; omega), ?_⟩
        refine ⟨Nat.zero_le _, fun n hn => ?_⟩
        have np : n ≠ p := fun e => by rw [e, upd_same] at hn; cases hn
        have hn' : H' n = none := by rw [upd_ne np] at hn; exact hn
        have nq : n ≠ q := fun e => by rw [e, hq] at hn'; cases hn'
        have na : n ∉ as := words_new hW hn'
        refine ⟨n, _, as ++ [q], ws ++ [wd], [], rfl, (s1.put hp0).put (s1.free hn'), ?_, upd_same, ?_, ?_, ?_, np.symm, s1.free hn', ?_, Nat.zero_le _, ?_⟩
        · rw [upd_ne np.symm, upd_same, List.map_append]
          rfl
        · refine pr_append (words_upd (words_upd hW pa) na) (.cons ?_ .nil)
          rw [upd_ne nq.symm, upd_ne pq.symm]
          exact hq
        · intro m
          rcases List.mem_append.mp m with m | m
          · exact pa m
          · exact pq (List.mem_singleton.mp m)
        · intro m
          rcases List.mem_append.mp m with m | m
          · exact na m
          · exact nq (List.mem_singleton.mp m)
        · rw [List.length_append]
          show as.length + 1 ≤ i + 1
          omega
        · rw [take_snoc hz, hb, Lt.splitI_blank, es]
      · refine iteQ (decide_eq_false (fun e => hb (by injection e))) ?_
        refine ⟨_, rfl, .inl ⟨rfl, _, SqL.of hq⟩, _, rfl, q, _, _, rfl, rfl, hq, small (by rw [List.length_map]; omega), ?_⟩
        refine ⟨q, _, as, ws, wd ++ [z], rfl, s1.put qH, ?_, ?_, words_upd hW qa, pa, qa, pq, qH, by omega, ?_, ?_⟩
        · rw [upd_ne pq]
          exact hp
        · rw [upd_same, List.map_append]
          rfl
        · rw [List.length_append]
          show wd.length + 1 ≤ i + 1
          omega
        · rw [take_snoc hz]
          exact Lt.splitI_sign z hb _ _ _ es
    · rintro σ H' ⟨q, v3, as, ws, wd, rfl, s1, hp, hq, hW, pa, qa, pq, qH, la, lw, es⟩
      rw [List.length_map] at la lw es
      rw [List.take_length] at es
      refine ⟨_, rfl, .inl ⟨rfl, _, SqL.of hp⟩, _, rfl, p, _, _, rfl, rfl, hp, small (by rw [List.length_map]; omega), ?_⟩
      refine ⟨_, rfl, k _ p (as ++ [q]) (s1.put hp0) ?_ ?_⟩
      · rw [upd_same, List.map_append]
        rfl
      · rw [es]
        refine pr_append (words_upd hW pa) (.cons ?_ .nil)
        rw [upd_ne pq.symm]
        exact hq
/-! ### length_of -/
abbrev s_length_of : Stmt := top 23
theorem sc_length_of : FnScope ["digits", "length", "digit"] ["digits"] (defScope s_length_of) := ⟨rfl, rfl, rfl, by decide +kernel, rfl, by decide +kernel, by decide +kernel⟩
def spLen (K : PySem.W.Frag) : Sp := fun vs H Q _ => ∃ a d, vs = [.ref a] ∧ SqL K H a (d.map V.int) ∧ ∀ H', Same H H' → Q (.int (Lt.lenOf d)) H'
theorem ok_length_of {f : Addr} {fd : FuncData} (F : Fun K "length_of" "length_of" s_length_of f fd) (T : Txt K mg) : FnOk P w K mg base CX0 1 f fd ["digits"] (spLen K) := by
  refine F.ok sc_length_of (fun vs H Q E h => ?_) (fun cdv A outer s H vs Q E hr h => ?_)
  · obtain ⟨a, t, rfl, _⟩ := h
    rfl
  · obtain ⟨a, d, rfl, hL, k⟩ := h
    refine ⟨_, (pss_cons (ps_if (pw_or (pt_cmpR op_eq (pe_callB call_len_seq (by rfl) T.n_len PySem.boot_len (pa_cons (pv 0) pa_nil)) pe_int (nomark _)) (pw_or1 (pt_cmpR op_eq (pe_ix ix_list (pv 0) pe_int (fun _ _ => rfl)) (pe_gi (by rfl) T.g_NOUGHT) (nomark _)))).pt (pss_one (ps_ret pe_int)) pss_nil)
      (pss_cons (ps_set (i := 1) sc_length_of.nd rfl (Or.inl rfl) pe_int)
      (pss_cons (ps_for PassesOwn.never rfl (pi_list (pv 0)) (pg_name (i := 2) sc_length_of.nd rfl (Or.inl rfl))
      (pss_cons (ps_if (pw_or (pt_cmpR op_lt (pv 2) (pe_gi (by rfl) T.g_NOUGHT) (nomark _)) (pw_or1 (pt_cmpR op_gt (pv 2) (pe_gi (by rfl) T.g_NINE) (nomark _)))).pt (pss_one (ps_ret pe_int)) pss_nil)
      (pss_cons (ps_set (i := 1) sc_length_of.nd rfl (Or.inl rfl) (pe_op op_sub (pe_op op_add (pe_op op_mul (pv 1) pe_int) (pv 2)) (pe_gi (by rfl) T.g_NOUGHT)))
      (pss_one (ps_if (pt_cmpR op_gt (pv 1) (pe_gi (by rfl) T.g_LONGEST_PHASE) (nomark _)) (pss_one (ps_ret pe_int)) pss_nil)))))
      (pss_one (ps_ret (pv 1)))))), ?_⟩
    refine ⟨_, rfl, a, _, rfl, .inl hL, rfl, _, rfl, ?_⟩
    cases d with
    | nil =>
      refine iteP (decide_eq_true rfl) ?_
      exact k H (Same.refl H)
    | cons x d =>
      refine iteQ (decide_eq_false (fun e => by injection e with e; rw [List.length_map, List.length_cons] at e; omega)) ?_
      refine ⟨_, rfl, a, _, _, _, rfl, rfl, hL, atI_nat (j := 0) rfl, rfl, _, rfl, ?_⟩
      by_cases h48 : x = 48
      · refine iteP (decide_eq_true (by rw [h48])) ?_
        have e : Lt.lenOf (x :: d) = 0 := by
          unfold Lt.lenOf
          rw [if_pos (Or.inr (by rw [h48]; rfl))]
        rw [e] at k
        exact k H (Same.refl H)
      · refine iteQ (decide_eq_false (fun e => h48 (by injection e))) ?_
        have e : Lt.lenOf (x :: d) = Lt.lenLoop 0 (x :: d) := by
          unfold Lt.lenOf
          rw [if_neg]
          rintro (q | q)
          · cases q
          · exact h48 (Option.some.inj q)
        rw [e] at k
        generalize x :: d = d at hL k
        refine ⟨_, rfl, a, rfl, ⟨_, hL⟩, for_list (K := K) (a := a) (xs := d.map V.int) (fun i σ H' => ∃ (v2 : Option V) (acc : Int), σ = [some (.ref a), some (.int acc), v2] ∧ H' = H ∧ 0 ≤ acc ∧ acc ≤ 600 ∧ Lt.lenLoop 0 d = Lt.lenLoop acc (d.drop i))
          ⟨none, 0, rfl, rfl, by omega, by omega, rfl⟩ (fun i σ H' _ ⟨_, _, _, e, _⟩ => by rw [e]; exact hL) ?_ ?_⟩
        · rintro i x σ H' hx ⟨v2, acc, rfl, rfl, a0, a1, es⟩
          obtain ⟨z, hz, rfl⟩ : ∃ z, d[i]? = some z ∧ x = V.int z := by
            rw [List.getElem?_map] at hx
            obtain ⟨z, hz, e⟩ := Option.map_eq_some_iff.mp hx
            exact ⟨z, hz, e.symm⟩
          obtain ⟨hi, hz'⟩ := List.getElem?_eq_some_iff.mp hz
          have ed : d.drop i = z :: d.drop (i + 1) := by rw [List.drop_eq_getElem_cons hi, hz']
          rw [ed] at es
          refine ⟨_, rfl, _, _, rfl, rfl, _, rfl, ?_⟩
          by_cases h1 : z < 48
          · refine iteP (decide_eq_true h1) ?_
            refine iteP rfl ?_
            rw [es, Lt.lenLoop_bad (by omega)] at k
            exact k H' (Same.refl H')
          · refine iteQ (decide_eq_false h1) ?_
            refine ⟨_, rfl, _, _, rfl, rfl, _, rfl, ?_⟩
            by_cases h2 : 57 < z
            · refine iteP (decide_eq_true h2) ?_
              rw [es, Lt.lenLoop_bad (by omega)] at k
              exact k H' (Same.refl H')
            · refine iteQ (decide_eq_false h2) ?_
              rw [Lt.lenLoop_one (by omega)] at es
              refine ⟨_, rfl, _, _, rfl, rfl, .inl ⟨by omega, by omega⟩, _, rfl, _, _, rfl, rfl, _, _, rfl, rfl, ?_⟩
              refine ⟨_, rfl, _, _, rfl, rfl, _, rfl, ?_⟩
              by_cases h3 : 600 < acc * 10 + z - 48
              · refine iteP (decide_eq_true h3) ?_
                rw [es, if_pos h3] at k
                exact k H' (Same.refl H')
              · refine iteQ (decide_eq_false h3) ?_
                rw [if_neg h3] at es
                exact ⟨_, _, rfl, rfl, by omega, by omega, es⟩
        · rintro σ H' ⟨v2, acc, rfl, rfl, a0, a1, es⟩
          rw [List.length_map, List.drop_length] at es
          refine ⟨_, rfl, ?_⟩
          rw [es] at k
          exact k H' (Same.refl H')
end
end Py
end
section
set_option Elab.async false
set_option linter.all false
set_option maxRecDepth 100000
set_option maxHeartbeats 4000000
namespace Py
open PySem PySem.Spec PyProof.Rows L2
/-! ### texts put together: parts by parts -/
abbrev TJ := L2.St → Hp → (Str → Hp → Prop) → Prop
def PF (X : Cx) (e : Expr) (t : TJ) : Prop :=
  ∀ (pins : List (Addr × Obj)) (s : Shared) (σ : L2.St) (H : Hp) (Q : Str → Hp → Prop), Inv X pins σ H s → t σ H Q →
    wpAny (model X.prog X.w) X.A (eval e X.env) (fun v s1 => ∃ x tk H1, v = .str x tk ∧ Inv X pins σ H1 s1 ∧ Q x H1) X.xe s
def PJ (X : Cx) (es : List Expr) (t : Str → TE) : Prop :=
  ∀ (out : Str) (pins : List (Addr × Obj)) (s : Shared) (σ : L2.St) (H : Hp) (Q : VK), Inv X pins σ H s → t out σ H Q →
    wpAny (model X.prog X.w) X.A (joinParts out (evalEach es X.env)) (EP X pins σ Q) X.xe s
section
variable {X : Cx} {e : Expr} {es : List Expr} {te : TE} {t1 : TJ} {t2 : Str → TE} {pos : Pos}
def jC (x : Str) : TJ := fun _ H Q => Q x H
def jS (te : TE) : TJ := fun σ H Q => te σ H fun v H1 => ∃ x, v = .str x ∧ x.length ≤ sizeLine ∧ Q x H1
def jI (te : TE) : TJ := fun σ H Q => te σ H fun v H1 => ∃ i, v = .int i ∧ i.natAbs.log2 < 1920 ∧ Q (toString i) H1
theorem pf_con {x : Str} {j} : PF X (.Constant (.str x) j pos) (jC x) := fun _ _ _ H _ I h => Calls.Constant_str ⟨x, _, H, rfl, I.tok _, h⟩
theorem pf_str (h : PE X e te) : PF X (.FormattedValue e (-1) none pos) (jS te) := by
  intro pins s σ H Q I q
  refine FormattedValue_plain (thn (h pins s σ H _ I q) fun v s1 ⟨x, H1, I1, r1, z, e1, hz, q1⟩ => ?_)
  subst e1
  obtain ⟨t, rfl⟩ := r1
  exact formatField_str (fun t' tk => ⟨z, t', H1, rfl, I1.tok _, q1⟩) hz
theorem pf_int (h : PE X e te) : PF X (.FormattedValue e (-1) none pos) (jI te) := by
  intro pins s σ H Q I q
  refine FormattedValue_plain (thn (h pins s σ H _ I q) fun v s1 ⟨x, H1, I1, r1, z, e1, hz, q1⟩ => ?_)
  subst e1
  obtain ⟨t, rfl⟩ := r1
  exact formatField_int_small hz ⟨_, _, H1, rfl, I1.tok _, q1⟩
def jNil : Str → TE := fun out _ H Q => out.length ≤ sizeLine ∧ Q (.str out) H
def jCons (t1 : TJ) (t2 : Str → TE) : Str → TE := fun out σ H Q => t1 σ H fun x H1 => (out ++ x).length ≤ sizeLine ∧ t2 (out ++ x) σ H1 Q
theorem pj_nil : PJ X [] jNil := fun out _ _ _ H _ I h => joinParts_nil ⟨.str out, H, I.tok _, ⟨_, rfl⟩, h.2⟩ h.1
theorem pj_cons (h1 : PF X e t1) (h2 : PJ X es t2) : PJ X (e :: es) (jCons t1 t2) := by
  intro out pins s σ H Q I q
  show wpAny _ _ (joinParts out (eval e X.env :: evalEach es X.env)) _ _ _
  refine joinParts_cons (thn (h1 pins s σ H _ I q) fun v s1 ⟨x, tk, H1, e1, I1, hz, q1⟩ => ?_)
  subst e1
  exact ⟨hz, h2 _ pins s1 σ H1 Q I1 q1⟩
theorem pe_fstr {e1 e2 : Expr} (h : PJ X (e1 :: e2 :: es) t2) : PE X (.JoinedStr (e1 :: e2 :: es) pos) (t2 Str.empty) := fun pins s σ H Q I q => JoinedStr_many (h Str.empty pins s σ H Q I q)
end
/-! ### how often an int stands in a list -/
section
variable {X : Cx}
def rCountL (K : PySem.W.Frag) : V → List V → Hp → VK → Prop := fun x xs H Q => ∃ (a : Addr) (ns : List Int) (k : Int), x = V.ref a ∧ xs = [V.int k] ∧ SqL K H a (ns.map V.int) ∧ Q (.int ((ns.count k : Nat) : Int)) H
theorem flat_ints (ns : List Int) : (ns.map V.int).all flatV = true := by
  rw [List.all_eq_true]
  intro v hv
  obtain ⟨n, _, rfl⟩ := List.mem_map.mp hv
  rfl
theorem countU {k : Int} : ∀ {ns : List Int} {us : List Value}, Vals (ns.map V.int) us → us.countP (eqU (.int k)) = ns.count k
  | [], us, h => by
    rw [List.map_nil] at h
    cases h
    rfl
  | n :: ns, us, h => by
    rw [List.map_cons] at h
    cases h with
    | cons r t =>
      obtain ⟨tk, rfl⟩ := r
      rw [List.countP_cons, List.count_cons, countU t]
      have e : eqU (V.int k) (Value.int n tk) = (n == k) := by
        show eqV (V.int n) (V.int k) = _
        rfl
      rw [e]
theorem mt_countL : MtR X "list.count" (rCountL X.K) := by
  intro pins s σ H x xs v us Q I rx rxs h
  obtain ⟨a, ns, k, rfl, rfl, hs, q⟩ := h
  cases rx
  cases rxs with
  | cons ry rt =>
    rename_i uy ut
    cases rt
    obtain ⟨its, rv, ⟨⟨cls, dd, data, sl⟩, n, ho, hc, hdn, hd⟩, hlen⟩ := I.list hs
    simp only at hc hd
    subst hc hd
    refine call_meets PySem.F.slot_list_count ⟨_, ho, rfl⟩ PySem.F.entry_list_count (PySem.F.args_list_count_2 _ _)
      (SeqAt.list_countAt a its.toArray n dd sl uy (eqU (V.int k))) ⟨ho, fun u' hu' => mem_eqAt ry rfl rv (flat_ints ns) u' (by simpa using hu'), ?_⟩
    refine ⟨.int ((ns.count k : Nat) : Int), H, I.tok _, ⟨s.toks, ?_⟩, q⟩
    rw [← countU rv]
end
/-! ### the different ones -/
section
variable {X : Cx}
/-- how many different ones -/
def kinds (ns : List Int) : Nat := (firstMet (fun i => ns.getD i 0) ns.length).length
def rSetL (K : PySem.W.Frag) : List V → Hp → VK → Prop := fun vs H Q => ∃ (a : Addr) (ns : List Int), vs = [V.ref a] ∧ SqL K H a (ns.map V.int) ∧ ns.length ≤ 1000 ∧ ∀ p S, H p = none → Q (.ref p) (upd H p (.set S (kinds ns)))
theorem cr_set (hc : X.calm = true) : CallR X (.type "set") (rSetL X.K) := by
  intro pins s σ H vs us Q I r h
  obtain ⟨a, ns, rfl, hs, hz, q⟩ := h
  obtain ⟨its, rv, hl, _⟩ := I.list hs
  rw [Vals.ref1 r]
  have hlen : its.length = ns.length := by rw [← rv.length, List.length_map]
  refine PySem.call_set_list (items := its.toArray) (ns := ns) (I.ok.hd hc) hl.isList (by simpa using rv.ints) (by rw [List.size_toArray, hlen]; unfold scanBound; omega) fun h' tk hS hk => ?_
  have esz : its.toArray.size = ns.length := by rw [List.size_toArray, hlen]
  rw [esz] at hS
  obtain ⟨S, hS⟩ : ∃ S, h'.SetOf (intKind X.prog X.w) s.heap.objs.size S (kinds ns) := ⟨_, hS⟩
  refine ⟨.ref s.heap.objs.size, _, I.laid (o := .set S (kinds ns)) (fun b o e => hk b o (Heap.lt_size e) e) (Nat.le_refl _) ?_, rfl, q _ _ (I.hok.fresh (Nat.le_refl _))⟩
  exact hS
def rLenS : List V → Hp → VK → Prop := fun vs H Q => ∃ (a : Addr) (S : Int → Bool) (n : Nat), vs = [V.ref a] ∧ H a = some (.set S n) ∧ Q (.int ((n : Nat) : Int)) H
theorem call_lenS : CallR X (.builtin "len") rLenS := by
  intro pins s σ H vs us Q I r h
  obtain ⟨a, S, n, rfl, ha, q⟩ := h
  rw [Vals.ref1 r]
  obtain ⟨o, es, ep, t, ho, hex, hd, _, _, hb, hf, en⟩ := I.hok a _ ha
  refine PySem.call_len_set ho hex hd hf (by unfold scanBound at hb; omega) ⟨.int ((n : Nat) : Int), H, I.tok _, ⟨_, by rw [en]⟩, q⟩
end
end Py
end
section
set_option Elab.async false
set_option linter.all false
set_option maxRecDepth 100000
set_option maxHeartbeats 4000000
namespace Py
open PySem PySem.Spec PyProof.Rows L2
open PySem.SeqAt
open PySem.AutoSeq1 (wpAny_loadPart')
open PySem.MeetsSeq PySem.MeetsSeq2 PySem.MeetsSeq3
theorem tuple_indexAt (l : Addr) (items : Array Value) (n : Nat) (dd : Option Addr) (sl : Array (Option Value)) (x : Value) (e : Value → Bool) (j : Nat) (hj : j < items.size) (hit : e items[j] = true)
    (hno : ∀ m (hm : m < items.size), m < j → e items[m] = false) :
    Meets (Builtin.«tuple.index» ⟨[.ref l, x], []⟩)
      (fun A R s => s.heap.get? l = some { cls := .type "tuple", dict := dd, data := .seq items n, slots := sl } ∧ (∀ y, y ∈ items → EqAt A.in1 s y x (e y)) ∧ R (.ok (.ret (.int ((j : Nat) : Int) s.toks))) { s with toks := s.toks + 1 }) :=
  .of_wp fun prog w A R s h => by
    obtain ⟨hp, g, d, tk, os⟩ := s; obtain ⟨hl, he, h⟩ := h
    have hr : ∀ (β : Type) (b : β) (f : Nat → β → Sem (ForInStep β)), forIn (m := Sem) [0:min items.size items.size] b f = forIn (m := Sem) (List.range items.size) b f := fun β b f => by
      rw [Std.Legacy.Range.forIn_eq_forIn_range', Nat.min_self]
      simp [Std.Legacy.Range.size, List.range_eq_range']
    wp_walk using wpAny_loadPart' hl
    change wpAny _ _ (forIn (m := Sem) [0:min items.size items.size] (none, ()) _) _ _ _
    rw [hr]
    refine wpAny_forIn_list _ (fun rest b s' => s' = ⟨hp, g, d, tk, os⟩ ∧ b = (none, ()) ∧ ∃ i, i ≤ j ∧ rest = (List.range items.size).drop i) _ ?_ ?_ _ _ ⟨rfl, rfl, 0, Nat.zero_le _, rfl⟩
    · rintro y rest b s' ⟨rfl, rfl, i, hi, er⟩
      have hil : i < items.size := by omega
      have ed : (List.range items.size).drop i = i :: (List.range items.size).drop (i + 1) := by simp [List.drop_eq_getElem_cons, hil]
      rw [ed] at er
      injection er with e1 e2
      subst e1
      have hy : items[y]? = some items[y] := by simp [hil]
      simp only [hy]
      refine wpAny_bind (he _ (Array.getElem_mem hil) prog w _ _ ?_)
      by_cases hyj : y = j
      · subst hyj
        rw [hit]
        wp_walk
        exact ⟨_, rfl, h⟩
      · rw [hno y hil (by omega)]
        wp_walk
        exact ⟨rfl, rfl, y + 1, by omega, e2⟩
    · rintro b s' ⟨rfl, rfl, i, hi, er⟩
      exfalso
      have := congrArg List.length er
      rw [List.length_drop, List.length_range] at this
      simp at this
      omega
/-- where an int stands first in a tuple -/
def rIndexT (K : PySem.W.Frag) : V → List V → Hp → VK → Prop := fun x xs H Q => ∃ (a : Addr) (ns : List Int) (k : Int) (j : Nat), x = V.ref a ∧ xs = [V.int k] ∧ SqT K H a (ns.map V.int) ∧ ns[j]? = some k ∧ (∀ m, m < j → ns[m]? ≠ some k) ∧ Q (.int ((j : Nat) : Int)) H
theorem eqU_int {k n : Int} {t : Tok} : eqU (V.int k) (Value.int n t) = (n == k) := rfl
theorem ints_get {ns : List Int} {its : List Value} (rv : Vals (ns.map V.int) its) {j : Nat} (h : j < its.length) : ∃ n t, ns[j]? = some n ∧ its[j] = Value.int n t := by
  have hl : its.length = ns.length := by rw [← rv.length, List.length_map]
  have hn : (ns.map V.int)[j]? = some (V.int (ns[j]'(by omega))) := by rw [List.getElem?_map, List.getElem?_eq_getElem (by omega)]; rfl
  obtain ⟨u, hu, t, eu⟩ := rv.get hn
  obtain ⟨_, e2⟩ := List.getElem?_eq_some_iff.mp hu
  exact ⟨ns[j]'(by omega), t, List.getElem?_eq_getElem (by omega), by rw [e2, eu]⟩
theorem mt_indexT {X : Cx} : MtR X "tuple.index" (rIndexT X.K) := by
  intro pins s σ H x xs v us Q I rx rxs h
  obtain ⟨a, ns, k, j, rfl, rfl, hs, hz, hno, q⟩ := h
  cases rx
  cases rxs with
  | cons ry rt =>
    rename_i uy ut
    cases rt
    obtain ⟨its, rv, ⟨⟨cls, dd, data, sl⟩, ho, hc, n, hd⟩, hlen⟩ := I.tuple hs
    simp only at hc hd
    subst hc hd
    have hl : its.length = ns.length := by rw [← rv.length, List.length_map]
    obtain ⟨hjn, _⟩ := List.getElem?_eq_some_iff.mp hz
    have hj : j < its.toArray.size := by rw [List.size_toArray]; omega
    refine call_meets PySem.F.slot_tuple_index ⟨_, ho, rfl⟩ PySem.F.entry_tuple_index (PySem.F.args_tuple_index_2 _ _)
      (tuple_indexAt a its.toArray n dd sl uy (eqU (V.int k)) j hj ?_ ?_) ⟨ho, fun u' hu' => mem_eqAt ry rfl rv (flat_ints ns) u' (by simpa using hu'), ?_⟩
    · obtain ⟨z, t, e1, e2⟩ := ints_get rv (j := j) (by omega)
      have e3 : its.toArray[j] = Value.int z t := by simpa using e2
      rw [e3, eqU_int]
      rw [e1] at hz
      cases hz
      simp
    · intro m hm hmj
      obtain ⟨z, t, e1, e2⟩ := ints_get rv (j := m) (by rw [List.size_toArray] at hm; exact hm)
      have e3 : its.toArray[m] = Value.int z t := by simpa using e2
      rw [e3, eqU_int, beq_eq_false_iff_ne]
      intro q
      subst q
      exact hno m hmj e1
    · exact ⟨.int ((j : Nat) : Int), H, I.tok _, ⟨_, rfl⟩, q⟩
end Py
end
section
set_option Elab.async false
set_option linter.all false
set_option maxRecDepth 100000
set_option maxHeartbeats 4000000
namespace Py
open PySem PySem.Spec PyProof.Rows L2
open PySem.SeqAt
open PySem.AutoSeq1 (wpAny_loadPart')
open PySem.MeetsSeq PySem.MeetsSeq2 PySem.MeetsSeq3
def Kept (g h : Heap) : Prop := ∀ b o, g.get? b = some o → h.get? b = some o
theorem Kept.refl (h : Heap) : Kept h h := fun _ _ e => e
theorem Kept.trans {a b c : Heap} (f : Kept a b) (g : Kept b c) : Kept a c := fun x o e => g x o (f x o e)
/-- a comparison that gives a truth value at a state -/
def LcAt (A : Around) (s : Shared) (op : CmpOp) (y x : Value) (b : Bool) : Prop :=
  ∀ (prog : Program) (w : World) (E : Value → Shared → Prop) (Q : Value → Shared → Prop), Q (.bool b) s → wpAny (model prog w) A (richCompare op y x) Q E s
def lexFrom (e c : Nat → Bool) (d : Bool) : List Nat → Bool
  | [] => d
  | j :: r => if e j then lexFrom e c d r else c j
theorem cmp_loopLt (l b : Addr) (xs ys : Array Value) (n m : Nat) (dd de : Option Addr) (sl sm : Array (Option Value)) (e c : Nat → Bool) (k : Nat) :
    ∀ i : Nat, min xs.size ys.size - i = k → i ≤ min xs.size ys.size → Meets (Builtin.«list.__eq__.loop» ⟨[.ref l, .ref b, rawInt i, rawInt 0], []⟩)
      (fun A R s => s.heap.get? l = some { cls := .type "list", dict := dd, data := .seq xs n, slots := sl } ∧ s.heap.get? b = some { cls := .type "list", dict := de, data := .seq ys m, slots := sm } ∧
        (∀ j (h1 : j < xs.size) (h2 : j < ys.size), EqAt A.in1 s xs[j] ys[j] (e j)) ∧ (∀ j (h1 : j < xs.size) (h2 : j < ys.size), e j = false → LcAt A.in1 s .Lt xs[j] ys[j] (c j)) ∧
        R (.ok (.ret (.bool (lexFrom e c (decide (xs.size < ys.size)) ((List.range (min xs.size ys.size)).drop i))))) s) := by
  induction k with
  | zero =>
    intro i hk hle prog w A R s h
    obtain ⟨hp, g, d, tk, os⟩ := s
    obtain ⟨hl, hb, he, hc, h⟩ := h
    have ei : i = min xs.size ys.size := by omega
    have hd : (List.range (min xs.size ys.size)).drop i = [] := by rw [ei]; simp
    rw [hd] at h
    by_cases hx : i < xs.size
    · have p1 : xs[((i : Nat) : Int).toNat]? = some xs[i] := by simp [hx]
      have p2 : ys[((i : Nat) : Int).toNat]? = none := by simp; omega
      wp_walk using wpAny_loadPart' hl, wpAny_loadPart' hb
      rw [p1, p2]
      wp_walk using wpAny_loadPart' hl, wpAny_loadPart' hb
      exact h
    · have p1 : xs[((i : Nat) : Int).toNat]? = none := by simp; omega
      wp_walk using wpAny_loadPart' hl, wpAny_loadPart' hb
      rw [p1]
      wp_walk using wpAny_loadPart' hl, wpAny_loadPart' hb
      exact h
  | succ k ih =>
    intro i hk hle prog w A R s h
    obtain ⟨hp, g, d, tk, os⟩ := s
    obtain ⟨hl, hb, he, hc, h⟩ := h
    have hx : i < xs.size := by omega
    have hy : i < ys.size := by omega
    have p1 : xs[((i : Nat) : Int).toNat]? = some xs[i] := by simp [hx]
    have p2 : ys[((i : Nat) : Int).toNat]? = some ys[i] := by simp [hy]
    have hd : (List.range (min xs.size ys.size)).drop i = i :: (List.range (min xs.size ys.size)).drop (i + 1) := by
      rw [List.drop_eq_getElem_cons (by rw [List.length_range]; omega)]
      simp
    have hs : ((i : Int) + 1) = ((i + 1 : Nat) : Int) := by push_cast; rfl
    rw [hd, lexFrom] at h
    wp_walk using wpAny_loadPart' hl, wpAny_loadPart' hb
    rw [p1, p2]
    refine wpAny_bind (he i hx hy prog w _ _ ?_)
    cases ht : e i with
    | true =>
      rw [ht, if_pos rfl] at h
      wp_walk
      rw [hs]
      refine ⟨plainId_quiet plain_eq_loop _, codeAny_builtin entry_eq_loop ?_⟩
      rw [Around.under_plainId plain_eq_loop _]
      exact ih (i + 1) (by omega) (by omega) prog w A R _ ⟨hl, hb, he, hc, h⟩
    | false =>
      rw [ht, if_neg Bool.false_ne_true] at h
      wp_walk using wpAny_loadPart' hl, wpAny_loadPart' hb
      rw [p1, p2]
      refine wpAny_bind (hc i hx hy ht prog w _ _ ?_)
      wp_walk
      exact h
theorem list_atLt (l b : Addr) (xs ys : Array Value) (n m : Nat) (dd de : Option Addr) (sl sm : Array (Option Value)) (e c : Nat → Bool) :
    Meets (Builtin.«list.__lt__» ⟨[.ref l, .ref b], []⟩)
      (fun A R s => s.heap.get? l = some { cls := .type "list", dict := dd, data := .seq xs n, slots := sl } ∧ s.heap.get? b = some { cls := .type "list", dict := de, data := .seq ys m, slots := sm } ∧
        (∀ j (h1 : j < xs.size) (h2 : j < ys.size), EqAt A.in1 s xs[j] ys[j] (e j)) ∧ (∀ j (h1 : j < xs.size) (h2 : j < ys.size), e j = false → LcAt A.in1 s .Lt xs[j] ys[j] (c j)) ∧
        R (.ok (.ret (.bool (lexFrom e c (decide (xs.size < ys.size)) (List.range (min xs.size ys.size)))))) s) := by
  intro prog w A R s h
  obtain ⟨hp, g, d, tk, os⟩ := s
  obtain ⟨hl, hb, he, hc, h⟩ := h
  have f3 := AutoSeq1.sub_list_list
  wp_walk using wpAny_loadPart' hl, wpAny_loadPart' hb
  refine ⟨plainId_quiet plain_eq_loop _, codeAny_builtin entry_eq_loop ?_⟩
  rw [Around.under_plainId plain_eq_loop _]
  exact cmp_loopLt l b xs ys n m dd de sl sm e c _ 0 rfl (Nat.zero_le _) prog w A R _ ⟨hl, hb, he, hc, h⟩
theorem rc_listsLt {A : Around} {s : Shared} {l b : Addr} {xs ys : Array Value} (e c : Nat → Bool) (hl : PlainL s.heap l xs) (hb : PlainL s.heap b ys)
    (he : ∀ j (h1 : j < xs.size) (h2 : j < ys.size), EqAt A.in1 s xs[j] ys[j] (e j)) (hc : ∀ j (h1 : j < xs.size) (h2 : j < ys.size), e j = false → LcAt A.in1 s .Lt xs[j] ys[j] (c j)) (hu : A.units < cLine) :
    LcAt A s .Lt (.ref l) (.ref b) (lexFrom e c (decide (xs.size < ys.size)) (List.range (min xs.size ys.size))) := by
  intro prog w E Q q
  obtain ⟨⟨cls, dd, data, sl⟩, n, ho, hc1, _, hd⟩ := hl
  obtain ⟨⟨cls2, de, data2, sm⟩, m, ho2, hc2, _, hd2⟩ := hb
  simp only at hc1 hd hc2 hd2
  subst hc1 hd hc2 hd2
  exact richCompare_meets_room (op := .Lt) ⟨_, ho, rfl⟩ ⟨_, ho2, rfl⟩ PySem.F.slot_list_lt PySem.F.entry_list_lt (PySem.F.args_list_lt_2 _ _) (list_atLt l b xs ys n m dd de sl sm e c)
    ⟨ho, ho2, he, hc, (fun x => nomatch x), q⟩ hu
theorem cmp_loopGt (l b : Addr) (xs ys : Array Value) (n m : Nat) (dd de : Option Addr) (sl sm : Array (Option Value)) (e c : Nat → Bool) (k : Nat) :
    ∀ i : Nat, min xs.size ys.size - i = k → i ≤ min xs.size ys.size → Meets (Builtin.«list.__eq__.loop» ⟨[.ref l, .ref b, rawInt i, rawInt 4], []⟩)
      (fun A R s => s.heap.get? l = some { cls := .type "list", dict := dd, data := .seq xs n, slots := sl } ∧ s.heap.get? b = some { cls := .type "list", dict := de, data := .seq ys m, slots := sm } ∧
        (∀ j (h1 : j < xs.size) (h2 : j < ys.size), EqAt A.in1 s xs[j] ys[j] (e j)) ∧ (∀ j (h1 : j < xs.size) (h2 : j < ys.size), e j = false → LcAt A.in1 s .Gt xs[j] ys[j] (c j)) ∧
        R (.ok (.ret (.bool (lexFrom e c (decide (xs.size > ys.size)) ((List.range (min xs.size ys.size)).drop i))))) s) := by
  induction k with
  | zero =>
    intro i hk hle prog w A R s h
    obtain ⟨hp, g, d, tk, os⟩ := s
    obtain ⟨hl, hb, he, hc, h⟩ := h
    have ei : i = min xs.size ys.size := by omega
    have hd : (List.range (min xs.size ys.size)).drop i = [] := by rw [ei]; simp
    rw [hd] at h
    by_cases hx : i < xs.size
    · have p1 : xs[((i : Nat) : Int).toNat]? = some xs[i] := by simp [hx]
      have p2 : ys[((i : Nat) : Int).toNat]? = none := by simp; omega
      wp_walk using wpAny_loadPart' hl, wpAny_loadPart' hb
      rw [p1, p2]
      wp_walk using wpAny_loadPart' hl, wpAny_loadPart' hb
      exact h
    · have p1 : xs[((i : Nat) : Int).toNat]? = none := by simp; omega
      wp_walk using wpAny_loadPart' hl, wpAny_loadPart' hb
      rw [p1]
      wp_walk using wpAny_loadPart' hl, wpAny_loadPart' hb
      exact h
  | succ k ih =>
    intro i hk hle prog w A R s h
    obtain ⟨hp, g, d, tk, os⟩ := s
    obtain ⟨hl, hb, he, hc, h⟩ := h
    have hx : i < xs.size := by omega
    have hy : i < ys.size := by omega
    have p1 : xs[((i : Nat) : Int).toNat]? = some xs[i] := by simp [hx]
    have p2 : ys[((i : Nat) : Int).toNat]? = some ys[i] := by simp [hy]
    have hd : (List.range (min xs.size ys.size)).drop i = i :: (List.range (min xs.size ys.size)).drop (i + 1) := by
      rw [List.drop_eq_getElem_cons (by rw [List.length_range]; omega)]
      simp
    have hs : ((i : Int) + 1) = ((i + 1 : Nat) : Int) := by push_cast; rfl
    rw [hd, lexFrom] at h
    wp_walk using wpAny_loadPart' hl, wpAny_loadPart' hb
    rw [p1, p2]
    refine wpAny_bind (he i hx hy prog w _ _ ?_)
    cases ht : e i with
    | true =>
      rw [ht, if_pos rfl] at h
      wp_walk
      rw [hs]
      refine ⟨plainId_quiet plain_eq_loop _, codeAny_builtin entry_eq_loop ?_⟩
      rw [Around.under_plainId plain_eq_loop _]
      exact ih (i + 1) (by omega) (by omega) prog w A R _ ⟨hl, hb, he, hc, h⟩
    | false =>
      rw [ht, if_neg Bool.false_ne_true] at h
      wp_walk using wpAny_loadPart' hl, wpAny_loadPart' hb
      rw [p1, p2]
      refine wpAny_bind (hc i hx hy ht prog w _ _ ?_)
      wp_walk
      exact h
theorem list_atGt (l b : Addr) (xs ys : Array Value) (n m : Nat) (dd de : Option Addr) (sl sm : Array (Option Value)) (e c : Nat → Bool) :
    Meets (Builtin.«list.__gt__» ⟨[.ref l, .ref b], []⟩)
      (fun A R s => s.heap.get? l = some { cls := .type "list", dict := dd, data := .seq xs n, slots := sl } ∧ s.heap.get? b = some { cls := .type "list", dict := de, data := .seq ys m, slots := sm } ∧
        (∀ j (h1 : j < xs.size) (h2 : j < ys.size), EqAt A.in1 s xs[j] ys[j] (e j)) ∧ (∀ j (h1 : j < xs.size) (h2 : j < ys.size), e j = false → LcAt A.in1 s .Gt xs[j] ys[j] (c j)) ∧
        R (.ok (.ret (.bool (lexFrom e c (decide (xs.size > ys.size)) (List.range (min xs.size ys.size)))))) s) := by
  intro prog w A R s h
  obtain ⟨hp, g, d, tk, os⟩ := s
  obtain ⟨hl, hb, he, hc, h⟩ := h
  have f3 := AutoSeq1.sub_list_list
  wp_walk using wpAny_loadPart' hl, wpAny_loadPart' hb
  refine ⟨plainId_quiet plain_eq_loop _, codeAny_builtin entry_eq_loop ?_⟩
  rw [Around.under_plainId plain_eq_loop _]
  exact cmp_loopGt l b xs ys n m dd de sl sm e c _ 0 rfl (Nat.zero_le _) prog w A R _ ⟨hl, hb, he, hc, h⟩
theorem rc_listsGt {A : Around} {s : Shared} {l b : Addr} {xs ys : Array Value} (e c : Nat → Bool) (hl : PlainL s.heap l xs) (hb : PlainL s.heap b ys)
    (he : ∀ j (h1 : j < xs.size) (h2 : j < ys.size), EqAt A.in1 s xs[j] ys[j] (e j)) (hc : ∀ j (h1 : j < xs.size) (h2 : j < ys.size), e j = false → LcAt A.in1 s .Gt xs[j] ys[j] (c j)) (hu : A.units < cLine) :
    LcAt A s .Gt (.ref l) (.ref b) (lexFrom e c (decide (xs.size > ys.size)) (List.range (min xs.size ys.size))) := by
  intro prog w E Q q
  obtain ⟨⟨cls, dd, data, sl⟩, n, ho, hc1, _, hd⟩ := hl
  obtain ⟨⟨cls2, de, data2, sm⟩, m, ho2, hc2, _, hd2⟩ := hb
  simp only at hc1 hd hc2 hd2
  subst hc1 hd hc2 hd2
  exact richCompare_meets_room (op := .Gt) ⟨_, ho, rfl⟩ ⟨_, ho2, rfl⟩ PySem.F.slot_list_gt PySem.F.entry_list_gt (PySem.F.args_list_gt_2 _ _) (list_atGt l b xs ys n m dd de sl sm e c)
    ⟨ho, ho2, he, hc, (fun x => nomatch x), q⟩ hu
section
variable {prog : Program} {w : World} {A : Around} {I S : Addr} {fp wr : List Addr} {n : Nat} {P : Nat → Value → Prop} {T : Nat → Heap → Prop} {g : Heap} {bt : Nat → Nat → Bool}
theorem loop_min {R : Result → Shared → Prop} (W : Walks prog w A.in1 I fp wr n P T)
    (hcmp : ∀ i j u v (s : Shared) (Q : Value → Shared → Prop) (E : Value → Shared → Prop), Kept g s.heap → P i u → P j v → Q (.bool (bt i j)) s → wpAny (model prog w) A.in1 (richCompare .Lt u v) Q E s)
    (hS : S ∉ fp) (hg : ∀ b o, g.get? b = some o → b ∉ wr ∧ b ≠ S) :
    ∀ (k j : Nat) (s : Shared) (u : Value) (c : Nat), n - (j + 1) = k → j + 1 ≤ n → T (j + 1) s.heap → P (argBest bt j) u → Kept g s.heap →
    s.heap.get? S = some { cls := .type "list", dict := none, data := .seq #[u, u] c, slots := #[] } →
    (∀ v h' tk, P (argBest bt (n - 1)) v → Kept g h' → R (.ok (.ret v)) { s with heap := h', toks := tk }) →
    codeAny (model prog w) A (.builtin "min.loop" ⟨[.ref I, .none, .ref S], []⟩) R s := by
  have nS : S ∉ wr := fun q => hS (W.sub _ q)
  have nm : (toString "min" ++ toString ".loop" : String) = "min.loop" := by decide
  intro k
  induction k with
  | zero =>
    intro j s u c z1 z2 st pu kp hs fin
    have jn : j + 1 = n := by omega
    refine codeAny_builtin PySem.F.entry_min_loop ?_
    rw [Around.under_plainId PySem.F.plain_min_loop _]
    change wpAny _ A.in1 (seqItems? (.ref S) >>= _) _ _ s
    refine wpAny_bind (wpAny_seqItems hs rfl ?_)
    change wpAny _ A.in1 (tryCatch (pyNext (.ref I)) _ >>= _) _ _ s
    refine wpAny_bind (wpAny_tryCatch (W.done s _ _ (jn ▸ st) fun h2 tk2 k2 => ?_))
    have s2 := k2 S _ nS hs
    change wpAny _ A.in1 (updateSeq S (fun _ => #[]) >>= _) _ _ _
    refine wpAny_bind (wpAny_updateSeq s2 rfl (wpAny_bind (wpAny_letGo (wpAny_pure ?_))))
    refine fin u _ tk2 (by rw [← jn]; exact pu) fun b o q => ?_
    exact (Heap.get?_update_other _ _ (hg b o q).2.symm).trans (k2 b o (hg b o q).1 (kp b o q))
  | succ k ih =>
    intro j s u c z1 z2 st pu kp hs fin
    have lt : j + 1 < n := by omega
    refine codeAny_builtin PySem.F.entry_min_loop ?_
    rw [Around.under_plainId PySem.F.plain_min_loop _]
    change wpAny _ A.in1 (seqItems? (.ref S) >>= _) _ _ s
    refine wpAny_bind (wpAny_seqItems hs rfl ?_)
    change wpAny _ A.in1 (tryCatch (pyNext (.ref I)) _ >>= _) _ _ s
    refine wpAny_bind (wpAny_tryCatch (W.item (j + 1) s _ _ lt st fun v h2 tk2 pv t2 k2 => ?_))
    have s2 := k2 S _ nS hs
    have kp2 : Kept g h2 := fun b o q => k2 b o (hg b o q).1 (kp b o q)
    change wpAny _ A.in1 (tryCatch (holding [v, v] (richCompare .Lt v u >>= _)) _ >>= _) _ _ _
    refine wpAny_bind (wpAny_tryCatch (wpAny_holding (wpAny_bind (hcmp (j + 1) (argBest bt j) v u _ _ _ kp2 pv pu ?_))))
    refine wpAny_bind (wpAny_holding (wpAny_truthy_bool (wpAny_bind (wpAny_letGo (wpAny_pure ?_)))))
    cases ht : bt (j + 1) (argBest bt j) with
    | true =>
      simp only [if_true]
      refine wpAny_bind (wpAny_updateSeq s2 rfl (wpAny_bind (wpAny_letGo ?_)))
      rw [nm]
      refine wpAny_pure ⟨plainId_quiet PySem.F.plain_min_loop _, ih (j + 1) _ v _ (by omega) lt (W.frame _ _ _ t2 fun b q o e => ?_) (by simp only [argBest, ht, if_true]; exact pv) (fun b o q => ?_) (Heap.get?_update_self _ s2 rfl) fin⟩
      · exact (Heap.get?_update_other _ _ (fun z : S = b => hS (by rw [z]; exact q))).trans e
      · exact (Heap.get?_update_other _ _ (hg b o q).2.symm).trans (kp2 b o q)
    | false =>
      simp only [Bool.false_eq_true, if_false]
      refine wpAny_bind (wpAny_letGo ?_)
      rw [nm]
      exact wpAny_pure ⟨plainId_quiet PySem.F.plain_min_loop _, ih (j + 1) _ u c (by omega) lt t2 (by simp only [argBest, ht, Bool.false_eq_true, if_false]; exact pu) kp2 s2 fin⟩
end
section
variable {prog : Program} {w : World} {A : Around} {E : Value → Shared → Prop} {s : Shared} {l : Addr} {its : Array Value} {bt : Nat → Nat → Bool} {Q : Value → Shared → Prop}
theorem call_minD (hh : A.handled = none) (hl : s.heap.IsList l its) (hn : 0 < its.size)
    (hcmp : ∀ i j u v (s2 : Shared) (Q : Value → Shared → Prop) (E : Value → Shared → Prop), Kept s.heap s2.heap → its[i]? = some u → its[j]? = some v → Q (.bool (bt i j)) s2 → wpAny (model prog w) A.in1 (richCompare .Lt u v) Q E s2)
    (fin : ∀ v h' tk, its[argBest bt (its.size - 1)]? = some v → Kept s.heap h' → Q v { s with heap := h', toks := tk }) :
    wpAny (model prog w) A (call (.builtin "min") [.ref l]) Q E s := by
  have nm : (toString "min" ++ toString ".loop" : String) = "min.loop" := by decide
  refine PySem.call_function_tree PySem.F.kind_min PySem.F.plain_min PySem.F.entry_min (PySem.F.args_min1 _) ?_
  change wpAny _ A.in1 (Builtin.Builtins.bindParams "min" ["key", "default"] 0 ⟨[], []⟩ >>= _) _ _ s
  refine wpAny_bind (wpAny_of_eq (show Builtin.Builtins.bindParams "min" ["key", "default"] 0 ⟨[], []⟩ = pure [none, none] from rfl) ?_)
  refine wpAny_bind (wpAny_pure ?_)
  refine wpAny_bind ?_
  have hlt : l < s.heap.objs.size := by obtain ⟨_, e, _⟩ := hl; exact Heap.lt_size e
  refine wpAny_pyIter_list hl ?_
  have W := Walks.list (prog := prog) (w := w) (A := A.in1) hh s.heap.objs.size l (Nat.ne_of_lt hlt) its
  generalize eg : s.heap.push { cls := .type "list_iterator", data := .fields #[.ref l, .int 0 0] } = h1
  have kp1 : Kept s.heap h1 := fun b o e => by rw [← eg]; exact Heap.get?_push_of_some _ e
  have st0 : h1.IsListIter s.heap.objs.size l 0 ∧ h1.IsList l its := by rw [← eg]; exact ⟨⟨_, Heap.get?_push_size _ rfl, rfl, rfl⟩, hl.push _⟩
  have sz1 : h1.objs.size = s.heap.objs.size + 1 := by rw [← eg, Heap.size_push]
  refine wpAny_bind (wpAny_newObj_type ?_)
  rw [nm]
  refine wpAny_pure ⟨plainId_quiet PySem.F.plain_min_loop _, ?_⟩
  -- the first one
  have nS : h1.objs.size ∉ [s.heap.objs.size, l] := by
    rw [sz1]
    intro q
    rcases List.mem_cons.mp q with q | q
    · omega
    · rcases List.mem_cons.mp q with q | q
      · exact absurd hlt (by rw [← q]; exact Nat.not_lt.mpr (Nat.le_succ _))
      · cases q
  have hg : ∀ b o, s.heap.get? b = some o → b ∉ [s.heap.objs.size] ∧ b ≠ h1.objs.size := fun b o e => by
    refine ⟨fun q => ?_, fun q => ?_⟩
    · rcases List.mem_cons.mp q with q | q
      · exact absurd (Heap.lt_size e) (by rw [q]; exact Nat.lt_irrefl _)
      · cases q
    · exact absurd (Heap.lt_size e) (by rw [q, sz1]; exact Nat.not_lt.mpr (Nat.le_succ _))
  refine codeAny_builtin PySem.F.entry_min_loop ?_
  rw [Around.under_plainId PySem.F.plain_min_loop _]
  change wpAny _ A.in1 (seqItems? (.ref h1.objs.size) >>= _) _ _ _
  refine wpAny_bind (wpAny_seqItems (Heap.get?_push_size _ rfl) rfl ?_)
  change wpAny _ A.in1 (tryCatch (pyNext (.ref s.heap.objs.size)) _ >>= _) _ _ _
  refine wpAny_bind (wpAny_tryCatch (W.item 0 _ _ _ hn (W.frame _ _ _ st0 fun b _ o e => Heap.get?_push_of_some _ e) fun v h2 tk2 pv t2 k2 => ?_))
  have s2 := k2 h1.objs.size _ (fun q => nS (W.sub _ q)) (Heap.get?_push_size _ rfl)
  change wpAny _ A.in1 (updateSeq h1.objs.size (fun _ => #[v, v]) >>= _) _ _ _
  refine wpAny_bind (wpAny_updateSeq s2 rfl ?_)
  rw [nm]
  refine wpAny_pure ⟨plainId_quiet PySem.F.plain_min_loop _, loop_min W hcmp nS hg _ 0 _ v _ rfl hn (W.frame _ _ _ t2 fun b q o e => ?_) pv (fun b o q => ?_) (Heap.get?_update_self _ s2 rfl) fin⟩
  · exact (Heap.get?_update_other _ _ (fun z : h1.objs.size = b => nS (by rw [z]; exact q))).trans e
  · exact (Heap.get?_update_other _ _ (hg b o q).2.symm).trans (k2 b o (hg b o q).1 (Heap.get?_push_of_some _ (kp1 b o q)))
end
section
variable {prog : Program} {w : World} {A : Around} {I S : Addr} {fp wr : List Addr} {n : Nat} {P : Nat → Value → Prop} {T : Nat → Heap → Prop} {g : Heap} {bt : Nat → Nat → Bool}
theorem loop_max {R : Result → Shared → Prop} (W : Walks prog w A.in1 I fp wr n P T)
    (hcmp : ∀ i j u v (s : Shared) (Q : Value → Shared → Prop) (E : Value → Shared → Prop), Kept g s.heap → P i u → P j v → Q (.bool (bt i j)) s → wpAny (model prog w) A.in1 (richCompare .Gt u v) Q E s)
    (hS : S ∉ fp) (hg : ∀ b o, g.get? b = some o → b ∉ wr ∧ b ≠ S) :
    ∀ (k j : Nat) (s : Shared) (u : Value) (c : Nat), n - (j + 1) = k → j + 1 ≤ n → T (j + 1) s.heap → P (argBest bt j) u → Kept g s.heap →
    s.heap.get? S = some { cls := .type "list", dict := none, data := .seq #[u, u] c, slots := #[] } →
    (∀ v h' tk, P (argBest bt (n - 1)) v → Kept g h' → R (.ok (.ret v)) { s with heap := h', toks := tk }) →
    codeAny (model prog w) A (.builtin "max.loop" ⟨[.ref I, .none, .ref S], []⟩) R s := by
  have nS : S ∉ wr := fun q => hS (W.sub _ q)
  have nm : (toString "max" ++ toString ".loop" : String) = "max.loop" := by decide
  intro k
  induction k with
  | zero =>
    intro j s u c z1 z2 st pu kp hs fin
    have jn : j + 1 = n := by omega
    refine codeAny_builtin PySem.F.entry_max_loop ?_
    rw [Around.under_plainId PySem.F.plain_max_loop _]
    change wpAny _ A.in1 (seqItems? (.ref S) >>= _) _ _ s
    refine wpAny_bind (wpAny_seqItems hs rfl ?_)
    change wpAny _ A.in1 (tryCatch (pyNext (.ref I)) _ >>= _) _ _ s
    refine wpAny_bind (wpAny_tryCatch (W.done s _ _ (jn ▸ st) fun h2 tk2 k2 => ?_))
    have s2 := k2 S _ nS hs
    change wpAny _ A.in1 (updateSeq S (fun _ => #[]) >>= _) _ _ _
    refine wpAny_bind (wpAny_updateSeq s2 rfl (wpAny_bind (wpAny_letGo (wpAny_pure ?_))))
    refine fin u _ tk2 (by rw [← jn]; exact pu) fun b o q => ?_
    exact (Heap.get?_update_other _ _ (hg b o q).2.symm).trans (k2 b o (hg b o q).1 (kp b o q))
  | succ k ih =>
    intro j s u c z1 z2 st pu kp hs fin
    have lt : j + 1 < n := by omega
    refine codeAny_builtin PySem.F.entry_max_loop ?_
    rw [Around.under_plainId PySem.F.plain_max_loop _]
    change wpAny _ A.in1 (seqItems? (.ref S) >>= _) _ _ s
    refine wpAny_bind (wpAny_seqItems hs rfl ?_)
    change wpAny _ A.in1 (tryCatch (pyNext (.ref I)) _ >>= _) _ _ s
    refine wpAny_bind (wpAny_tryCatch (W.item (j + 1) s _ _ lt st fun v h2 tk2 pv t2 k2 => ?_))
    have s2 := k2 S _ nS hs
    have kp2 : Kept g h2 := fun b o q => k2 b o (hg b o q).1 (kp b o q)
    change wpAny _ A.in1 (tryCatch (holding [v, v] (richCompare .Gt v u >>= _)) _ >>= _) _ _ _
    refine wpAny_bind (wpAny_tryCatch (wpAny_holding (wpAny_bind (hcmp (j + 1) (argBest bt j) v u _ _ _ kp2 pv pu ?_))))
    refine wpAny_bind (wpAny_holding (wpAny_truthy_bool (wpAny_bind (wpAny_letGo (wpAny_pure ?_)))))
    cases ht : bt (j + 1) (argBest bt j) with
    | true =>
      simp only [if_true]
      refine wpAny_bind (wpAny_updateSeq s2 rfl (wpAny_bind (wpAny_letGo ?_)))
      rw [nm]
      refine wpAny_pure ⟨plainId_quiet PySem.F.plain_max_loop _, ih (j + 1) _ v _ (by omega) lt (W.frame _ _ _ t2 fun b q o e => ?_) (by simp only [argBest, ht, if_true]; exact pv) (fun b o q => ?_) (Heap.get?_update_self _ s2 rfl) fin⟩
      · exact (Heap.get?_update_other _ _ (fun z : S = b => hS (by rw [z]; exact q))).trans e
      · exact (Heap.get?_update_other _ _ (hg b o q).2.symm).trans (kp2 b o q)
    | false =>
      simp only [Bool.false_eq_true, if_false]
      refine wpAny_bind (wpAny_letGo ?_)
      rw [nm]
      exact wpAny_pure ⟨plainId_quiet PySem.F.plain_max_loop _, ih (j + 1) _ u c (by omega) lt t2 (by simp only [argBest, ht, Bool.false_eq_true, if_false]; exact pu) kp2 s2 fin⟩
end
section
variable {prog : Program} {w : World} {A : Around} {E : Value → Shared → Prop} {s : Shared} {l : Addr} {its : Array Value} {bt : Nat → Nat → Bool} {Q : Value → Shared → Prop}
theorem call_maxD (hh : A.handled = none) (hl : s.heap.IsList l its) (hn : 0 < its.size)
    (hcmp : ∀ i j u v (s2 : Shared) (Q : Value → Shared → Prop) (E : Value → Shared → Prop), Kept s.heap s2.heap → its[i]? = some u → its[j]? = some v → Q (.bool (bt i j)) s2 → wpAny (model prog w) A.in1 (richCompare .Gt u v) Q E s2)
    (fin : ∀ v h' tk, its[argBest bt (its.size - 1)]? = some v → Kept s.heap h' → Q v { s with heap := h', toks := tk }) :
    wpAny (model prog w) A (call (.builtin "max") [.ref l]) Q E s := by
  have nm : (toString "max" ++ toString ".loop" : String) = "max.loop" := by decide
  refine PySem.call_function_tree PySem.F.kind_max PySem.F.plain_max PySem.F.entry_max (PySem.F.args_max1 _) ?_
  change wpAny _ A.in1 (Builtin.Builtins.bindParams "max" ["key", "default"] 0 ⟨[], []⟩ >>= _) _ _ s
  refine wpAny_bind (wpAny_of_eq (show Builtin.Builtins.bindParams "max" ["key", "default"] 0 ⟨[], []⟩ = pure [none, none] from rfl) ?_)
  refine wpAny_bind (wpAny_pure ?_)
  refine wpAny_bind ?_
  have hlt : l < s.heap.objs.size := by obtain ⟨_, e, _⟩ := hl; exact Heap.lt_size e
  refine wpAny_pyIter_list hl ?_
  have W := Walks.list (prog := prog) (w := w) (A := A.in1) hh s.heap.objs.size l (Nat.ne_of_lt hlt) its
  generalize eg : s.heap.push { cls := .type "list_iterator", data := .fields #[.ref l, .int 0 0] } = h1
  have kp1 : Kept s.heap h1 := fun b o e => by rw [← eg]; exact Heap.get?_push_of_some _ e
  have st0 : h1.IsListIter s.heap.objs.size l 0 ∧ h1.IsList l its := by rw [← eg]; exact ⟨⟨_, Heap.get?_push_size _ rfl, rfl, rfl⟩, hl.push _⟩
  have sz1 : h1.objs.size = s.heap.objs.size + 1 := by rw [← eg, Heap.size_push]
  refine wpAny_bind (wpAny_newObj_type ?_)
  rw [nm]
  refine wpAny_pure ⟨plainId_quiet PySem.F.plain_max_loop _, ?_⟩
  -- the first one
  have nS : h1.objs.size ∉ [s.heap.objs.size, l] := by
    rw [sz1]
    intro q
    rcases List.mem_cons.mp q with q | q
    · omega
    · rcases List.mem_cons.mp q with q | q
      · exact absurd hlt (by rw [← q]; exact Nat.not_lt.mpr (Nat.le_succ _))
      · cases q
  have hg : ∀ b o, s.heap.get? b = some o → b ∉ [s.heap.objs.size] ∧ b ≠ h1.objs.size := fun b o e => by
    refine ⟨fun q => ?_, fun q => ?_⟩
    · rcases List.mem_cons.mp q with q | q
      · exact absurd (Heap.lt_size e) (by rw [q]; exact Nat.lt_irrefl _)
      · cases q
    · exact absurd (Heap.lt_size e) (by rw [q, sz1]; exact Nat.not_lt.mpr (Nat.le_succ _))
  refine codeAny_builtin PySem.F.entry_max_loop ?_
  rw [Around.under_plainId PySem.F.plain_max_loop _]
  change wpAny _ A.in1 (seqItems? (.ref h1.objs.size) >>= _) _ _ _
  refine wpAny_bind (wpAny_seqItems (Heap.get?_push_size _ rfl) rfl ?_)
  change wpAny _ A.in1 (tryCatch (pyNext (.ref s.heap.objs.size)) _ >>= _) _ _ _
  refine wpAny_bind (wpAny_tryCatch (W.item 0 _ _ _ hn (W.frame _ _ _ st0 fun b _ o e => Heap.get?_push_of_some _ e) fun v h2 tk2 pv t2 k2 => ?_))
  have s2 := k2 h1.objs.size _ (fun q => nS (W.sub _ q)) (Heap.get?_push_size _ rfl)
  change wpAny _ A.in1 (updateSeq h1.objs.size (fun _ => #[v, v]) >>= _) _ _ _
  refine wpAny_bind (wpAny_updateSeq s2 rfl ?_)
  rw [nm]
  refine wpAny_pure ⟨plainId_quiet PySem.F.plain_max_loop _, loop_max W hcmp nS hg _ 0 _ v _ rfl hn (W.frame _ _ _ t2 fun b q o e => ?_) pv (fun b o q => ?_) (Heap.get?_update_self _ s2 rfl) fin⟩
  · exact (Heap.get?_update_other _ _ (fun z : h1.objs.size = b => nS (by rw [z]; exact q))).trans e
  · exact (Heap.get?_update_other _ _ (hg b o q).2.symm).trans (k2 b o (hg b o q).1 (Heap.get?_push_of_some _ (kp1 b o q)))
end
end Py
end
section
set_option Elab.async false
set_option linter.all false
set_option maxRecDepth 100000
set_option maxHeartbeats 4000000
namespace Py
open PySem PySem.Spec PyProof.Rows L2
open PySem.SeqAt
open Bn (Rhythm Phase)
/-! ### rows compared, place by place -/
section
variable {α : Type} (q t : α → α → Bool)
def lexL : List α → List α → Bool
  | x :: r, y :: s => if q x y then lexL r s else t x y
  | _, _ => false
theorem lexFrom_eq (z : α) : ∀ (k : Nat) (xs ys : List α) (i : Nat), xs.length = ys.length → xs.length - i = k → i ≤ xs.length →
    lexFrom (fun j => q (xs.getD j z) (ys.getD j z)) (fun j => t (xs.getD j z) (ys.getD j z)) false ((List.range xs.length).drop i) = lexL q t (xs.drop i) (ys.drop i)
  | 0, xs, ys, i, hl, hk, hi => by
    have e : i = xs.length := by omega
    have e1 : (List.range xs.length).drop i = [] := by rw [e]; simp
    have e2 : xs.drop i = [] := by rw [e]; simp
    rw [e1, e2]
    rfl
  | k + 1, xs, ys, i, hl, hk, hi => by
    have hx : i < xs.length := by omega
    have hy : i < ys.length := by omega
    have e1 : (List.range xs.length).drop i = i :: (List.range xs.length).drop (i + 1) := by
      rw [List.drop_eq_getElem_cons (by rw [List.length_range]; exact hx)]
      simp
    have gx : xs.getD i z = xs[i] := by simp [List.getD, hx]
    have gy : ys.getD i z = ys[i] := by simp [List.getD, hy]
    rw [e1, List.drop_eq_getElem_cons hx, List.drop_eq_getElem_cons hy, lexFrom, lexL]
    simp only [gx, gy]
    by_cases h : q xs[i] ys[i] = true
    · rw [if_pos h, if_pos h]
      exact lexFrom_eq z k xs ys (i + 1) hl (by omega) (by omega)
    · rw [if_neg h, if_neg h]
end
def phLt (x y : Phase) : Bool := HT.lexLt [((x.1 : Nat) : Int), ((x.2 : Nat) : Int)] [((y.1 : Nat) : Int), ((y.2 : Nat) : Int)]
theorem rowBefore_lex : ∀ r s : Rhythm, Bn.rowBefore r s = lexL (fun x y : Phase => decide (x = y)) phLt r s
  | [], _ => rfl
  | _ :: _, [] => rfl
  | x :: r, y :: s => by
    have ih := rowBefore_lex r s
    rw [lexL, ← ih]
    apply Bool.eq_iff_iff.mpr
    rw [Lt.rowBefore_cons]
    unfold phLt
    rw [HT.lexLt_cons, HT.lexLt_cons, HT.lexLt_nil_nil]
    by_cases h : x = y
    · subst h
      rw [if_pos (decide_eq_true rfl)]
      constructor
      · rintro (h | ⟨_, h | ⟨_, h⟩⟩)
        · omega
        · omega
        · exact h
      · intro h
        exact .inr ⟨rfl, .inr ⟨rfl, h⟩⟩
    · rw [if_neg (by rw [decide_eq_false h]; exact Bool.false_ne_true)]
      by_cases h1 : x.1 = y.1
      · have h2 : x.2 ≠ y.2 := fun q => h (Prod.ext h1 q)
        rw [if_pos (by rw [h1]), if_neg (by omega), decide_eq_true_iff]
        constructor
        · rintro (q | ⟨_, q | ⟨q, _⟩⟩)
          · omega
          · omega
          · exact absurd q h2
        · intro q
          exact .inr ⟨h1, .inl (by omega)⟩
      · rw [if_neg (by omega), decide_eq_true_iff]
        constructor
        · rintro (q | ⟨q, _⟩)
          · omega
          · exact absurd q h1
        · intro q
          exact .inl (by omega)
theorem natBefore_lex : ∀ r s : List Nat, Bn.natBefore s r = lexL (fun x y : Int => x == y) (fun x y => decide (x > y)) (r.map fun n => ((n : Nat) : Int)) (s.map fun n => ((n : Nat) : Int))
  | [], [] => rfl
  | [], _ :: _ => rfl
  | _ :: _, [] => rfl
  | x :: r, y :: s => by
    have ih := natBefore_lex r s
    rw [List.map_cons, List.map_cons, lexL, ← ih]
    apply Bool.eq_iff_iff.mpr
    show (decide (y < x) || (y == x && Bn.natBefore s r)) = true ↔ _
    rw [Bool.or_eq_true, Bool.and_eq_true, decide_eq_true_iff, beq_iff_eq]
    by_cases h : x = y
    · subst h
      rw [if_pos (by simp)]
      constructor
      · rintro (h | ⟨_, h⟩)
        · omega
        · exact h
      · intro h
        exact .inr ⟨rfl, h⟩
    · rw [if_neg (by simp; omega), decide_eq_true_iff]
      constructor
      · rintro (q | ⟨q, _⟩)
        · omega
        · exact absurd q.symm h
      · intro q
        exact .inl (by omega)
theorem argBest_best {bt : Nat → Nat → Bool} (irr : ∀ i, bt i i = false) (tr : ∀ i j k, bt i j = true → bt j k = true → bt i k = true) : ∀ k, argBest bt k ≤ k ∧ ∀ i, i ≤ k → bt i (argBest bt k) = false
  | 0 => ⟨Nat.le_refl _, fun i hi => by
    have e : i = 0 := by omega
    rw [e]
    exact irr 0⟩
  | k + 1 => by
    obtain ⟨h1, h2⟩ := argBest_best irr tr k
    by_cases h : bt (k + 1) (argBest bt k) = true
    · have e : argBest bt (k + 1) = k + 1 := by simp only [argBest, h, if_true]
      rw [e]
      refine ⟨Nat.le_refl _, fun i hi => ?_⟩
      by_cases hk : i = k + 1
      · rw [hk]; exact irr _
      · cases hb : bt i (k + 1) with
        | false => rfl
        | true =>
          have := tr _ _ _ hb h
          rw [h2 i (by omega)] at this
          cases this
    · have e : argBest bt (k + 1) = argBest bt k := by simp only [argBest, h, if_false]; rfl
      rw [e]
      refine ⟨by omega, fun i hi => ?_⟩
      by_cases hk : i = k + 1
      · rw [hk]; exact Bool.eq_false_iff.mpr h
      · exact h2 i (by omega)
/-! ### rhythms laid in a heap, as the model's comparisons see them -/
def PhAt (h : Heap) (u : Value) (x : Phase) : Prop := ∃ a t t', u = .ref a ∧ IsTup h a #[.int ((x.1 : Nat) : Int) t, .int ((x.2 : Nat) : Int) t']
def LrAt (h : Heap) (p : Addr) (r : Rhythm) : Prop := ∃ its : List Value, PlainL h p its.toArray ∧ Paired (PhAt h) its r
theorem IsTup_kept {g h : Heap} (k : Kept g h) {a : Addr} {its : Array Value} (i : IsTup g a its) : IsTup h a its :=
  let ⟨o, e, r⟩ := i
  ⟨o, k a o e, r⟩
theorem PlainL_kept {g h : Heap} (k : Kept g h) {a : Addr} {its : Array Value} (i : PlainL g a its) : PlainL h a its :=
  let ⟨o, n, e, r⟩ := i
  ⟨o, n, k a o e, r⟩
theorem LrAt.kept {g h : Heap} (k : Kept g h) {p : Addr} {r : Rhythm} (i : LrAt g p r) : LrAt h p r :=
  let ⟨its, e, q⟩ := i
  ⟨its, PlainL_kept k e, pr_imp (fun u x ⟨a, t, t', e, z⟩ => ⟨a, t, t', e, IsTup_kept k z⟩) q⟩
theorem vals_ph {x : Phase} {its : List Value} (r : Vals (phV x) its) : ∃ t t', its = [.int ((x.1 : Nat) : Int) t, .int ((x.2 : Nat) : Int) t'] := Vals.int2 r
section
variable {X : Cx} {pins : List (Addr × Obj)} {s : Shared} {σ : L2.St} {H : Hp}
theorem lr_vals (I : L2.Inv X pins σ H s) : ∀ {us : List V} {r : Rhythm} {its : List Value}, RhyV X.K H us r → Vals us its → Paired (PhAt s.heap) its r
  | _, _, _, .nil, .nil => .nil
  | _, _, _, .cons ⟨a, e, q⟩ t, .cons r rs => by
    subst e
    cases r
    obtain ⟨its, rv, pl, _⟩ := I.tuple q
    obtain ⟨t1, t2, rfl⟩ := vals_ph rv
    exact .cons ⟨a, t1, t2, rfl, pl⟩ (lr_vals I t rs)
theorem RhyL.at (I : L2.Inv X pins σ H s) {p : Addr} {r : Rhythm} (h : RhyL X.K H p r) : LrAt s.heap p r := by
  obtain ⟨us, hL, hV⟩ := h
  obtain ⟨its, rv, pl, _⟩ := I.list hL
  exact ⟨its, pl, lr_vals I hV rv⟩
end
theorem ph_eq {A : Around} {s : Shared} {u v : Value} {x y : Phase} (hu : PhAt s.heap u x) (hv : PhAt s.heap v y) (hr : A.units + 64 < cLine) : EqAt A s u v (decide (x = y)) := by
  obtain ⟨a, t, t', rfl, ⟨o, ho, hc, n, hd⟩⟩ := hu
  obtain ⟨b, w, w', rfl, ⟨o2, ho2, hc2, n2, hd2⟩⟩ := hv
  rw [← eqv_dP]
  refine eqAt_reads (dP x) (dP y) A s _ _ _ _ (.tuple ho hc hd (.cons (.int _ _) (.cons (.int _ _) .nil))) (.tuple ho2 hc2 hd2 (.cons (.int _ _) (.cons (.int _ _) .nil))) rfl rfl ?_
  show A.units + min 1 1 < cLine
  omega
theorem ph_lt {A : Around} {s : Shared} {u v : Value} {x y : Phase} (hu : PhAt s.heap u x) (hv : PhAt s.heap v y) (hr : A.units < cLine) : LcAt A s .Lt u v (phLt x y) := by
  obtain ⟨a, t, t', rfl, ha⟩ := hu
  obtain ⟨b, w, w', rfl, hb⟩ := hv
  intro prog w E Q q
  exact (HT.lt_tupInts ha hb (.cons _ _ (.cons _ _ .nil)) (.cons _ _ (.cons _ _ .nil)) hr q : wpAny (model prog w) A (compareOp .Lt (.ref a) (.ref b)) Q E s)
theorem lr_lt {A : Around} {s : Shared} {p q : Addr} {r r' : Rhythm} (hp : LrAt s.heap p r) (hq : LrAt s.heap q r') (hl : r.length = r'.length) (hu : A.units + 66 < cLine) : LcAt A s .Lt (.ref p) (.ref q) (Bn.rowBefore r r') := by
  obtain ⟨its, p1, v1⟩ := hp
  obtain ⟨jts, p2, v2⟩ := hq
  have l1 : its.length = r.length := v1.length
  have l2 : jts.length = r'.length := v2.length
  have hin : A.in1.units ≤ A.units + 1 := by simp [Around.in1]
  have key : ∀ j (h1 : j < its.toArray.size) (h2 : j < jts.toArray.size), PhAt s.heap its.toArray[j] (r.getD j (0, 0)) ∧ PhAt s.heap jts.toArray[j] (r'.getD j (0, 0)) := by
    intro j h1 h2
    rw [List.size_toArray] at h1 h2
    have g1 : its[j]? = some its[j] := List.getElem?_eq_getElem h1
    have g2 : jts[j]? = some jts[j] := List.getElem?_eq_getElem h2
    obtain ⟨x, e1, q1⟩ := pr_get v1 g1
    obtain ⟨y, e2, q2⟩ := pr_get v2 g2
    constructor
    · simp only [List.getElem_toArray, List.getD, e1]
      exact q1
    · simp only [List.getElem_toArray, List.getD, e2]
      exact q2
  have := rc_listsLt (A := A) (s := s) (fun j => decide (r.getD j (0, 0) = r'.getD j (0, 0))) (fun j => phLt (r.getD j (0, 0)) (r'.getD j (0, 0))) p1 p2
    (fun j h1 h2 => ph_eq (key j h1 h2).1 (key j h1 h2).2 (by omega)) (fun j h1 h2 _ => ph_lt (key j h1 h2).1 (key j h1 h2).2 (by omega)) (by omega)
  rw [List.size_toArray, List.size_toArray, l1, l2, ← hl, Nat.min_self, decide_eq_false (Nat.lt_irrefl _)] at this
  have e := lexFrom_eq (fun x y : Phase => decide (x = y)) phLt (0, 0) r.length r r' 0 hl rfl (Nat.zero_le _)
  rw [List.drop_zero, List.drop_zero, List.drop_zero] at e
  rw [e, ← rowBefore_lex] at this
  exact this
/-- the least of rows -/
def rMinR (K : PySem.W.Frag) : List V → Hp → VK → Prop := fun vs H Q => ∃ (a : Addr) (ps : List Addr) (rs : List Rhythm) (n : Nat), vs = [V.ref a] ∧ SqL K H a (ps.map V.ref) ∧ Paired (RhyL K H) ps rs ∧ rs ≠ [] ∧ (∀ r ∈ rs, r.length = n) ∧
  ∀ (j : Nat) p r, ps[j]? = some p → rs[j]? = some r → (∀ r' ∈ rs, Bn.rowBefore r' r = false) → Q (.ref p) H
theorem refs_get {ps : List Addr} {us : List Value} (r : Vals (ps.map V.ref) us) {i : Nat} {u : Value} (h : us[i]? = some u) : ∃ p, ps[i]? = some p ∧ u = .ref p := by
  obtain ⟨v, hv, rv⟩ := pr_getR r h
  rw [List.getElem?_map] at hv
  obtain ⟨p, hp, rfl⟩ := Option.map_eq_some_iff.mp hv
  cases rv
  exact ⟨p, hp, rfl⟩
theorem cr_minR {X : Cx} (hc : X.calm = true) (hu : X.A.units + 68 < cLine) : CallR X (.builtin "min") (rMinR X.K) := by
  intro pins s σ H vs us Q I r h
  obtain ⟨a, ps, rs, n, rfl, hs, hP, hne, hn, q⟩ := h
  obtain ⟨its, rv, hl, _⟩ := I.list hs
  rw [Vals.ref1 r]
  have ll : its.length = rs.length := by rw [← rv.length, List.length_map]; exact hP.length
  have hin : X.A.in1.units ≤ X.A.units + 1 := by simp [Around.in1]
  have hpos : 0 < rs.length := List.length_pos_iff.mpr hne
  refine call_minD (bt := fun i j => Bn.rowBefore (rs.getD i []) (rs.getD j [])) (I.ok.hd hc) hl.isList (by rw [List.size_toArray, ll]; exact hpos) ?_ ?_
  · intro i j u v s2 Q2 E2 kp hi hj q2
    rw [List.getElem?_toArray] at hi hj
    obtain ⟨p, hp, rfl⟩ := refs_get rv hi
    obtain ⟨p', hp', rfl⟩ := refs_get rv hj
    obtain ⟨x, hx, gx⟩ := pr_get hP hp
    obtain ⟨y, hy, gy⟩ := pr_get hP hp'
    have ex : rs.getD i [] = x := by simp [List.getD, hx]
    have ey : rs.getD j [] = y := by simp [List.getD, hy]
    rw [ex, ey] at q2
    exact lr_lt ((gx.at I).kept kp) ((gy.at I).kept kp) (by rw [hn _ (List.mem_of_getElem? hx), hn _ (List.mem_of_getElem? hy)]) (by omega) X.prog X.w E2 Q2 q2
  · intro v h' tk hv kp
    rw [List.getElem?_toArray] at hv
    obtain ⟨_, hb⟩ := argBest_best (bt := fun i j => Bn.rowBefore (rs.getD i []) (rs.getD j [])) (fun i => Lt.rowBefore_irrefl _) (fun i j k h1 h2 => Lt.rowBefore_trans h1 h2) (its.toArray.size - 1)
    revert hv hb
    generalize argBest (fun i j => Bn.rowBefore (rs.getD i []) (rs.getD j [])) (its.toArray.size - 1) = J
    intro hv hb
    obtain ⟨p, hp, rfl⟩ := refs_get rv hv
    obtain ⟨x, hx, gx⟩ := pr_get hP hp
    refine ⟨.ref p, H, I.kept kp, rfl, q _ p x hp hx fun r' hr' => ?_⟩
    obtain ⟨i, hi, e⟩ := List.getElem_of_mem hr'
    have := hb i (by rw [List.size_toArray, ll]; omega)
    simp only [List.getD, hx, List.getElem?_eq_getElem hi, Option.getD_some, e] at this
    exact this
/-! ### the greatest of rows of numbers -/
def nI (l : List Nat) : List Int := l.map fun n => ((n : Nat) : Int)
def NsL (K : PySem.W.Frag) (H : Hp) (p : Addr) (l : List Nat) : Prop := SqL K H p ((nI l).map V.int)
theorem gt_int2 (A : Around) (s : Shared) (a : Int) (t : Tok) (c : Int) (u : Tok) : LcAt A s .Gt (.int a t) (.int c u) (decide (a > c)) := fun prog w E Q h =>
  (PyProof.Rows.gt_int h : wpAny (model prog w) A (compareOp .Gt (.int a t) (.int c u)) Q E s)
theorem natBefore_irrefl : ∀ a : List Nat, Bn.natBefore a a = false
  | [] => rfl
  | x :: a => by
    show (decide (x < x) || (x == x && Bn.natBefore a a)) = false
    rw [natBefore_irrefl a]
    simp
theorem natBefore_trans : ∀ {a b c : List Nat}, Bn.natBefore a b = true → Bn.natBefore b c = true → Bn.natBefore a c = true
  | [], _, _, h, _ => by cases h
  | _ :: _, [], _, h, _ => by cases h
  | _ :: _, _ :: _, [], _, h => by cases h
  | x :: a, y :: b, z :: c, h1, h2 => by
    have ih := @natBefore_trans a b c
    change (decide (x < y) || (x == y && Bn.natBefore a b)) = true at h1
    change (decide (y < z) || (y == z && Bn.natBefore b c)) = true at h2
    show (decide (x < z) || (x == z && Bn.natBefore a c)) = true
    rw [Bool.or_eq_true, Bool.and_eq_true, decide_eq_true_iff, beq_iff_eq] at h1 h2 ⊢
    rcases h1 with h1 | ⟨h1, h3⟩
    · rcases h2 with h2 | ⟨h2, h4⟩
      · exact .inl (by omega)
      · exact .inl (by omega)
    · rcases h2 with h2 | ⟨h2, h4⟩
      · exact .inl (by omega)
      · exact .inr ⟨by omega, ih h3 h4⟩
theorem ns_gt {A : Around} {s : Shared} {p q : Addr} {its jts : List Value} {l m : List Nat} (p1 : PlainL s.heap p its.toArray) (p2 : PlainL s.heap q jts.toArray) (v1 : Vals ((nI l).map V.int) its) (v2 : Vals ((nI m).map V.int) jts)
    (hl : l.length = m.length) (hu : A.units < cLine) : LcAt A s .Gt (.ref p) (.ref q) (Bn.natBefore m l) := by
  have nl : ∀ l : List Nat, (nI l).length = l.length := fun l => List.length_map _
  have l1 : its.length = l.length := by rw [← v1.length, List.length_map, nl]
  have l2 : jts.length = m.length := by rw [← v2.length, List.length_map, nl]
  have key : ∀ j (h1 : j < its.toArray.size) (h2 : j < jts.toArray.size), ∃ t t', its.toArray[j] = .int ((nI l).getD j 0) t ∧ jts.toArray[j] = .int ((nI m).getD j 0) t' := by
    intro j h1 h2
    rw [List.size_toArray] at h1 h2
    obtain ⟨x, t, e1, e2⟩ := ints_get v1 h1
    obtain ⟨y, t', e3, e4⟩ := ints_get v2 h2
    refine ⟨t, t', ?_, ?_⟩
    · simp only [List.getElem_toArray, List.getD, e1, e2, Option.getD_some]
    · simp only [List.getElem_toArray, List.getD, e3, e4, Option.getD_some]
  have := rc_listsGt (A := A) (s := s) (fun j => (nI l).getD j 0 == (nI m).getD j 0) (fun j => decide ((nI l).getD j 0 > (nI m).getD j 0)) p1 p2
    (fun j h1 h2 => by
      obtain ⟨t, t', e1, e2⟩ := key j h1 h2
      rw [e1, e2]
      exact SeqAt.EqAt.int_int _ _ _ _)
    (fun j h1 h2 _ => by
      obtain ⟨t, t', e1, e2⟩ := key j h1 h2
      rw [e1, e2]
      exact gt_int2 _ _ _ _ _ _) hu
  rw [List.size_toArray, List.size_toArray, l1, l2, ← hl, Nat.min_self, decide_eq_false (Nat.lt_irrefl _)] at this
  have e := lexFrom_eq (fun x y : Int => x == y) (fun x y => decide (x > y)) 0 l.length (nI l) (nI m) 0 (by rw [nl, nl, hl]) (by rw [nl]; rfl) (Nat.zero_le _)
  rw [List.drop_zero, List.drop_zero, List.drop_zero, nl] at e
  rw [e] at this
  rw [natBefore_lex]
  exact this
def rMaxN (K : PySem.W.Frag) : List V → Hp → VK → Prop := fun vs H Q => ∃ (a : Addr) (ps : List Addr) (rs : List (List Nat)) (n : Nat), vs = [V.ref a] ∧ SqL K H a (ps.map V.ref) ∧ Paired (NsL K H) ps rs ∧ rs ≠ [] ∧ (∀ r ∈ rs, r.length = n) ∧
  ∀ (j : Nat) p r, ps[j]? = some p → rs[j]? = some r → (∀ r' ∈ rs, Bn.natBefore r r' = false) → Q (.ref p) H
theorem cr_maxN {X : Cx} (hc : X.calm = true) (hu : X.A.units + 68 < cLine) : CallR X (.builtin "max") (rMaxN X.K) := by
  intro pins s σ H vs us Q I r h
  obtain ⟨a, ps, rs, n, rfl, hs, hP, hne, hn, q⟩ := h
  obtain ⟨its, rv, hl, _⟩ := I.list hs
  rw [Vals.ref1 r]
  have ll : its.length = rs.length := by rw [← rv.length, List.length_map]; exact hP.length
  have hin : X.A.in1.units ≤ X.A.units + 1 := by simp [Around.in1]
  have hpos : 0 < rs.length := List.length_pos_iff.mpr hne
  refine call_maxD (bt := fun i j => Bn.natBefore (rs.getD j []) (rs.getD i [])) (I.ok.hd hc) hl.isList (by rw [List.size_toArray, ll]; exact hpos) ?_ ?_
  · intro i j u v s2 Q2 E2 kp hi hj q2
    rw [List.getElem?_toArray] at hi hj
    obtain ⟨p, hp, rfl⟩ := refs_get rv hi
    obtain ⟨p', hp', rfl⟩ := refs_get rv hj
    obtain ⟨x, hx, gx⟩ := pr_get hP hp
    obtain ⟨y, hy, gy⟩ := pr_get hP hp'
    have ex : rs.getD i [] = x := by simp [List.getD, hx]
    have ey : rs.getD j [] = y := by simp [List.getD, hy]
    rw [ex, ey] at q2
    obtain ⟨xs, vx, px, _⟩ := I.list gx
    obtain ⟨ys, vy, py, _⟩ := I.list gy
    exact ns_gt (PlainL_kept kp px) (PlainL_kept kp py) vx vy (by rw [hn _ (List.mem_of_getElem? hx), hn _ (List.mem_of_getElem? hy)]) (by omega) X.prog X.w E2 Q2 q2
  · intro v h' tk hv kp
    rw [List.getElem?_toArray] at hv
    obtain ⟨_, hb⟩ := argBest_best (bt := fun i j => Bn.natBefore (rs.getD j []) (rs.getD i [])) (fun i => natBefore_irrefl _) (fun i j k h1 h2 => natBefore_trans h2 h1) (its.toArray.size - 1)
    revert hv hb
    generalize argBest (fun i j => Bn.natBefore (rs.getD j []) (rs.getD i [])) (its.toArray.size - 1) = J
    intro hv hb
    obtain ⟨p, hp, rfl⟩ := refs_get rv hv
    obtain ⟨x, hx, gx⟩ := pr_get hP hp
    refine ⟨.ref p, H, I.kept kp, rfl, q _ p x hp hx fun r' hr' => ?_⟩
    obtain ⟨i, hi, e⟩ := List.getElem_of_mem hr'
    have := hb i (by rw [List.size_toArray, ll]; omega)
    simp only [List.getD, hx, List.getElem?_eq_getElem hi, Option.getD_some, e] at this
    exact this
/-! ### where a row stands first among rows -/
theorem LrAt.unique {h : Heap} {p : Addr} {r r' : Rhythm} (a : LrAt h p r) (b : LrAt h p r') : r = r' := by
  obtain ⟨its, ⟨o, n, e, _, _, d⟩, v⟩ := a
  obtain ⟨jts, ⟨o', n', e', _, _, d'⟩, v'⟩ := b
  rw [e] at e'
  cases e'
  rw [d] at d'
  injection d' with d1 d2
  have ej : its = jts := by simpa using d1
  subst ej
  clear e d d1
  induction v generalizing r' with
  | nil => cases v'; rfl
  | cons q t ih =>
    cases v' with
    | cons q' t' =>
      rw [ih t']
      congr 1
      obtain ⟨a, t1, t2, rfl, ⟨o, e, _, n, d⟩⟩ := q
      obtain ⟨a', t1', t2', e2, ⟨o', e', _, n', d'⟩⟩ := q'
      cases e2
      rw [e] at e'
      cases e'
      rw [d] at d'
      injection d' with d1 d2
      have d3 := congrArg Array.toList d1
      simp at d3
      exact Prod.ext (by omega) (by omega)
def rIndexR (K : PySem.W.Frag) : V → List V → Hp → VK → Prop := fun x xs H Q => ∃ (a b : Addr) (ps : List Addr) (rs : List Rhythm) (r : Rhythm) (j : Nat), x = V.ref a ∧ xs = [V.ref b] ∧ SqL K H a (ps.map V.ref) ∧ Paired (RhyL K H) ps rs ∧ RhyL K H b r ∧
  rs[j]? = some r ∧ (∀ m, m < j → rs[m]? ≠ some r) ∧ Q (.int ((j : Nat) : Int)) H
open Classical in
theorem mt_indexR {X : Cx} (hu : X.A.units + 68 < cLine) : MtR X "list.index" (rIndexR X.K) := by
  intro pins s σ H x xs v us Q I rx rxs h
  obtain ⟨a, b, ps, rs, r, j, rfl, rfl, hs, hP, hr, hz, hno, q⟩ := h
  cases rx
  cases rxs with
  | cons ry rt =>
    cases ry
    cases rt
    obtain ⟨its, rv, ⟨⟨cls, dd, data, sl⟩, n, ho, hc, hdn, hd⟩, hlen⟩ := I.list hs
    simp only at hc hd
    subst hc hd
    have ll : its.length = rs.length := by rw [← rv.length, List.length_map]; exact hP.length
    have hsl := sizeLine_eq
    rw [List.length_map] at hlen
    have lp : ps.length = rs.length := hP.length
    obtain ⟨hjr, _⟩ := List.getElem?_eq_some_iff.mp hz
    have hj : j < its.toArray.size := by rw [List.size_toArray, ll]; exact hjr
    have hin : X.A.in1.units ≤ X.A.units + 1 := by simp [Around.in1]
    have look : ∀ m (hm : m < its.length), ∃ p x, its[m] = Value.ref p ∧ rs[m]? = some x ∧ RhyL X.K H p x := by
      intro m hm
      obtain ⟨p, hp, e⟩ := refs_get rv (List.getElem?_eq_getElem hm)
      obtain ⟨x, hx, gx⟩ := pr_get hP hp
      exact ⟨p, x, e, hx, gx⟩
    have dec : ∀ p x, RhyL X.K H p x → decide (∃ p', Value.ref p = Value.ref p' ∧ RhyL X.K H p' r) = decide (x = r) := by
      intro p x gx
      by_cases h : x = r
      · rw [decide_eq_true h, decide_eq_true ⟨p, rfl, h ▸ gx⟩]
      · rw [decide_eq_false h, decide_eq_false]
        rintro ⟨p', e, g'⟩
        cases e
        exact h ((gx.at I).unique (g'.at I))
    refine call_meets PySem.F.slot_list_index ⟨_, ho, rfl⟩ PySem.F.entry_list_index (PySem.F.args_list_index_2 _ _)
      (SeqAt.list_indexAt a its.toArray n dd sl (.ref b) (fun u => decide (∃ p, u = .ref p ∧ RhyL X.K H p r)) j hj (by omega) ?_ ?_) ⟨ho, fun u' hu' => ?_, ?_⟩
    · obtain ⟨p, x, e1, e2, gx⟩ := look j (by rw [ll]; exact hjr)
      have e3 : its.toArray[j] = Value.ref p := by simpa using e1
      rw [e3, dec p x gx]
      rw [e2] at hz
      exact decide_eq_true (Option.some.inj hz)
    · intro m hm hmj
      obtain ⟨p, x, e1, e2, gx⟩ := look m (by rw [List.size_toArray] at hm; exact hm)
      have e3 : its.toArray[m] = Value.ref p := by simpa using e1
      rw [e3, dec p x gx]
      exact decide_eq_false fun e => hno m hmj (by rw [e2, e])
    · have hm : u' ∈ its := by simpa using hu'
      obtain ⟨m, hm, e⟩ := List.getElem_of_mem hm
      obtain ⟨p, x, e1, e2, gx⟩ := look m hm
      rw [e1] at e
      subst e
      rw [dec p x gx, ← eqv_dR]
      obtain ⟨us1, hL1, hV1⟩ := gx
      obtain ⟨us2, hL2, hV2⟩ := hr
      obtain ⟨as, r1⟩ := Dp.reads I _ _ _ (dp_rhy hL1 hV1) rfl
      obtain ⟨bs, r2⟩ := Dp.reads I _ _ _ (dp_rhy hL2 hV2) rfl
      exact eqAt_reads _ _ _ _ _ _ _ _ r1 r2 (canLay_of_shaped (shaped_dR x)) (canLay_of_shaped (shaped_dR r)) (room_of_shaped (shaped_dR x) (by omega))
    · exact ⟨.int ((j : Nat) : Int), H, I.tok _, ⟨_, rfl⟩, q⟩
end Py
end
section
set_option Elab.async false
set_option linter.all false
set_option maxRecDepth 100000
set_option maxHeartbeats 4000000
namespace Py
open PySem PySem.Spec PyProof.Rows L2
open Bn (Rhythm Phase)
section
variable {P : Program} {w : World} {K : PySem.W.Frag} {mg : Str → Option Value} {base : Heap}
/-! ### beginnings_of -/
abbrev s_beginnings_of : Stmt := top 6
theorem sc_beginnings_of : FnScope ["row", "place"] ["row"] (defScope s_beginnings_of) := ⟨rfl, rfl, rfl, by decide +kernel, rfl, by decide +kernel, by decide +kernel⟩
def turnV {α : Type} (us : List α) (k : Nat) : List α := us.drop k ++ us.take k
def spBeg (K : PySem.W.Frag) : Sp := fun vs H Q _ => ∃ a us, vs = [.ref a] ∧ SqL K H a us ∧ us.length ≤ 100000 ∧
  ∀ H' p ps, Same H H' → (∀ q ∈ ps, H q = none) → H' p = some (.lst (ps.map V.ref)) → Paired (fun q ws => H' q = some (.lst ws)) ps ((List.range us.length).map (turnV us)) → Q (.ref p) H'
theorem ok_beginnings_of {f : Addr} {fd : FuncData} (F : Fun K "beginnings_of" "beginnings_of" s_beginnings_of f fd) (T : Txt K mg) : FnOk P w K mg base CX0 1 f fd ["row"] (spBeg K) := by
  refine F.ok sc_beginnings_of (fun vs H Q E h => ?_) (fun cdv A outer s H vs Q E hr h => ?_)
  · obtain ⟨a, r, rfl, _⟩ := h
    rfl
  · obtain ⟨a, us, rfl, hL, hlen, k⟩ := h
    refine ⟨_, (pss_one (ps_ret (pe_lc rfl sc_beginnings_of.nd (pi_range1 rfl T.n_range (pa_cons (pe_callB call_len_seq (by rfl) T.n_len PySem.boot_len (pa_cons (pv 0) pa_nil)) pa_nil)) (blkOk_by (own := [("place", 1)]) (by kernel_rfl)) (fun _ _ _ _ _ => (pg_name (i := 1) sc_beginnings_of.nd rfl (Or.inl rfl))) (fun _ _ _ _ _ => pts_nil) (fun _ _ _ _ _ => (pe_op op_cat (pe_slice (sl_listK (K := K) rfl) (pv 0) (po_some (pv 1)) po_none) (pe_slice (sl_listK (K := K) rfl) (pv 0) po_none (po_some (pv 1)))))))), ?_⟩
    refine ⟨_, rfl, a, _, rfl, .inl hL, _, rfl, by omega, by omega, fun D hD => ?_⟩
    refine lc_range (lo := 0) (n := (((us.length : Nat) : Int)).toNat) (fun i H' => Same H H' ∧ ∃ ps : List Addr, H' D = some (.lst (ps.map V.ref)) ∧ D ∉ ps ∧ (∀ q ∈ ps, H q = none) ∧ Paired (fun q ws => H' q = some (.lst ws)) ps ((List.range i).map (turnV us))) ⟨Same.new hD, [], upd_same, by simp, (fun q hq => nomatch hq), .nil⟩ ?_ ?_
    · rintro i H' hi ⟨s1, ps, hd, hDp, hnw, hP⟩
      have hi' : i < us.length := by omega
      have ei : (0 : Int) + ((i : Nat) : Int) = ((i : Nat) : Int) := by omega
      refine ⟨rfl, ?_⟩
      rw [ei]
      refine ⟨_, rfl, _, rfl, _, rfl, a, us, rfl, s1.seq hL, fun q hq => ?_⟩
      rw [cut_drop]
      have s2 := s1.put (s1.free hq) (o := .lst (us.drop i))
      refine ⟨_, rfl, _, rfl, _, rfl, a, us, rfl, s2.seq hL, fun q2 hq2 => ?_⟩
      rw [cut_take]
      have n2 : q2 ≠ q := fun e => by rw [e, upd_same] at hq2; cases hq2
      have hq2' : H' q2 = none := by rw [upd_ne n2] at hq2; exact hq2
      have s3 := s2.put (s1.free hq2') (o := .lst (us.take i))
      refine ⟨q, q2, us.drop i, us.take i, rfl, rfl, by rw [upd_ne n2.symm]; exact upd_same, upd_same, ?_, fun q3 hq3 => ?_⟩
      · rw [List.length_drop, List.length_take]
        exact Nat.le_of_lt (small (by omega))
      have n31 : q3 ≠ q2 := fun e => by rw [e, upd_same] at hq3; cases hq3
      rw [upd_ne n31] at hq3
      have n32 : q3 ≠ q := fun e => by rw [e, upd_same] at hq3; cases hq3
      rw [upd_ne n32] at hq3
      have nD1 : D ≠ q := fun e => by rw [← e, hd] at hq; cases hq
      have nD2 : D ≠ q2 := fun e => by rw [← e, hd] at hq2'; cases hq2'
      have nD3 : D ≠ q3 := fun e => by rw [← e, hd] at hq3; cases hq3
      have fr : ∀ (p : Addr), p ∈ ps → ∃ ws, H' p = some (.lst ws) := by
        intro p hp
        obtain ⟨i, hi, e⟩ := List.getElem_of_mem hp
        obtain ⟨x, _, gx⟩ := pr_get hP (List.getElem?_eq_getElem hi)
        exact ⟨x, by rw [← e]; exact gx⟩
      have nps : ∀ {z : Addr}, H' z = none → z ∉ ps := fun {z} hz m => by
        obtain ⟨ws, e⟩ := fr z m
        rw [hz] at e
        cases e
      refine ⟨ps.map V.ref, ?_, ?_, ?_⟩
      · rw [upd_ne nD3, upd_ne nD2, upd_ne nD1]
        exact hd
      · have := hP.length
        rw [List.length_map, List.length_range] at this
        rw [List.length_map, this]
        exact small (by omega)
      · refine ⟨(s3.put (s1.free hq3)).put hD, ps ++ [q3], ?_, ?_, ?_, ?_⟩
        · rw [upd_same, List.map_append]
          rfl
        · intro m
          rcases List.mem_append.mp m with m | m
          · exact hDp m
          · exact nD3 (List.mem_singleton.mp m)
        · intro z m
          rcases List.mem_append.mp m with m | m
          · exact hnw z m
          · rw [List.mem_singleton.mp m]
            exact s1.free hq3
        · rw [List.range_succ, List.map_append]
          refine pr_append ?_ (.cons ?_ .nil)
          · have go : ∀ {ps : List Addr} {ws : List (List V)}, Paired (fun q ws => H' q = some (.lst ws)) ps ws → D ∉ ps → q ∉ ps → q2 ∉ ps → q3 ∉ ps → ∀ {o1 o2 o3 o4 : HO}, Paired (fun q' ws => (upd (upd (upd (upd H' q o1) q2 o2) q3 o3) D o4) q' = some (.lst ws)) ps ws := by
              intro ps ws h
              induction h with
              | nil => intros; exact .nil
              | cons e t ih =>
                intro d1 d2 d3 d4 o1 o2 o3 o4
                refine .cons ?_ (ih (fun m => d1 (List.mem_cons_of_mem _ m)) (fun m => d2 (List.mem_cons_of_mem _ m)) (fun m => d3 (List.mem_cons_of_mem _ m)) (fun m => d4 (List.mem_cons_of_mem _ m)))
                rw [upd_ne (fun q => d1 (by rw [q]; exact List.mem_cons_self)), upd_ne (fun q => d4 (by rw [q]; exact List.mem_cons_self)), upd_ne (fun q => d3 (by rw [q]; exact List.mem_cons_self)), upd_ne (fun q => d2 (by rw [q]; exact List.mem_cons_self))]
                exact e
            exact go hP hDp (nps hq) (nps hq2') (nps hq3)
          · show _ = some (HO.lst (turnV us i))
            rw [upd_ne nD3.symm]
            exact upd_same
    · rintro H' ⟨s1, ps, hd, hDp, hnw, hP⟩
      rw [Int.toNat_natCast] at hP
      exact k H' D ps s1 hnw hd hP
end
end Py
end
section
set_option Elab.async false
set_option linter.all false
set_option maxRecDepth 100000
set_option maxHeartbeats 4000000
namespace Py
open PySem PySem.Spec PyProof.Rows L2
open Bn (Rhythm Phase)
/-! ### the class -/
def lf (v1 v2 v3 : V) : List (Str × V) := [("form", v1), ("period", v2), ("begins", v3)]
structure Lcls (K : PySem.W.Frag) (mg : Str → Option Value) (C : Addr) : Prop where
  cl : Cls K C
  nf : NoAttr K C "form"
  np : NoAttr K C "period"
  nb : NoAttr K C "begins"
def spInitL (C : Addr) : Sp := fun vs H Q _ => ∃ (p dx : Addr) (v1 v2 v3 : V), vs = [.ref p, v1, v2, v3] ∧ H p = some (.ins C dx []) ∧ ∀ H' : Hp, H' p = some (.ins C dx (lf v1 v2 v3)) → (∀ b o, H b = some o → b ≠ p → H' b = some o) → Q .non H'
abbrev psL : List Str := ["self", "form", "period", "begins"]
abbrev s_Light_init : Stmt := inClass (top 1) 0
theorem sc_Light_init : FnScope psL psL (defScope s_Light_init) := ⟨rfl, rfl, rfl, by decide +kernel, rfl, by decide +kernel, by decide +kernel⟩
section
variable {P : Program} {w : World} {K : PySem.W.Frag} {mg : Str → Option Value} {base : Heap} {C : Addr}
theorem ok_Light_init {f : Addr} {fd : FuncData} (F : Fun K "__init__" "Light.__init__" s_Light_init f fd) (L : Lcls K mg C) : FnOk P w K mg base CX0 1 f fd psL (spInitL C) := by
  refine F.ok sc_Light_init (fun vs H Q E h => ?_) (fun cdv A outer s H vs Q E hr h => ?_)
  · obtain ⟨p, dx, v1, v2, v3, rfl, _⟩ := h
    rfl
  · obtain ⟨p, dx, v1, v2, v3, rfl, hp, k⟩ := h
    refine ⟨_, pss_cons (ps_fld (pv 0) (pv 1) rfl) (pss_cons (ps_fld (pv 0) (pv 2) rfl) (pss_one (ps_fld (pv 0) (pv 3) rfl))), ?_⟩
    refine ⟨_, rfl, _, rfl, p, C, dx, [], rfl, hp, L.cl, L.nf, (by show 0 < 1000; decide), ?_⟩
    refine ⟨_, rfl, _, rfl, p, C, dx, _, rfl, upd_same, L.cl, L.np, (by show 1 < 1000; decide), ?_⟩
    refine ⟨_, rfl, _, rfl, p, C, dx, _, rfl, upd_same, L.cl, L.nb, (by show 2 < 1000; decide), ?_⟩
    refine k _ (Eq.trans upd_same ?_) fun b o e hb => by rw [upd_ne hb, upd_ne hb, upd_ne hb]; exact e
    rfl
def MakL (P : Program) (w : World) (K : PySem.W.Frag) (mg : Str → Option Value) (base : Heap) (C : Addr) : Prop :=
  ∃ f fd, Mk K C f ∧ mg "Light" = some (.ref C) ∧ Binds K fd psL [] ∧ FnOk P w K mg base CX0 1 f fd psL (spInitL C)
theorem pe_mkL {X : Cx} {pos p : Pos} {e : Expr} {es : List Expr} {t : TA} (h : MakL X.prog X.w X.K X.mg X.base C) (hr : Room 2 X.A) (hg : Gl X "Light") (ha : PA X (e :: es) t)
    (he : starEach (e :: es) X.env = (false, eval e X.env) :: starEach es X.env := by rfl) (hpl : (backTo pos (starEach es X.env)).any (·.1) = false := by rfl) :
    PE X (.Call (.Name "Light" p) (e :: es) [] pos) (tMake C (spInitL C) [] E0 t) :=
  let ⟨f, fd, M, hm, hb, F⟩ := h
  pe_make M F hr hg hm hb .nil pass0 ha (by decide) he hpl
/-- the begin of a light -/
def Beg (r : Rhythm) (b : Nat) : Prop := Bn.period r ≠ 0 → ∃ a, b = a % Bn.period r ∧ Lt.Go r (Bn.form r) a
/-- a Light of the rhythm stands at p -/
def LightAtQ (C : Addr) (K : PySem.W.Frag) (H : Hp) (p q : Addr) (r : Rhythm) (b : Nat) : Prop :=
  ∃ dx, H p = some (.ins C dx (lf (.ref q) (.int ((Bn.period r : Nat) : Int)) (.int ((b : Nat) : Int)))) ∧ RhyL K H q (Bn.form r) ∧ Beg r b
def LightAt (C : Addr) (K : PySem.W.Frag) (H : Hp) (p : Addr) (r : Rhythm) (b : Nat) : Prop :=
  ∃ dx q, H p = some (.ins C dx (lf (.ref q) (.int ((Bn.period r : Nat) : Int)) (.int ((b : Nat) : Int)))) ∧ RhyL K H q (Bn.form r) ∧ Beg r b
theorem LightAtQ.at {C : Addr} {K : PySem.W.Frag} {H : Hp} {p q : Addr} {r : Rhythm} {b : Nat} (h : LightAtQ C K H p q r b) : LightAt C K H p r b :=
  let ⟨dx, h1, h2, h3⟩ := h
  ⟨dx, q, h1, h2, h3⟩
theorem LightAt.same {H H' : Hp} {p : Addr} {r : Rhythm} {b : Nat} (h : LightAt C K H p r b) (s : Same H H') : LightAt C K H' p r b :=
  let ⟨dx, q, h1, h2, h3⟩ := h
  ⟨dx, q, s _ _ h1, h2.same s, h3⟩
def spLight (C : Addr) (K : PySem.W.Frag) : Sp := fun vs H Q _ => ∃ a r, vs = [.ref a] ∧ RhyL K H a r ∧ Lt.Pos r ∧ r ≠ [] ∧ r.length ≤ 100000 ∧ ∀ H' p q b, Same H H' → H p = none → H q = none → LightAtQ C K H' p q r b → Q (.ref p) H'
theorem joined_len2 (r : Rhythm) : (Bn.joined r).length ≤ r.length := joined_len r
theorem turned_length (r : Rhythm) (k : Nat) : (Bn.turned r k).length = r.length := by
  unfold Bn.turned
  rw [List.length_append, List.length_drop, List.length_take]
  omega
theorem turns_paired {H : Hp} {us : List V} {r : Rhythm} {ps : List Addr} (hV : RhyV K H us r) (hP : Paired (fun q ws => H q = some (.lst ws)) ps ((List.range us.length).map (turnV us))) : Paired (RhyL K H) ps ((List.range r.length).map (Bn.turned r)) := by
  have hl : us.length = r.length := hV.length
  rw [hl] at hP
  generalize List.range r.length = ks at hP
  revert hP
  induction ks generalizing ps with
  | nil =>
    intro hP
    cases hP
    exact .nil
  | cons k ks ih =>
    intro hP
    cases hP with
    | cons e t => exact .cons ⟨_, SqL.of e, pr_append (pr_drop k hV) (pr_take k hV)⟩ (ih t)
theorem range_map_get {α : Type} (g : Nat → α) {n j : Nat} {x : α} (h : ((List.range n).map g)[j]? = some x) : j < n ∧ x = g j := by
  rw [List.getElem?_map] at h
  obtain ⟨y, hy, e⟩ := Option.map_eq_some_iff.mp h
  obtain ⟨hj, ej⟩ := List.getElem?_eq_some_iff.mp hy
  rw [List.length_range] at hj
  rw [List.getElem_range] at ej
  exact ⟨hj, by rw [← e, ← ej]⟩
theorem first_at {α : Type} [DecidableEq α] : ∀ {l : List α} {x : α}, x ∈ l → ∃ j : Nat, l[j]? = some x ∧ ∀ m : Nat, m < j → l[m]? ≠ some x
  | [], _, h => by cases h
  | y :: l, x, h => by
    by_cases e : y = x
    · exact ⟨0, by rw [e]; rfl, fun m hm => by omega⟩
    · obtain ⟨j, h1, h2⟩ := first_at (l := l) (x := x) ((List.mem_cons.mp h).resolve_left fun q => e q.symm)
      refine ⟨j + 1, h1, fun m hm => ?_⟩
      cases m with
      | zero =>
        intro q
        exact e (Option.some.inj q)
      | succ m => exact h2 m (by omega)
theorem least_of {R x : Rhythm} (hne : R ≠ []) {j : Nat} (hj : j < R.length) (ex : x = Bn.turned R j) (hmin : ∀ k, k < R.length → Bn.rowBefore (Bn.turned R k) x = false) : x = Bn.leastTurn R := by
  obtain ⟨⟨k, hk, ek⟩, h2⟩ := Lt.leastTurn_spec R hne
  refine Lt.rowBefore_total ?_ ?_ ?_
  · rw [ex, ek, turned_length, turned_length]
  · rw [ex]; exact h2 j hj
  · rw [ek]; exact hmin k hk
theorem once_len {R : Rhythm} (h : R ≠ []) : (Bn.onceOf R).length ≤ R.length := by
  obtain ⟨m, h1, h2, h3, h4, h5⟩ := Lt.onceOf_spec R h
  rw [h4, List.length_take]
  omega
theorem once_ne {R : Rhythm} (h : R ≠ []) : Bn.onceOf R ≠ [] := by
  obtain ⟨m, h1, h2, h3, h4, h5⟩ := Lt.onceOf_spec R h
  intro q
  rw [q] at h2
  apply h
  rw [h2]
  unfold Lt.pow
  induction m with
  | zero => rfl
  | succ m ih => simp
theorem once_pos {R : Rhythm} (p : Lt.Pos R) (h : R ≠ []) : Lt.Pos (Bn.onceOf R) := by
  obtain ⟨m, h1, h2, h3, h4, h5⟩ := Lt.onceOf_spec R h
  intro x hx
  rw [h4] at hx
  exact p x (List.mem_of_mem_take hx)
/-! ### light_of -/
abbrev s_light_of : Stmt := top 7
theorem sc_light_of : FnScope ["phases", "runs", "lead", "turn", "period", "beginnings", "form", "before"] ["phases"] (defScope s_light_of) := ⟨rfl, rfl, rfl, by decide +kernel, rfl, by decide +kernel, by decide +kernel⟩
abbrev nsL : List Str := ["phases", "runs", "lead", "turn", "period", "beginnings", "form", "before"]
theorem light_rest {f : Addr} (T : Txt K mg) (G_Light : MakL P w K mg base C) (G_one_round : Has P w K mg base 1 "one_round" ["runs"] (spRound K)) (G_span_of : Has P w K mg base 1 "span_of" ["phases"] (spSpan K)) (G_beginnings_of : Has P w K mg base 1 "beginnings_of" ["row"] (spBeg K))
    (cdv : Value) (A : Around) (outer : List Env) (s : Shared) (H : Hp) (E : XK) (hr : Room 2 (A.deeper (envOfC "light_of" (defScope s_light_of) s.heap.objs.size f cdv))) :
    ∃ t, PSs (cxOf CX0 P w K mg base nsL "light_of" (defScope s_light_of) f cdv A outer s H E).nox ((defBody s_light_of).drop 4) t ∧
      ∀ (Q : VK) (a p : Addr) (r : Rhythm) (H6 : Hp), Same H H6 → RhyL K H6 p (Lt.roundOf (Bn.joined r)) → Lt.Pos r → r ≠ [] → r.length ≤ 100000 → 2 ≤ (Bn.joined r).length →
        (∀ H' p q b, Same H H' → H p = none → H q = none → LightAtQ C K H' p q r b → Q (.ref p) H') →
        t { nx := fun _ H' => Q .non H', rt := Q } [some (.ref a), some (.ref p), some (.int ((Lt.leadOf (Bn.joined r) : Nat) : Int)), none, none, none, none, none] H6 := by
  have hu68 := hr.un
  replace hu68 : (A.deeper (envOfC "light_of" (defScope s_light_of) s.heap.objs.size f cdv)).units + 68 < cLine := by omega
  refine ⟨_, (pss_cons (ps_set (i := 3) sc_light_of.nd rfl (Or.inl rfl) (pe_has G_one_round (hr.mono (by decide)) (by rfl) (pa_cons (pv 1) pa_nil)))
      (pss_cons (ps_set (i := 4) sc_light_of.nd rfl (Or.inl rfl) (pe_has G_span_of (hr.mono (by decide)) (by rfl) (pa_cons (pv 3) pa_nil)))
      (pss_cons (ps_set (i := 5) sc_light_of.nd rfl (Or.inl rfl) (pe_has G_beginnings_of (hr.mono (by decide)) (by rfl) (pa_cons (pv 3) pa_nil)))
      (pss_cons (ps_set (i := 6) sc_light_of.nd rfl (Or.inl rfl) (pe_callB (cr_minR rfl hu68) (by rfl) T.n_min boot_min (pa_cons (pv 5) pa_nil)))
      (pss_cons (ps_set (i := 7) sc_light_of.nd rfl (Or.inl rfl) (pe_slice sl_list (pv 3) po_none (po_some (pe_bm PySem.F.plainAttrs_list PySem.F.slot_list_index PySem.F.type_list_index (mt_indexR hu68) (pv 5) (pa_cons (pv 6) pa_nil)))))
      (pss_one (ps_ret (pe_mkL G_Light hr (by rfl) (pa_cons (pv 6) (pa_cons (pv 4) (pa_cons (pe_op op_mod (pe_op op_add (pv 2) (pe_has G_span_of (hr.mono (by decide)) (by rfl) (pa_cons (pv 7) pa_nil))) (pv 4)) pa_nil))))))))))), ?_⟩
  intro Q a p r H6 sA hL6 hp hne hlen h2 k
  have hjl := joined_len r
  obtain ⟨e1, e2, e3, e4⟩ := Lt.form_two hp hne h2
  have hrl : (Lt.roundOf (Bn.joined r)).length ≤ (Bn.joined r).length := by
    unfold Lt.roundOf
    split
    · refine Nat.le_trans (joined_len _) ?_
      rw [List.length_append, List.length_drop, List.length_take]
      omega
    · exact Nat.le_refl _
  obtain ⟨c1, c2, _⟩ := Lt.round_turns hp h2
  have hR0 : Lt.roundOf (Bn.joined r) ≠ [] := c1.ne
  refine ⟨_, rfl, p, _, rfl, hL6, hR0, by omega, fun H7 p7 s7 hL7 => ?_⟩
  refine ⟨_, rfl, p7, _, rfl, hL7, ?_, fun H8 s8 => ?_⟩
  · exact Nat.le_trans (once_len hR0) (by omega)
  obtain ⟨us7, hS7, hV7⟩ := hL7
  have hl7 : us7.length = (Bn.onceOf (Lt.roundOf (Bn.joined r))).length := hV7.length
  have hol := once_len hR0
  refine ⟨_, rfl, p7, us7, rfl, s8.seq hS7, by omega, fun H9 p9 ps s9 hnw9 hp9 hP9 => ?_⟩
  have hV9 := RhyV.same hV7 (s8.trans s9)
  have hT9 := turns_paired hV9 hP9
  have hW0 : Bn.onceOf (Lt.roundOf (Bn.joined r)) ≠ [] := once_ne hR0
  have hWl : 0 < (Bn.onceOf (Lt.roundOf (Bn.joined r))).length := List.length_pos_iff.mpr hW0
  refine ⟨_, rfl, p9, ps, _, (Bn.onceOf (Lt.roundOf (Bn.joined r))).length, rfl, SqL.of hp9, hT9, ?_, ?_, ?_⟩
  · intro q
    have := congrArg List.length q
    rw [List.length_map, List.length_range, List.length_nil] at this
    omega
  · intro x hx
    obtain ⟨i, _, rfl⟩ := List.mem_map.mp hx
    exact turned_length _ _
  intro j pf x hpf hx hmin
  obtain ⟨hjn, ex⟩ := range_map_get _ hx
  obtain ⟨x', hx', hLf⟩ := pr_get hT9 hpf
  rw [hx] at hx'
  cases hx'
  have efm : x = Bn.form r := by
    rw [← e1]
    exact least_of hW0 hjn ex fun i hi => hmin _ (List.mem_map.mpr ⟨i, List.mem_range.mpr hi, rfl⟩)
  subst efm
  obtain ⟨j2, hj2, hno⟩ := first_at (List.mem_of_getElem? hx)
  refine ⟨_, rfl, _, rfl, .inl ⟨rfl, _, SqL.of hp9⟩, _, rfl, p9, pf, ps, _, _, j2, rfl, rfl, SqL.of hp9, hT9, hLf, hj2, hno, _, rfl, p7, us7, rfl, s9.seq (s8.seq hS7), fun q hq => ?_⟩
  rw [cut_take]
  have sB : Same H9 (upd H9 q (.lst (us7.take j2))) := Same.new hq
  obtain ⟨hj2n, ej2⟩ := range_map_get _ hj2
  refine ⟨_, rfl, _, rfl, _, rfl, _, rfl, q, (Bn.onceOf (Lt.roundOf (Bn.joined r))).take j2, rfl, ⟨_, SqL.of upd_same, pr_take _ (RhyV.same hV9 sB)⟩, ?_, fun H10 s10 => ?_⟩
  · rw [List.length_take]
    omega
  have hper : 0 < Bn.period r := by
    rw [e3]
    exact Lt.total_pos (once_pos c2 hR0) hW0
  refine ⟨_, _, rfl, rfl, _, rfl, _, _, rfl, rfl, (by rw [← e3]; exact Int.natCast_pos.mpr hper), ?_⟩
  intro x0 d0 n0 m0 ee0
  refine ⟨x0, d0, _, _, _, rfl, upd_same, fun H11 c0 k11 => ⟨rfl, ?_⟩⟩
  have s11 := Same.made n0 m0 k11
  have sC : Same H9 H11 := (sB.trans s10).trans s11
  have sH9 := ((sA.trans s7).trans s8).trans s9
  refine k H11 x0 pf ((Lt.leadOf (Bn.joined r) + Bn.total ((Bn.onceOf (Lt.roundOf (Bn.joined r))).take j2)) % Bn.period r) (sH9.trans sC) (((sH9.trans sB).trans s10).free n0) (((sA.trans s7).trans s8).free (hnw9 pf (List.mem_of_getElem? hpf))) ⟨d0, ?_, hLf.same sC, fun _ => ⟨_, rfl, e4 j2 ej2.symm⟩⟩
  rw [c0, e3]
  have em : (((Lt.leadOf (Bn.joined r) : Nat) : Int) + ((Bn.total ((Bn.onceOf (Lt.roundOf (Bn.joined r))).take j2) : Nat) : Int)) % ((Bn.total (Bn.onceOf (Lt.roundOf (Bn.joined r))) : Nat) : Int) = (((Lt.leadOf (Bn.joined r) + Bn.total ((Bn.onceOf (Lt.roundOf (Bn.joined r))).take j2)) % Bn.total (Bn.onceOf (Lt.roundOf (Bn.joined r))) : Nat) : Int) := by
    rw [Int.natCast_emod, Int.natCast_add]
  exact congrArg (fun z => some (HO.ins C d0 (lf (V.ref pf) (V.int ((Bn.total (Bn.onceOf (Lt.roundOf (Bn.joined r))) : Nat) : Int)) (V.int z)))) em
theorem ok_light_of {f : Addr} {fd : FuncData} (F : Fun K "light_of" "light_of" s_light_of f fd) (T : Txt K mg) (G_Light : MakL P w K mg base C) (G_joined : Has P w K mg base 1 "joined" ["phases"] (spJoined K)) (G_closed_behind : Has P w K mg base 1 "closed_behind" ["runs"] (spLead K))
    (G_one_round : Has P w K mg base 1 "one_round" ["runs"] (spRound K)) (G_span_of : Has P w K mg base 1 "span_of" ["phases"] (spSpan K)) (G_beginnings_of : Has P w K mg base 1 "beginnings_of" ["row"] (spBeg K)) : FnOk P w K mg base CX0 3 f fd ["phases"] (spLight C K) := by
  refine F.ok sc_light_of (fun vs H Q E h => ?_) (fun cdv A outer s H vs Q E hr h => ?_)
  · obtain ⟨a, r, rfl, _⟩ := h
    rfl
  · obtain ⟨a, r, rfl, hL, hp, hne, hlen, k⟩ := h
    obtain ⟨t4, P4, R4⟩ := light_rest (f := f) T G_Light G_one_round G_span_of G_beginnings_of cdv A outer s H E hr
    refine ⟨_, (pss_cons (ps_set (i := 1) sc_light_of.nd rfl (Or.inl rfl) (pe_has G_joined (hr.mono (by decide)) (by rfl) (pa_cons (pv 0) pa_nil))) (pss_cons (ps_if (pt_cmpR op_eq (pe_callB call_len_seq (by rfl) T.n_len PySem.boot_len (pa_cons (pv 1) pa_nil)) pe_int (nomark _)) (pss_one (ps_ret (pe_mkL G_Light hr (by rfl) (pa_cons (pe_lst (pa_cons (pe_tup (pa_cons (pe_ix ix_tup (pe_ix ix_list (pv 1) pe_int (fun _ _ => rfl)) pe_int (fun _ _ => rfl)) (pa_cons pe_int pa_nil))) pa_nil)) (pa_cons pe_int (pa_cons pe_int pa_nil)))))) pss_nil) (pss_cons (ps_set (i := 2) sc_light_of.nd rfl (Or.inl rfl) (pe_has G_closed_behind (hr.mono (by decide)) (by rfl) (pa_cons (pv 1) pa_nil))) (pss_cons (ps_if (pt_cmpR op_gt (pv 2) pe_int (nomark _)) (pss_one (ps_set (i := 1) sc_light_of.nd rfl (Or.inl rfl) (pe_has G_joined (hr.mono (by decide)) (by rfl) (pa_cons (pe_op op_cat (pe_slice sl_list (pv 1) (po_some pe_int) po_none) (pe_slice sl_list (pv 1) po_none (po_some pe_int))) pa_nil)))) pss_nil) P4)))), ?_⟩
    refine ⟨_, rfl, a, r, rfl, hL, by omega, fun H1 p us s1 hp0 hp1 hV1 => ?_⟩
    have hjl := joined_len r
    have hul : us.length = (Bn.joined r).length := hV1.length
    have hj0 : Bn.joined r ≠ [] := Lt.joined_ne hne
    refine ⟨_, rfl, p, _, rfl, .inl (SqL.of hp1), rfl, _, rfl, ?_⟩
    by_cases h1 : (Bn.joined r).length = 1
    · obtain ⟨x, ex⟩ : ∃ x, Bn.joined r = [x] := List.length_eq_one_iff.mp h1
      rw [ex] at hV1
      cases hV1 with
      | cons hx hn =>
        cases hn
        obtain ⟨c, rfl, hc⟩ := hx
        refine iteP (decide_eq_true (by rw [hul, h1]; rfl)) ?_
        refine ⟨_, rfl, p, _, _, _, rfl, rfl, SqL.of hp1, atI_nat (j := 0) rfl, c, _, _, _, rfl, rfl, hc, atI_nat (j := 0) rfl, (by show 2 ≤ sizeLine; decide), fun t ht => ⟨(by show 1 ≤ sizeLine; decide), fun l hl => ?_⟩⟩
        intro x0 d0 n0 m0 e0
        refine ⟨x0, d0, _, _, _, rfl, upd_same, fun H2 c0 k2 => ⟨rfl, ?_⟩⟩
        have s2 := Same.made n0 m0 k2
        have s3 : Same H1 H2 := ((Same.new ht).put (o := .lst [.ref t]) ((Same.new ht).free hl)).trans s2
        obtain ⟨ef, ep⟩ := Lt.form_one hp hne ex
        refine k H2 x0 l 0 (s1.trans s3) ((s1.trans ((Same.new ht).put (o := .lst [.ref t]) ((Same.new ht).free hl))).free n0) ((s1.trans (Same.new ht)).free hl) ⟨d0, ?_, ?_, fun q => absurd ep q⟩
        · rw [c0, ep]
          rfl
        · rw [ef]
          refine ⟨[.ref t], SqL.of (s2 _ _ upd_same), .cons ⟨t, rfl, SqT.of (s2 _ _ ?_)⟩ .nil⟩
          rw [upd_ne (ne_of_none (H := upd H1 t _) upd_same hl)]
          exact upd_same
    · refine iteQ (decide_eq_false (fun e => h1 (by injection e with e; rw [hul] at e; omega))) ?_
      have h2 : 2 ≤ (Bn.joined r).length := by
        have := List.length_pos_iff.mpr hj0
        omega
      refine ⟨_, rfl, p, _, rfl, ⟨us, SqL.of hp1, hV1⟩, fun H2 s2 => ?_⟩
      refine ⟨_, rfl, _, _, rfl, rfl, _, rfl, ?_⟩
      by_cases hlead : 0 < Lt.leadOf (Bn.joined r)
      · refine iteP (decide_eq_true (by omega)) ?_
        refine ⟨_, rfl, _, rfl, p, us, rfl, SqL.of (s2 _ _ hp1), fun q hq => ?_⟩
        have ec1 : cutV us (some (1 : Int)) none = us.drop 1 := cut_drop us 1
        rw [ec1]
        have s3 : Same H2 (upd H2 q (.lst (us.drop 1))) := Same.new hq
        refine ⟨_, rfl, _, rfl, p, us, rfl, SqL.of (s3 _ _ (s2 _ _ hp1)), fun q2 hq2 => ?_⟩
        have ec2 : cutV us none (some (1 : Int)) = us.take 1 := cut_take us 1
        rw [ec2]
        have n2 : q2 ≠ q := fun e => by rw [e, upd_same] at hq2; cases hq2
        have s4 : Same H2 (upd (upd H2 q (.lst (us.drop 1))) q2 (.lst (us.take 1))) := s3.put (s3.free hq2)
        refine ⟨q, q2, _, _, rfl, rfl, by rw [upd_ne n2.symm]; exact upd_same, upd_same, ?_, fun q3 hq3 => ?_⟩
        · rw [List.length_drop, List.length_take]
          exact Nat.le_of_lt (small (by omega))
        have s5 := s4.put (s4.free hq3) (o := .lst (us.drop 1 ++ us.take 1))
        have hV5 := RhyV.same hV1 (s2.trans s5)
        refine ⟨q3, _, rfl, ⟨_, SqL.of upd_same, pr_append (pr_drop 1 hV5) (pr_take 1 hV5)⟩, ?_, fun H6 p6 us6 s6 hp6 hp6' hV6 => ?_⟩
        · rw [List.length_append, List.length_drop, List.length_take]
          omega
        have eR : Bn.joined ((Bn.joined r).drop 1 ++ (Bn.joined r).take 1) = Lt.roundOf (Bn.joined r) := by
          unfold Lt.roundOf
          rw [if_pos hlead]
        rw [eR] at hV6
        have sA : Same H H6 := ((s1.trans s2).trans s5).trans s6
        have hL6 : RhyL K H6 p6 (Lt.roundOf (Bn.joined r)) := ⟨us6, SqL.of hp6', hV6⟩
        exact R4 Q a p6 r H6 sA hL6 hp hne hlen h2 k
      · refine iteQ (decide_eq_false (by omega)) ?_
        have eR : Lt.roundOf (Bn.joined r) = Bn.joined r := by
          unfold Lt.roundOf
          rw [if_neg hlead]
        have sA : Same H H2 := s1.trans s2
        have hL6 : RhyL K H2 p (Lt.roundOf (Bn.joined r)) := by
          rw [eR]
          exact ⟨us, SqL.of (s2 _ _ hp1), RhyV.same hV1 s2⟩
        exact R4 Q a p r H2 sA hL6 hp hne hlen h2 k
/-! ### same_light, shift_between -/
abbrev s_same_light : Stmt := top 8
theorem sc_same_light : FnScope ["one", "other"] ["one", "other"] (defScope s_same_light) := ⟨rfl, rfl, rfl, by decide +kernel, rfl, by decide +kernel, by decide +kernel⟩
def spSame (C : Addr) (K : PySem.W.Frag) : Sp := fun vs H Q _ => ∃ p q r s b c, vs = [.ref p, .ref q] ∧ LightAt C K H p r b ∧ LightAt C K H q s c ∧ Q (.bl (decide (Bn.form r = Bn.form s))) H
theorem lf_form (v1 v2 v3 : V) : (lf v1 v2 v3).lookup ("form" : Str) = some v1 := rfl
theorem lf_period (v1 v2 v3 : V) : (lf v1 v2 v3).lookup ("period" : Str) = some v2 := rfl
theorem lf_begins (v1 v2 v3 : V) : (lf v1 v2 v3).lookup ("begins" : Str) = some v3 := rfl
theorem ok_same_light {f : Addr} {fd : FuncData} (F : Fun K "same_light" "same_light" s_same_light f fd) (L : Lcls K mg C) : FnOk P w K mg base CX0 1 f fd ["one", "other"] (spSame C K) := by
  refine F.ok sc_same_light (fun vs H Q E h => ?_) (fun cdv A outer s H vs Q E hr h => ?_)
  · obtain ⟨p, q, r, t, b, c, rfl, _⟩ := h
    rfl
  · obtain ⟨p, q, r, t, b, c, rfl, ⟨d1, q1, h1, ⟨us1, hL1, hV1⟩, _⟩, ⟨d2, q2, h2, ⟨us2, hL2, hV2⟩, _⟩, k⟩ := h
    have hu64 := hr.units
    refine ⟨_, (pss_one (ps_ret (pe_cmpR (op_eqD hu64) (pe_fld (pv 0) rfl) (pe_fld (pv 1) rfl) (nomark _)))), ?_⟩
    refine ⟨_, rfl, p, C, d1, _, _, rfl, h1, L.cl, L.nf, lf_form _ _ _, _, rfl, q, C, d2, _, _, rfl, h2, L.cl, L.nf, lf_form _ _ _, _, _, dp_rhy hL1 hV1, dp_rhy hL2 hV2, shaped_dR _, shaped_dR _, ?_⟩
    rw [eqv_dR]
    exact k
abbrev s_shift_between : Stmt := top 9
theorem sc_shift_between : FnScope ["one", "other"] ["one", "other"] (defScope s_shift_between) := ⟨rfl, rfl, rfl, by decide +kernel, rfl, by decide +kernel, by decide +kernel⟩
def spShift (C : Addr) (K : PySem.W.Frag) : Sp := fun vs H Q _ => ∃ p q r s b c k, vs = [.ref p, .ref q] ∧ LightAt C K H p r b ∧ LightAt C K H q s c ∧ Lt.Pos r ∧ r ≠ [] ∧ Lt.Pos s ∧ s ≠ [] ∧ Bn.form r = Bn.form s ∧ Wqatdx.shiftOf r s = some k ∧ Q (.int ((k : Nat) : Int)) H
theorem period_form (r : Rhythm) : Bn.period r = 0 ↔ (Bn.form r).length ≤ 1 ∨ Bn.total (Bn.form r) = 0 := by
  unfold Bn.period
  generalize Bn.form r = g
  match g with
  | [] => simp
  | [x] => simp
  | x :: y :: l => simp
theorem ok_shift_between {f : Addr} {fd : FuncData} (F : Fun K "shift_between" "shift_between" s_shift_between f fd) (L : Lcls K mg C) : FnOk P w K mg base CX0 1 f fd ["one", "other"] (spShift C K) := by
  refine F.ok sc_shift_between (fun vs H Q E h => ?_) (fun cdv A outer s H vs Q E hr h => ?_)
  · obtain ⟨p, q, r, t, b, c, kk, rfl, _⟩ := h
    rfl
  · obtain ⟨p, q, r, t, b, c, kk, rfl, ⟨d1, q1, h1, _, g1⟩, ⟨d2, q2, h2, _, g2⟩, pr, nr, pt, nt, ef, es, k⟩ := h
    refine ⟨_, (pss_cons (ps_if (pt_cmpR op_eq (pe_fld (pv 0) rfl) pe_int (nomark _)) (pss_one (ps_ret pe_int)) pss_nil)
      (pss_one (ps_ret (pe_op op_mod (pe_op op_sub (pe_fld (pv 0) rfl) (pe_fld (pv 1) rfl)) (pe_fld (pv 0) rfl))))), ?_⟩
    refine ⟨_, rfl, p, C, d1, _, _, rfl, h1, L.cl, L.np, lf_period _ _ _, rfl, _, rfl, ?_⟩
    by_cases h0 : Bn.period r = 0
    · refine iteP (decide_eq_true (by rw [h0]; rfl)) ?_
      have hl : (Bn.form r).length ≤ 1 := by
        rcases (period_form r).mp h0 with h | h
        · exact h
        · obtain ⟨_, pf, nf⟩ := Lt.form_go pr nr
          have := Lt.total_pos pf nf
          omega
      rw [Lt.shiftOf_still ef hl] at es
      cases es
      exact k
    · refine iteQ (decide_eq_false (fun e => h0 (by injection e with e; omega))) ?_
      have h2f : 2 ≤ (Bn.form r).length := by
        rcases Nat.lt_or_ge (Bn.form r).length 2 with h | h
        · exact absurd ((period_form r).mpr (.inl (by omega))) h0
        · exact h
      have ep : Bn.period t = Bn.period r := by
        unfold Bn.period
        rw [ef]
      obtain ⟨a, rfl, ga⟩ := g1 h0
      obtain ⟨a2, rfl, gb⟩ := g2 (by rw [ep]; exact h0)
      rw [Lt.shiftOf_go pr nr pt nt ef h2f ga gb] at es
      cases es
      refine ⟨_, rfl, p, C, d1, _, _, rfl, h1, L.cl, L.nb, lf_begins _ _ _, _, rfl, q, C, d2, _, _, rfl, h2, L.cl, L.nb, lf_begins _ _ _, _, _, rfl, rfl, _, rfl, p, C, d1, _, _, rfl, h1, L.cl, L.np, lf_period _ _ _, _, _, rfl, rfl, (by omega), ?_⟩
      have hp : 0 < Bn.period r := Nat.pos_of_ne_zero h0
      have x1 := Nat.mod_lt a hp
      have x2 := Nat.mod_lt a2 hp
      have em0 : ∀ (x y p : Nat), y < p → ((x : Int) - (y : Int)) % (p : Int) = (((x + p - y) % p : Nat) : Int) := by
        intro x y p h
        rw [Int.natCast_emod, Int.natCast_sub (by omega), Int.natCast_add, show (x : Int) + (p : Int) - (y : Int) = ((x : Int) - (y : Int)) + (p : Int) by omega, Int.add_emod_right]
      have em : (((a % Bn.period r : Nat) : Int) - ((a2 % Bn.period t : Nat) : Int)) % ((Bn.period r : Nat) : Int) = (((a % Bn.period r + Bn.period r - a2 % Bn.period r) % Bn.period r : Nat) : Int) := by
        rw [ep]
        exact em0 _ _ _ x2
      have k2 := k
      rw [← em] at k2
      exact k2
end
end Py
end
section
set_option Elab.async false
set_option linter.all false
set_option maxRecDepth 100000
set_option maxHeartbeats 4000000
namespace Py
open PySem PySem.Spec PyProof.Rows L2
open Bn (Rhythm Phase)
/-! ### more loops -/
theorem for_enum {K : PySem.W.Frag} {a : Addr} {xs : List V} {g : TG} {tb : TS} {D : Ends} {σ : L2.St} {H : Hp} (Pv : Nat → L2.St → Hp → Prop) (h0 : Pv 0 σ H) (hl : ∀ i σ H, i ≤ xs.length → Pv i σ H → SqL K H a xs)
    (hs : ∀ (i : Nat) x σ H t, xs[i]? = some x → Pv i σ H → H t = none → g (.ref t) σ (upd H t (.tup [.int ((i : Nat) : Int), x])) fun σ2 H2 => tb { D with nx := Pv (i + 1), ct := Pv (i + 1), bk := D.nx } σ2 H2) (hd : ∀ σ H, Pv xs.length σ H → D.nx σ H) :
    ∃ W : Nat → Nat → L2.St → Hp → Prop, (∃ m, W 0 m σ H) ∧ ∀ i m σ H, W i m σ H →
      ((Ite K a).stop i H ∧ D.nx σ H) ∨ ((Ite K a).go i H ∧ ∃ N : L2.St → Hp → Prop, (∀ σ' H', N σ' H' → ∃ m', m' < m ∧ W (i + 1) m' σ' H') ∧ ∀ x H', (Ite K a).yld i H x H' → g x σ H' fun σ2 H2 => tb { D with nx := N, ct := N, bk := D.nx } σ2 H2) := by
  refine ⟨fun i m σ H => m = xs.length - i ∧ i ≤ xs.length ∧ Pv i σ H, ⟨xs.length, by simp, Nat.zero_le _, h0⟩, ?_⟩
  rintro i m σ H ⟨rfl, hi, p⟩
  have q := hl i σ H hi p
  by_cases lt : i < xs.length
  · refine .inr ⟨⟨xs, xs[i], q, by simp [lt]⟩, Pv (i + 1), fun σ' H' p' => ⟨xs.length - (i + 1), by omega, rfl, lt, p'⟩, fun x H' y => ?_⟩
    obtain ⟨t, x, rfl, ht, rfl, y⟩ := y
    exact hs i x σ H t (y xs q) p ht
  · have e : i = xs.length := by omega
    subst e
    exact .inl ⟨⟨xs, q, Nat.le_refl _⟩, hd σ H p⟩
theorem lc_enum {K : PySem.W.Frag} {a : Addr} {xs : List V} {g : TG} {tt : TT} {te : TE} {vs : List Nat} {σ : L2.St} {H1 : Hp} {D : Addr} {Qd : Hp → Prop} (Pv : Nat → Hp → Prop) (h0 : Pv 0 (upd H1 D (.lst []))) (hl : ∀ i H, i ≤ xs.length → Pv i H → SqL K H a xs)
    (hs : ∀ (i : Nat) x H t, xs[i]? = some x → Pv i H → H t = none → g (.ref t) (wipe σ vs) (upd H t (.tup [.int ((i : Nat) : Int), x])) fun σ2 H2 => wipe σ2 vs = wipe σ vs ∧ tt σ2 H2 fun b H3 =>
      if b = true then te σ2 H3 fun y H4 => ∃ acc, H4 D = some (.lst acc) ∧ acc.length < sizeLine ∧ Pv (i + 1) (upd H4 D (.lst (acc ++ [y]))) else Pv (i + 1) H3) (hd : ∀ H, Pv xs.length H → Qd H) :
    ∃ W : Nat → Nat → Hp → Prop, (∃ m, W 0 m (upd H1 D (.lst []))) ∧ ∀ i m H, W i m H →
      ((Ite K a).stop i H ∧ Qd H) ∨ ((Ite K a).go i H ∧ ∃ Nx : Hp → Prop, (∀ H', Nx H' → ∃ m', m' < m ∧ W (i + 1) m' H') ∧ ∀ x H', (Ite K a).yld i H x H' → g x (wipe σ vs) H' fun σ2 H2 => wipe σ2 vs = wipe σ vs ∧ tt σ2 H2 fun b H3 =>
        if b = true then te σ2 H3 fun y H4 => ∃ acc, H4 D = some (.lst acc) ∧ acc.length < sizeLine ∧ Nx (upd H4 D (.lst (acc ++ [y]))) else Nx H3) := by
  refine ⟨fun i m H => m = xs.length - i ∧ i ≤ xs.length ∧ Pv i H, ⟨xs.length, by simp, Nat.zero_le _, h0⟩, ?_⟩
  rintro i m H ⟨rfl, hi, p⟩
  have q := hl i H hi p
  by_cases lt : i < xs.length
  · refine .inr ⟨⟨xs, xs[i], q, by simp [lt]⟩, Pv (i + 1), fun H' p' => ⟨xs.length - (i + 1), by omega, rfl, lt, p'⟩, fun x H' y => ?_⟩
    obtain ⟨t, x, rfl, ht, rfl, y⟩ := y
    exact hs i x H t (y xs q) p ht
  · have e : i = xs.length := by omega
    subst e
    exact .inl ⟨⟨xs, q, Nat.le_refl _⟩, hd H p⟩
theorem lc_str {x : Str} {g : TG} {tt : TT} {te : TE} {vs : List Nat} {σ : L2.St} {H1 : Hp} {D : Addr} {Qd : Hp → Prop} (Pv : Nat → Hp → Prop) (h0 : Pv 0 (upd H1 D (.lst [])))
    (hs : ∀ (i : Nat) c H, x.cps[i]? = some c → Pv i H → g (.str ⟨#[c]⟩) (wipe σ vs) H fun σ2 H2 => wipe σ2 vs = wipe σ vs ∧ tt σ2 H2 fun b H3 =>
      if b = true then te σ2 H3 fun y H4 => ∃ acc, H4 D = some (.lst acc) ∧ acc.length < sizeLine ∧ Pv (i + 1) (upd H4 D (.lst (acc ++ [y]))) else Pv (i + 1) H3) (hd : ∀ H, Pv x.cps.size H → Qd H) :
    ∃ W : Nat → Nat → Hp → Prop, (∃ m, W 0 m (upd H1 D (.lst []))) ∧ ∀ i m H, W i m H →
      ((Its x).stop i H ∧ Qd H) ∨ ((Its x).go i H ∧ ∃ Nx : Hp → Prop, (∀ H', Nx H' → ∃ m', m' < m ∧ W (i + 1) m' H') ∧ ∀ y H', (Its x).yld i H y H' → g y (wipe σ vs) H' fun σ2 H2 => wipe σ2 vs = wipe σ vs ∧ tt σ2 H2 fun b H3 =>
        if b = true then te σ2 H3 fun y H4 => ∃ acc, H4 D = some (.lst acc) ∧ acc.length < sizeLine ∧ Nx (upd H4 D (.lst (acc ++ [y]))) else Nx H3) := by
  refine ⟨fun i m H => m = x.cps.size - i ∧ i ≤ x.cps.size ∧ Pv i H, ⟨x.cps.size, by simp, Nat.zero_le _, h0⟩, ?_⟩
  rintro i m H ⟨rfl, hi, p⟩
  by_cases lt : i < x.cps.size
  · refine .inr ⟨lt, Pv (i + 1), fun H' p' => ⟨x.cps.size - (i + 1), by omega, rfl, lt, p'⟩, fun y H' q => ?_⟩
    obtain ⟨rfl, c, hc, rfl⟩ := q
    exact hs i c _ hc p
  · have e : i = x.cps.size := by omega
    subst e
    exact .inl ⟨Nat.le_refl _, hd H p⟩
theorem SqT_kt {K : PySem.W.Frag} {H : Hp} {a : Addr} {xs : List V} (h : KT K a xs) : SqT K H a xs :=
  let ⟨_, _, _, _, q⟩ := h
  q H
section
variable {P : Program} {w : World} {K : PySem.W.Frag} {mg : Str → Option Value} {base : Heap} {C : Addr}
/-! ### phase_of -/
abbrev s_phase_of : Stmt := top 24
theorem sc_phase_of : FnScope ["word", "length"] ["word"] (defScope s_phase_of) := ⟨rfl, rfl, rfl, by decide +kernel, rfl, by decide +kernel, by decide +kernel⟩
def spPhase (K : PySem.W.Frag) : Sp := fun vs H Q _ => ∃ a wd, vs = [.ref a] ∧ SqL K H a (wd.map V.int) ∧ (Lt.phaseOf wd = none → ∀ H', Same H H' → Q .non H') ∧ ∀ x, Lt.phaseOf wd = some x → ∀ H' t, Same H H' → H' t = some (.tup (phV x)) → Q (.ref t) H'
theorem colIdx_in (c : Int) : inV (.int c) ([45, 87, 82, 71, 89].map V.int) = (Lt.colIdx c).isSome := by
  show ((45 : Int) == c || ((87 : Int) == c || ((82 : Int) == c || ((71 : Int) == c || ((89 : Int) == c || false))))) = _
  unfold Lt.colIdx
  by_cases h1 : c = 45
  · subst h1; rfl
  by_cases h2 : c = 87
  · subst h2; rfl
  by_cases h3 : c = 82
  · subst h3; rfl
  by_cases h4 : c = 71
  · subst h4; rfl
  by_cases h5 : c = 89
  · subst h5; rfl
  rw [if_neg h1, if_neg h2, if_neg h3, if_neg h4, if_neg h5, beq_eq_false_iff_ne.mpr (Ne.symm h1), beq_eq_false_iff_ne.mpr (Ne.symm h2), beq_eq_false_iff_ne.mpr (Ne.symm h3), beq_eq_false_iff_ne.mpr (Ne.symm h4), beq_eq_false_iff_ne.mpr (Ne.symm h5)]
  rfl
theorem colIdx_at {c : Int} {k : Nat} (h : Lt.colIdx c = some k) : ([45, 87, 82, 71, 89] : List Int)[k]? = some c ∧ ∀ m, m < k → ([45, 87, 82, 71, 89] : List Int)[m]? ≠ some c := by
  unfold Lt.colIdx at h
  split at h
  · cases h; subst c; exact ⟨rfl, fun m hm => by omega⟩
  split at h
  · cases h; subst c; exact ⟨rfl, fun m hm => by have e : m = 0 := by omega
                                                 subst e; decide⟩
  split at h
  · cases h; subst c
    refine ⟨rfl, fun m hm => ?_⟩
    rcases m with _ | _ | m
    · decide
    · decide
    · omega
  split at h
  · cases h; subst c
    refine ⟨rfl, fun m hm => ?_⟩
    rcases m with _ | _ | _ | m
    · decide
    · decide
    · decide
    · omega
  split at h
  · cases h; subst c
    refine ⟨rfl, fun m hm => ?_⟩
    rcases m with _ | _ | _ | _ | m
    · decide
    · decide
    · decide
    · decide
    · omega
  · cases h
theorem ok_phase_of {f : Addr} {fd : FuncData} (F : Fun K "phase_of" "phase_of" s_phase_of f fd) (T : Txt K mg) (G_length_of : Has P w K mg base 1 "length_of" ["digits"] (spLen K)) : FnOk P w K mg base CX0 2 f fd ["word"] (spPhase K) := by
  refine F.ok sc_phase_of (fun vs H Q E h => ?_) (fun cdv A outer s H vs Q E hr h => ?_)
  · obtain ⟨a, wd, rfl, _⟩ := h
    rfl
  · obtain ⟨a, wd, rfl, hL, k0, k1⟩ := h
    obtain ⟨aB, mB, hB⟩ := T.g_COLOUR_BYTES
    refine ⟨_, ((pss_cons (ps_if (pw_or (pt_cmpR op_eq (pe_callB call_len_seq (by rfl) T.n_len PySem.boot_len (pa_cons (pv 0) pa_nil)) pe_int (nomark _)) (pw_or1 (pt_cmpR op_notIn_seq (pe_ix ix_list (pv 0) pe_int (fun _ _ => rfl)) (pe_gr (by rfl) mB) (by with_unfolding_all rfl)))).pt (pss_one (ps_ret pe_non)) pss_nil)
      (pss_cons (ps_set (i := 1) sc_phase_of.nd rfl (Or.inl rfl) (pe_has G_length_of (hr.mono (by decide)) (by rfl) (pa_cons (pe_slice sl_list (pv 0) (po_some pe_int) po_none) pa_nil)))
      (pss_cons (ps_if (pt_cmpR op_eq (pv 1) pe_int (nomark _)) (pss_one (ps_ret pe_non)) pss_nil)
      (pss_one (ps_ret (pe_tup (pa_cons (pe_bm PySem.F.plainAttrs_tuple PySem.F.slot_tuple_index PySem.F.type_tuple_index mt_indexT (pe_gr (by rfl) mB) (pa_cons (pe_ix ix_list (pv 0) pe_int (fun _ _ => rfl)) pa_nil)) (pa_cons (pv 1) pa_nil))))))))), ?_⟩
    refine ⟨_, rfl, a, _, rfl, .inl hL, rfl, _, rfl, ?_⟩
    cases wd with
    | nil =>
      refine iteP (decide_eq_true rfl) ?_
      refine iteP rfl ?_
      exact k0 rfl H (Same.refl H)
    | cons c d =>
      refine iteQ (decide_eq_false (fun e => by injection e with e; rw [List.length_map, List.length_cons] at e; omega)) ?_
      refine ⟨_, rfl, a, _, _, _, rfl, rfl, hL, atI_nat (j := 0) rfl, aB, _, rfl, .inr (SqT_kt hB), rfl, flat_ints _, _, rfl, ?_⟩
      have ein : (if true = true then !inV (V.int c) (([45, 87, 82, 71, 89] : List Int).map V.int) else inV (V.int c) (([45, 87, 82, 71, 89] : List Int).map V.int)) = !(Lt.colIdx c).isSome := by
        rw [if_pos rfl, colIdx_in]
      rw [ein]
      cases hc : Lt.colIdx c with
      | none =>
        refine iteP rfl ?_
        refine k0 ?_ H (Same.refl H)
        rw [Lt.phaseOf_cons, hc]
      | some kk =>
        refine iteQ rfl ?_
        refine ⟨_, rfl, _, rfl, a, _, rfl, hL, fun q hq => ?_⟩
        have ec : cutV (((c :: d).map V.int)) (some (1 : Int)) none = d.map V.int := cut_drop _ 1
        rw [ec]
        refine ⟨q, d, rfl, SqL.of upd_same, fun H2 s2 => ?_⟩
        have s1 : Same H (upd H q (.lst (d.map V.int))) := Same.new hq
        refine ⟨_, rfl, rfl, _, rfl, ?_⟩
        by_cases h0 : Lt.lenOf d = 0
        · refine iteP (decide_eq_true (by rw [h0])) ?_
          refine k0 ?_ H2 (s1.trans s2)
          rw [Lt.phaseOf_cons, hc]
          show (if Lt.lenOf d = 0 then none else _) = none
          rw [if_pos h0]
        · refine iteQ (decide_eq_false (fun e => h0 (by injection e))) ?_
          obtain ⟨hk1, hk2⟩ := colIdx_at hc
          obtain ⟨o, ho1, ho2, ho3, _⟩ := id hB
          refine ⟨.inr (.inl ⟨rfl, o, ho1, ho2, ho3⟩), _, rfl, a, _, _, _, rfl, rfl, s2.seq (s1.seq hL), atI_nat (j := 0) rfl, aB, _, c, kk, rfl, rfl, SqT_kt hB, hk1, hk2, _, rfl, (by show 2 ≤ sizeLine; decide), fun t ht => ?_⟩
          have hn := Lt.lenOf_nonneg d
          refine k1 (kk, (Lt.lenOf d).toNat) ?_ _ t ((s1.trans s2).put ((s1.trans s2).free ht)) ?_
          · rw [Lt.phaseOf_cons, hc]
            show (if Lt.lenOf d = 0 then none else _) = _
            rw [if_neg h0]
          · rw [upd_same]
            show _ = some (HO.tup [V.int ((kk : Nat) : Int), V.int (((Lt.lenOf d).toNat : Nat) : Int)])
            rw [Int.toNat_of_nonneg hn]
end
end Py
end
section
set_option Elab.async false
set_option linter.all false
set_option maxRecDepth 100000
set_option maxHeartbeats 4000000
namespace Py
open PySem PySem.Spec PyProof.Rows L2
open Bn (Rhythm Phase)
/-! ### texts as bytes -/
def sb (b : Bn.Bytes) : Str := ⟨(b.map (·.toNat)).toArray⟩
theorem sb_cps (b : Bn.Bytes) : (sb b).cps.toList = b.map (·.toNat) := rfl
theorem sb_length (b : Bn.Bytes) : (sb b).length = b.length := by
  show (b.map (·.toNat)).toArray.size = b.length
  rw [List.size_toArray, List.length_map]
theorem sb_append (a b : Bn.Bytes) : sb a ++ sb b = sb (a ++ b) := by
  show Str.append _ _ = _
  show (⟨(a.map (·.toNat)).toArray ++ (b.map (·.toNat)).toArray⟩ : Str) = ⟨((a ++ b).map (·.toNat)).toArray⟩
  rw [List.map_append]
  simp
theorem sb_inj {a b : Bn.Bytes} (h : sb a = sb b) : a = b := by
  have h1 : a.map (·.toNat) = b.map (·.toNat) := by
    have := congrArg (fun s : Str => s.cps.toList) h
    exact this
  exact (List.map_inj_right (fun x y e => UInt8.toNat_inj.mp e)).mp h1
theorem str_nat (n : Nat) : (Str.ofString (toString ((n : Nat) : Int))) = sb (Bn.decimal n) := by
  rw [Str.ofString_eq_toList]
  show (⟨((toString ((n : Nat) : Int)).toList.map Char.toNat).toArray⟩ : Str) = ⟨((Bn.decimal n).map (·.toNat)).toArray⟩
  have e1 : (toString ((n : Nat) : Int)).toList = Nat.toDigits 10 n := by
    show (Nat.repr n).toList = _
    unfold Nat.repr
    simp
  have e2 := Lt.decimal_digits n
  unfold Lt.bytesI at e2
  have e3 : (Nat.toDigits 10 n).map Char.toNat = (Bn.decimal n).map (·.toNat) := by
    have := congrArg (List.map Int.toNat) e2
    rw [List.map_map, List.map_map] at this
    simpa [Function.comp_def] using this.symm
  rw [e1, e3]
theorem log_small {n : Nat} (h : n < 10000000) : (((n : Nat) : Int)).natAbs.log2 < 1920 := by
  rw [Int.natAbs_natCast]
  by_cases h0 : n = 0
  · rw [h0]; decide
  · rw [Nat.log2_lt h0]
    exact Nat.lt_of_lt_of_le (Nat.lt_trans h (show 10000000 < 2 ^ 24 by decide)) (Nat.pow_le_pow_right (by decide) (by decide))
section
variable {P : Program} {w : World} {K : PySem.W.Frag} {mg : Str → Option Value} {base : Heap} {C : Addr}
/-! ### fault_of -/
abbrev s_fault_of : Stmt := top 25
theorem sc_fault_of : FnScope ["text", "together", "number", "word", "phase"] ["text"] (defScope s_fault_of) := ⟨rfl, rfl, rfl, by decide +kernel, rfl, by decide +kernel, by decide +kernel⟩
def optV : Option Nat → V
  | none => .non
  | some k => .int ((k : Nat) : Int)
def spFault (K : PySem.W.Frag) : Sp := fun vs H Q _ => ∃ a t, vs = [.ref a] ∧ SqL K H a (t.map V.int) ∧ t.length ≤ 100000 ∧ ∀ H', Same H H' → Q (optV (Lt.faultI t)) H'
theorem ok_fault_of {f : Addr} {fd : FuncData} (F : Fun K "fault_of" "fault_of" s_fault_of f fd) (T : Txt K mg) (G_words_of : Has P w K mg base 1 "words_of" ["text"] (spWords K)) (G_phase_of : Has P w K mg base 2 "phase_of" ["word"] (spPhase K)) : FnOk P w K mg base CX0 3 f fd ["text"] (spFault K) := by
  refine F.ok sc_fault_of (fun vs H Q E h => ?_) (fun cdv A outer s H vs Q E hr h => ?_)
  · obtain ⟨a, wd, rfl, _⟩ := h
    rfl
  · obtain ⟨a, t, rfl, hL, hlen, k⟩ := h
    refine ⟨_, ((pss_cons (ps_set (i := 1) sc_fault_of.nd rfl (Or.inl rfl) pe_int)
      (pss_cons (ps_for PassesOwn.never rfl (pi_enum rfl T.n_enumerate (pa_cons (pe_has G_words_of (hr.mono (by decide)) (by rfl) (pa_cons (pv 0) pa_nil)) pa_nil)) (pg_tup rfl (pgs_cons (pg_name (i := 2) sc_fault_of.nd rfl (Or.inl rfl)) (pgs_cons (pg_name (i := 3) sc_fault_of.nd rfl (Or.inl rfl)) pgs_nil)))
      (pss_cons (ps_set (i := 4) sc_fault_of.nd rfl (Or.inl rfl) (pe_has G_phase_of (hr.mono (by decide)) (by rfl) (pa_cons (pv 3) pa_nil)))
      (pss_cons (ps_if (pw_or (pt_cmp (pc_isN (pv 4))) (pw_or1 (pt_cmpR op_eq (pv 2) (pe_gi (by rfl) T.g_MOST_PHASES) (nomark _)))).pt (pss_one (ps_ret (pv 2))) pss_nil)
      (pss_cons (ps_aug (i := 1) sc_fault_of.nd rfl (Or.inl rfl) (pe_ix ix_tup (pv 4) pe_int (fun _ _ => rfl)) ip_add)
      (pss_one (ps_if (pt_cmpR op_gt (pv 1) (pe_gi (by rfl) T.g_LONGEST_RHYTHM) (nomark _)) (pss_one (ps_ret (pv 2))) pss_nil))))))
      (pss_one (ps_ret pe_non))))), ?_⟩
    refine ⟨_, rfl, a, t, rfl, hL, hlen, fun H1 p as s1 hp1 hW => ⟨p, _, rfl, SqL.of hp1, ?_⟩⟩
    have hwl : as.length = (Lt.splitI t).length := hW.length
    have k' : ∀ H', Same H1 H' → ∀ o, Lt.faultI t = o → Q (optV o) H' := fun H' s2 o e => by rw [← e]; exact k H' (s1.trans s2)
    unfold Lt.faultI at k'
    generalize Lt.splitI t = ws at hW k' hwl
    refine for_enum (K := K) (a := p) (xs := as.map V.ref) (fun i σ H' => ∃ (v2 v3 v4 : Option V) (sum : Nat), σ = [some (.ref a), some (.int ((sum : Nat) : Int)), v2, v3, v4] ∧ Same H1 H' ∧ Lt.faultFrom 0 0 ws = Lt.faultFrom i sum (ws.drop i) ∧ sum ≤ 6000)
      ⟨none, none, none, 0, rfl, Same.refl H1, rfl, by omega⟩ (fun i σ H' _ ⟨_, _, _, _, _, s2, _⟩ => SqL.of (s2 _ _ hp1)) ?_ ?_
    · rintro i x σ H' tt hx ⟨v2, v3, v4, sum, rfl, s2, ef, hs⟩ ht
      rw [List.getElem?_map] at hx
      obtain ⟨b, hb, rfl⟩ := Option.map_eq_some_iff.mp hx
      obtain ⟨wd, hwd, hbw⟩ := pr_get hW hb
      obtain ⟨hi, ew⟩ := List.getElem?_eq_some_iff.mp hwd
      rw [List.drop_eq_getElem_cons hi, ew, Lt.faultFrom_cons] at ef
      have s3 : Same H1 (upd H' tt (.tup [.int ((i : Nat) : Int), .ref b])) := s2.put (s2.free ht)
      refine ⟨tt, _, rfl, SqT.of upd_same, rfl, _, _, rfl, _, _, rfl, rfl, ?_⟩
      refine ⟨_, rfl, b, wd, rfl, SqL.of (s3 _ _ hbw), fun hn H2 s4 => ?_, fun x hx2 H2 t2 s4 ht2 => ?_⟩
      · rw [hn] at ef
        refine ⟨_, rfl, _, rfl, iteP (decide_eq_true rfl) (iteP rfl ?_)⟩
        exact ⟨_, rfl, k' H2 (s3.trans s4) _ ef⟩
      · rw [hx2] at ef
        refine ⟨_, rfl, _, rfl, iteQ (decide_eq_false (by intro q; cases q)) ?_⟩
        refine ⟨_, rfl, rfl, _, rfl, ?_⟩
        by_cases h32 : i = 32
        · refine iteP (decide_eq_true (by rw [h32]; rfl)) ?_
          change _ = (if i = 32 ∨ 6000 < sum + x.2 then some i else _) at ef
          rw [if_pos (.inl h32)] at ef
          exact ⟨_, rfl, k' H2 (s3.trans s4) _ ef⟩
        · refine iteQ (decide_eq_false (fun q => h32 (by injection q with q; omega))) ?_
          refine ⟨_, rfl, _, rfl, t2, _, _, _, rfl, rfl, SqT.of ht2, atI_nat (j := 1) rfl, _, _, rfl, rfl, ?_⟩
          refine ⟨_, rfl, _, _, rfl, rfl, _, rfl, ?_⟩
          change _ = (if i = 32 ∨ 6000 < sum + x.2 then some i else _) at ef
          by_cases h6 : 6000 < sum + x.2
          · refine iteP (decide_eq_true (by show (6000 : Int) < ((sum : Nat) : Int) + ((x.2 : Nat) : Int); omega)) ?_
            rw [if_pos (.inr h6)] at ef
            exact ⟨_, rfl, k' H2 (s3.trans s4) _ ef⟩
          · refine iteQ (decide_eq_false (by show ¬ ((6000 : Int) < ((sum : Nat) : Int) + ((x.2 : Nat) : Int)); omega)) ?_
            rw [if_neg (by omega)] at ef
            refine ⟨some (.int ((i : Nat) : Int)), some (.ref b), some (.ref t2), sum + x.2, ?_, s3.trans s4, ef, by omega⟩
            rw [Int.natCast_add]
            rfl
    · rintro σ H' ⟨v2, v3, v4, sum, rfl, s2, ef, hs⟩
      rw [List.length_map, hwl, List.drop_length] at ef
      exact k' H' s2 _ ef
/-! ### refusal_of -/
abbrev s_refusal_of : Stmt := top 26
theorem sc_refusal_of : FnScope ["text", "fault"] ["text"] (defScope s_refusal_of) := ⟨rfl, rfl, rfl, by decide +kernel, rfl, by decide +kernel, by decide +kernel⟩
def refI (t : List Int) : List Int := if 1024 < t.length then [-2] else match Lt.faultI t with
  | none => []
  | some k => [-6, ((k : Nat) : Int)]
def spRefusal (K : PySem.W.Frag) : Sp := fun vs H Q _ => ∃ a t, vs = [.ref a] ∧ SqL K H a (t.map V.int) ∧ t.length ≤ 100000 ∧ ∀ H' p, Same H H' → H p = none → H' p = some (.lst ((refI t).map V.int)) → Q (.ref p) H'
theorem ok_refusal_of {f : Addr} {fd : FuncData} (F : Fun K "refusal_of" "refusal_of" s_refusal_of f fd) (T : Txt K mg) (G_fault_of : Has P w K mg base 3 "fault_of" ["text"] (spFault K)) : FnOk P w K mg base CX0 4 f fd ["text"] (spRefusal K) := by
  refine F.ok sc_refusal_of (fun vs H Q E h => ?_) (fun cdv A outer s H vs Q E hr h => ?_)
  · obtain ⟨a, wd, rfl, _⟩ := h
    rfl
  · obtain ⟨a, t, rfl, hL, hlen, k⟩ := h
    refine ⟨_, ((pss_cons (ps_if (pt_cmpR op_gt (pe_callB call_len_seq (by rfl) T.n_len PySem.boot_len (pa_cons (pv 0) pa_nil)) (pe_gi (by rfl) T.g_MOST_BYTES) (nomark _)) (pss_one (ps_ret (pe_lst (pa_cons (pe_gi (by rfl) T.g_TOO_MANY_BYTES) pa_nil)))) pss_nil)
      (pss_cons (ps_set (i := 1) sc_refusal_of.nd rfl (Or.inl rfl) (pe_has G_fault_of (hr.mono (by decide)) (by rfl) (pa_cons (pv 0) pa_nil)))
      (pss_cons (ps_if (pt_cmp (pc_isN (pv 1))) (pss_one (ps_ret (pe_lst pa_nil))) pss_nil)
      (pss_one (ps_ret (pe_lst (pa_cons (pe_gi (by rfl) T.g_AT_FAULT) (pa_cons (pv 1) pa_nil))))))))), ?_⟩
    refine ⟨_, rfl, a, _, rfl, .inl hL, _, _, rfl, rfl, _, rfl, ?_⟩
    by_cases hm : 1024 < t.length
    · refine iteP (decide_eq_true (by rw [List.length_map]; omega)) ?_
      refine ⟨(by show 1 ≤ sizeLine; decide), fun l hl => ?_⟩
      refine k _ l (Same.new hl) hl ?_
      unfold refI
      rw [upd_same, if_pos hm]
      rfl
    · refine iteQ (decide_eq_false (by rw [List.length_map]; omega)) ?_
      refine ⟨_, rfl, a, t, rfl, hL, hlen, fun H1 s1 => ?_⟩
      refine ⟨_, rfl, _, rfl, ?_⟩
      cases hf : Lt.faultI t with
      | none =>
        refine iteP (decide_eq_true rfl) ?_
        refine ⟨(by show 0 ≤ sizeLine; decide), fun l hl => ?_⟩
        refine k _ l (s1.put (s1.free hl)) (s1.free hl) ?_
        unfold refI
        rw [upd_same, if_neg hm, hf]
        rfl
      | some n =>
        refine iteQ (decide_eq_false (by intro q; cases q)) ?_
        refine ⟨_, rfl, (by show 2 ≤ sizeLine; decide), fun l hl => ?_⟩
        refine k _ l (s1.put (s1.free hl)) (s1.free hl) ?_
        unfold refI
        rw [upd_same, if_neg hm, hf]
        rfl
/-! ### phases_of -/
abbrev s_phases_of : Stmt := top 27
theorem sc_phases_of : FnScope ["text", "word"] ["text"] (defScope s_phases_of) := ⟨rfl, rfl, rfl, by decide +kernel, rfl, by decide +kernel, by decide +kernel⟩
def spPhases (K : PySem.W.Frag) : Sp := fun vs H Q _ => ∃ a t, vs = [.ref a] ∧ SqL K H a (t.map V.int) ∧ t.length ≤ 100000 ∧ Lt.faultI t = none ∧ ∀ H' p us, Same H H' → H p = none → H' p = some (.lst us) → RhyV K H' us (Lt.rhyI t) → Q (.ref p) H'
theorem splitI_len : ∀ t : List Int, (Lt.splitI t).length ≤ t.length + 1
  | [] => by decide
  | x :: t => by
    have ih := splitI_len t
    cases e : Lt.splitI t with
    | nil => exact absurd e (Lt.splitI_ne t)
    | cons wd l =>
      rw [Lt.splitI_cons x t wd l e]
      rw [e] at ih
      rw [List.length_cons] at ih ⊢
      split
      · rw [List.length_cons, List.length_cons]
        omega
      · rw [List.length_cons]
        omega
theorem ok_phases_of {f : Addr} {fd : FuncData} (F : Fun K "phases_of" "phases_of" s_phases_of f fd) (T : Txt K mg) (G_words_of : Has P w K mg base 1 "words_of" ["text"] (spWords K)) (G_phase_of : Has P w K mg base 2 "phase_of" ["word"] (spPhase K)) : FnOk P w K mg base CX0 3 f fd ["text"] (spPhases K) := by
  refine F.ok sc_phases_of (fun vs H Q E h => ?_) (fun cdv A outer s H vs Q E hr h => ?_)
  · obtain ⟨a, wd, rfl, _⟩ := h
    rfl
  · obtain ⟨a, t, rfl, hL, hlen, hft, k⟩ := h
    refine ⟨_, ((pss_one (ps_ret (pe_lc rfl sc_phases_of.nd (pi_list (pe_has G_words_of (hr.mono (by decide)) (by rfl) (pa_cons (pv 0) pa_nil))) (blkOk_by (own := [("word", 1)]) (by kernel_rfl)) (fun _ _ _ _ _ => (pg_name (i := 1) sc_phases_of.nd rfl (Or.inl rfl))) (fun _ _ _ _ _ => pts_nil) (fun _ _ _ _ _ => (pe_has G_phase_of (hr.mono (by decide)) (by rfl) (pa_cons (pv 1) pa_nil))))))), ?_⟩
    refine ⟨_, rfl, a, t, rfl, hL, hlen, fun H1 p as s1 hp1 hW => ⟨p, rfl, ⟨_, SqL.of hp1⟩, fun D hD => ?_⟩⟩
    have hwl : as.length = (Lt.splitI t).length := hW.length
    have hsl := splitI_len t
    have hall := Lt.faultFrom_all (k := 0) (sum := 0) hft
    refine lc_list (K := K) (a := p) (xs := as.map V.ref) (fun i H' => Same H1 H' ∧ ∃ us, H' D = some (.lst us) ∧ us.length = i ∧ RhyV K H' us (((Lt.splitI t).take i).filterMap Lt.phaseOf)) ⟨Same.new hD, [], upd_same, rfl, .nil⟩ (fun i H' _ h => SqL.of (h.1 _ _ hp1)) ?_ ?_
    · rintro i x H' hx ⟨s2, us, hd, hul, hV⟩
      rw [List.getElem?_map] at hx
      obtain ⟨b, hb, rfl⟩ := Option.map_eq_some_iff.mp hx
      obtain ⟨wd, hwd, hbw⟩ := pr_get hW hb
      obtain ⟨hi, ew⟩ := List.getElem?_eq_some_iff.mp hwd
      obtain ⟨x, hx⟩ := hall wd (List.mem_of_getElem? hwd)
      refine ⟨rfl, ?_⟩
      refine ⟨_, rfl, b, wd, rfl, SqL.of (s2 _ _ hbw), (fun hn => by rw [hn] at hx; cases hx), fun y hy H2 t2 s3 ht2 => ?_⟩
      rw [hx] at hy
      cases hy
      refine ⟨us, s3 _ _ hd, small (by omega), (s2.trans s3).put hD, us ++ [.ref t2], upd_same, by rw [List.length_append]; show us.length + 1 = i + 1; omega, ?_⟩
      rw [take_snoc hwd, List.filterMap_append]
      have e2 : [wd].filterMap Lt.phaseOf = [x] := by rw [List.filterMap_cons, hx]; rfl
      rw [e2]
      refine pr_append (RhyV_lst (RhyV.same hV s3) (s3 _ _ hd)) (.cons ⟨t2, rfl, SqT_lst (SqT.of ht2) (s3 _ _ hd)⟩ .nil)
    · rintro H' ⟨s2, us, hd, hul, hV⟩
      rw [List.length_map, hwl, List.take_length] at hV
      exact k H' D us (s1.trans s2) (s1.free hD) hd hV
/-! ### text_of -/
abbrev s_text_of : Stmt := top 28
theorem sc_text_of : FnScope ["phases", "text", "colour", "length", "digit"] ["phases"] (defScope s_text_of) := ⟨rfl, rfl, rfl, by decide +kernel, rfl, by decide +kernel, by decide +kernel⟩
def spText (K : PySem.W.Frag) : Sp := fun vs H Q _ => ∃ a r, vs = [.ref a] ∧ RhyL K H a r ∧ r.length ≤ 10000 ∧ (∀ x ∈ r, x.1 ≤ 4 ∧ x.2 < 10000000) ∧ ∀ H' p, Same H H' → H' p = some (.lst ((Lt.textI r).map V.int)) → Q (.ref p) H'
theorem sign_at {c : Nat} (h : c ≤ 4) : (([45, 87, 82, 71, 89] : List Int).map V.int)[c]? = some (V.int (Lt.signI c)) := by
  match c, h with
  | 0, _ => rfl
  | 1, _ => rfl
  | 2, _ => rfl
  | 3, _ => rfl
  | 4, _ => rfl
theorem dig_cps (n : Nat) : (Str.ofString (toString ((n : Nat) : Int))).cps.toList.map (fun c => ((c : Nat) : Int)) = Lt.digI n := by
  rw [str_nat, sb_cps, List.map_map]
  show Lt.bytesI (Bn.decimal n) = _
  rw [Lt.decimal_digits]
  rfl
theorem ok_text_of {f : Addr} {fd : FuncData} (F : Fun K "text_of" "text_of" s_text_of f fd) (T : Txt K mg) : FnOk P w K mg base CX0 1 f fd ["phases"] (spText K) := by
  refine F.ok sc_text_of (fun vs H Q E h => ?_) (fun cdv A outer s H vs Q E hr h => ?_)
  · obtain ⟨a, wd, rfl, _⟩ := h
    rfl
  · obtain ⟨a, r, rfl, ⟨us, hL, hV⟩, hlen, hsm, k⟩ := h
    obtain ⟨aB, mB, hB⟩ := T.g_COLOUR_BYTES
    refine ⟨_, ((pss_cons (ps_set (i := 1) sc_text_of.nd rfl (Or.inl rfl) (pe_lst pa_nil))
      (pss_cons (ps_for PassesOwn.never rfl (pi_list (pv 0)) (pg_tup rfl (pgs_cons (pg_name (i := 2) sc_text_of.nd rfl (Or.inl rfl)) (pgs_cons (pg_name (i := 3) sc_text_of.nd rfl (Or.inl rfl)) pgs_nil)))
      (pss_cons (ps_if (pt_cmpR op_gt (pe_callB call_len_seq (by rfl) T.n_len PySem.boot_len (pa_cons (pv 1) pa_nil)) pe_int (nomark _)) (pss_one (ps_expr (pe_bm PySem.F.plainAttrs_list PySem.F.slot_list_append PySem.F.type_list_append mt_append (pv 1) (pa_cons (pe_gi (by rfl) T.g_BLANK) pa_nil)))) pss_nil)
      (pss_cons (ps_expr (pe_bm PySem.F.plainAttrs_list PySem.F.slot_list_append PySem.F.type_list_append mt_append (pv 1) (pa_cons (pe_ix ix_tup (pe_gr (by rfl) mB) (pv 2) (fun _ _ => rfl)) pa_nil)))
      (pss_one (ps_expr (pe_bm PySem.F.plainAttrs_list PySem.F.slot_list_extend PySem.F.type_list_extend mt_extend (pv 1) (pa_cons (pe_lc rfl sc_text_of.nd (pi_str (pe_callTy call_str_int (by rfl) T.n_str PyProof.Rows.boot_str (pa_cons (pv 3) pa_nil))) (blkOk_by (own := [("digit", 4)]) (by kernel_rfl)) (fun _ _ _ _ _ => (pg_name (i := 4) sc_text_of.nd rfl (Or.inl rfl))) (fun _ _ _ _ _ => pts_nil) (fun _ _ _ _ _ => (pe_callB call_ord (by rfl) T.n_ord boot_ord (pa_cons (pv 4) pa_nil)))) pa_nil)))))))
      (pss_one (ps_ret (pv 1)))))), ?_⟩
    have hul : us.length = r.length := hV.length
    refine ⟨Nat.zero_le _, fun p hp0 => ?_⟩
    refine ⟨_, rfl, a, rfl, ⟨_, (Same.new hp0).seq hL⟩, for_list (K := K) (a := a) (xs := us) (fun i σ H' => ∃ (v2 v3 v4 : Option V), σ = [some (.ref a), some (.ref p), v2, v3, v4] ∧ Same H H' ∧ H' p = some (.lst ((Lt.textI (r.take i)).map V.int)))
      ⟨none, none, none, rfl, Same.new hp0, upd_same⟩ (fun i σ H' _ ⟨_, _, _, _, s1, _⟩ => s1.seq hL) ?_ ?_⟩
    · rintro i x σ H' hx ⟨v2, v3, v4, rfl, s1, hp⟩
      obtain ⟨y, hy, ⟨b, rfl, hb⟩⟩ := pr_get hV hx
      obtain ⟨hi, _⟩ := List.getElem?_eq_some_iff.mp hy
      obtain ⟨hy4, hyn⟩ := hsm y (List.mem_of_getElem? hy)
      have htl := Lt.textI_len (r.take i) (fun z hz => (hsm z (List.mem_of_mem_take hz)).2)
      rw [List.length_take] at htl
      have hdl := Lt.digI_len y.2 hyn
      have et := Lt.textI_snoc (r.take i) y
      refine ⟨b, _, rfl, s1.tup hb, rfl, _, _, rfl, _, _, rfl, rfl, ?_⟩
      refine ⟨_, rfl, p, _, rfl, .inl (SqL.of hp), _, _, rfl, rfl, _, rfl, ?_⟩
      by_cases h0 : 0 < (Lt.textI (r.take i)).length
      · refine iteP (decide_eq_true (by rw [List.length_map]; omega)) ?_
        refine ⟨_, rfl, .inl ⟨rfl, _, SqL.of hp⟩, p, _, _, rfl, rfl, hp, small (by rw [List.length_map]; omega), ?_⟩
        have hp2 : (upd H' p (.lst ((Lt.textI (r.take i)).map V.int ++ [V.int 32]))) p = some (.lst ((Lt.textI (r.take i)).map V.int ++ [V.int 32])) := upd_same
        have s2 : Same H (upd H' p (.lst ((Lt.textI (r.take i)).map V.int ++ [V.int 32]))) := s1.put hp0
        generalize (upd H' p (.lst ((Lt.textI (r.take i)).map V.int ++ [V.int 32]))) = H2 at hp2 s2
        refine ⟨_, rfl, .inl ⟨rfl, _, SqL.of hp2⟩, _, rfl, aB, _, _, _, rfl, rfl, SqT_kt hB, atI_nat (sign_at hy4), p, _, _, rfl, rfl, hp2, small (by rw [List.length_append, List.length_map]; show _ + 1 ≤ _; omega), ?_⟩
        have hp3 : (upd H2 p (.lst (((Lt.textI (r.take i)).map V.int ++ [V.int 32]) ++ [V.int (Lt.signI y.1)]))) p = some (.lst (((Lt.textI (r.take i)).map V.int ++ [V.int 32]) ++ [V.int (Lt.signI y.1)])) := upd_same
        have s3 : Same H (upd H2 p (.lst (((Lt.textI (r.take i)).map V.int ++ [V.int 32]) ++ [V.int (Lt.signI y.1)]))) := (s2).put hp0
        generalize (upd H2 p (.lst (((Lt.textI (r.take i)).map V.int ++ [V.int 32]) ++ [V.int (Lt.signI y.1)]))) = H3 at hp3 s3
        refine ⟨_, rfl, .inl ⟨rfl, _, SqL.of hp3⟩, _, rfl, _, rfl, log_small hyn, _, rfl, fun D hD => ?_⟩
        refine lc_str (fun j H' => Same H3 H' ∧ H' D = some (.lst (((Str.ofString (toString ((y.2 : Nat) : Int))).cps.toList.take j).map fun c => V.int ((c : Nat) : Int)))) ⟨Same.new hD, upd_same⟩ ?_ ?_
        · rintro j c H4 hc ⟨s4, hd4⟩
          have hc' : (Str.ofString (toString ((y.2 : Nat) : Int))).cps.toList[j]? = some c := by rw [Array.getElem?_toList]; exact hc
          have hjl := (List.getElem?_eq_some_iff.mp hc').1
          refine ⟨rfl, _, rfl, _, rfl, rfl, _, hd4, ?_, s4.put hD, ?_⟩
          · rw [List.length_map, List.length_take]
            have : (Str.ofString (toString ((y.2 : Nat) : Int))).cps.toList.length = (Lt.digI y.2).length := by rw [← dig_cps, List.length_map]
            exact small (by omega)
          · rw [upd_same, take_snoc hc', List.map_append]
            rfl
        · rintro H4 ⟨s4, hd4⟩
          have ed : (((Str.ofString (toString ((y.2 : Nat) : Int))).cps.toList.take (Str.ofString (toString ((y.2 : Nat) : Int))).cps.size).map fun c => V.int ((c : Nat) : Int)) = (Lt.digI y.2).map V.int := by
            rw [← dig_cps, List.map_map, List.take_of_length_le (by simp)]
            rfl
          rw [ed] at hd4
          refine ⟨p, D, _, _, rfl, rfl, s4 _ _ hp3, hd4, ?_, ?_⟩
          · simp only [List.length_append, List.length_map, List.length_cons, List.length_nil]
            exact Nat.le_of_lt (small (by omega))
          · refine ⟨_, _, _, rfl, (s3.trans s4).put hp0, ?_⟩
            rw [upd_same, take_snoc hy, et, if_pos h0]
            simp [List.map_append]
      · refine iteQ (decide_eq_false (by rw [List.length_map]; omega)) ?_
        refine ⟨_, rfl, .inl ⟨rfl, _, SqL.of hp⟩, _, rfl, aB, _, _, _, rfl, rfl, SqT_kt hB, atI_nat (sign_at hy4), p, _, _, rfl, rfl, hp, small (by rw [List.length_map]; omega), ?_⟩
        have hp3 : (upd H' p (.lst ((Lt.textI (r.take i)).map V.int ++ [V.int (Lt.signI y.1)]))) p = some (.lst ((Lt.textI (r.take i)).map V.int ++ [V.int (Lt.signI y.1)])) := upd_same
        have s3 : Same H (upd H' p (.lst ((Lt.textI (r.take i)).map V.int ++ [V.int (Lt.signI y.1)]))) := (s1).put hp0
        generalize (upd H' p (.lst ((Lt.textI (r.take i)).map V.int ++ [V.int (Lt.signI y.1)]))) = H3 at hp3 s3
        refine ⟨_, rfl, .inl ⟨rfl, _, SqL.of hp3⟩, _, rfl, _, rfl, log_small hyn, _, rfl, fun D hD => ?_⟩
        refine lc_str (fun j H' => Same H3 H' ∧ H' D = some (.lst (((Str.ofString (toString ((y.2 : Nat) : Int))).cps.toList.take j).map fun c => V.int ((c : Nat) : Int)))) ⟨Same.new hD, upd_same⟩ ?_ ?_
        · rintro j c H4 hc ⟨s4, hd4⟩
          have hc' : (Str.ofString (toString ((y.2 : Nat) : Int))).cps.toList[j]? = some c := by rw [Array.getElem?_toList]; exact hc
          have hjl := (List.getElem?_eq_some_iff.mp hc').1
          refine ⟨rfl, _, rfl, _, rfl, rfl, _, hd4, ?_, s4.put hD, ?_⟩
          · rw [List.length_map, List.length_take]
            have : (Str.ofString (toString ((y.2 : Nat) : Int))).cps.toList.length = (Lt.digI y.2).length := by rw [← dig_cps, List.length_map]
            exact small (by omega)
          · rw [upd_same, take_snoc hc', List.map_append]
            rfl
        · rintro H4 ⟨s4, hd4⟩
          have ed : (((Str.ofString (toString ((y.2 : Nat) : Int))).cps.toList.take (Str.ofString (toString ((y.2 : Nat) : Int))).cps.size).map fun c => V.int ((c : Nat) : Int)) = (Lt.digI y.2).map V.int := by
            rw [← dig_cps, List.map_map, List.take_of_length_le (by simp)]
            rfl
          rw [ed] at hd4
          refine ⟨p, D, _, _, rfl, rfl, s4 _ _ hp3, hd4, ?_, ?_⟩
          · simp only [List.length_append, List.length_map, List.length_cons, List.length_nil]
            exact Nat.le_of_lt (small (by omega))
          · refine ⟨_, _, _, rfl, (s3.trans s4).put hp0, ?_⟩
            rw [upd_same, take_snoc hy, et, if_neg h0]
            simp [List.map_append]
    · rintro σ H' ⟨v2, v3, v4, rfl, s1, hp⟩
      rw [hul, List.take_length] at hp
      exact ⟨_, rfl, k H' p s1 hp⟩
end
end Py
end
section
set_option Elab.async false
set_option linter.all false
set_option maxRecDepth 100000
set_option maxHeartbeats 4000000
namespace Py
open PySem PySem.Spec PyProof.Rows L2
open Bn (Rhythm Phase)
section
variable {P : Program} {w : World} {K : PySem.W.Frag} {mg : Str → Option Value} {base : Heap} {C : Addr}
/-- the number in a slot -/
def slotN (σ : L2.St) (i : Nat) : Nat := match σ[i]? with
  | some (some (V.int k)) => k.toNat
  | _ => 0
/-! ### phases_from -/
abbrev s_phases_from : Stmt := top 49
theorem sc_phases_from : FnScope ["phases", "time", "gone", "place", "first"] ["phases", "time"] (defScope s_phases_from) := ⟨rfl, rfl, rfl, by decide +kernel, rfl, by decide +kernel, by decide +kernel⟩
def spFrom (K : PySem.W.Frag) : Sp := fun vs H Q _ => ∃ a r z, vs = [.ref a, .int ((z : Nat) : Int)] ∧ RhyL K H a r ∧ Lt.Pos r ∧ r ≠ [] ∧ r.length ≤ 100000 ∧
  ∀ H' p k g x, Same H H' → Lt.AtT r z k g x → RhyL K H' p (Lt.fromR r k g x) → Q (.ref p) H'
theorem ok_phases_from {f : Addr} {fd : FuncData} (F : Fun K "phases_from" "phases_from" s_phases_from f fd) (T : Txt K mg) (G_span_of : Has P w K mg base 1 "span_of" ["phases"] (spSpan K)) : FnOk P w K mg base CX0 2 f fd ["phases", "time"] (spFrom K) := by
  refine F.ok sc_phases_from (fun vs H Q E h => ?_) (fun cdv A outer s H vs Q E hr h => ?_)
  · obtain ⟨a, r, z, rfl, _⟩ := h
    rfl
  · obtain ⟨a, r, z, rfl, ⟨us, hL, hV⟩, hp, hne, hlen, kk⟩ := h
    refine ⟨_, ((pss_cons (ps_set (i := 2) sc_phases_from.nd rfl (Or.inl rfl) (pe_op op_mod (pv 1) (pe_has G_span_of (hr.mono (by decide)) (by rfl) (pa_cons (pv 0) pa_nil))))
      (pss_cons (ps_set (i := 3) sc_phases_from.nd rfl (Or.inl rfl) pe_int)
      (pss_cons (ps_while PassesOwn.never (pt_cmpR op_ge (pv 2) (pe_ix ix_tup (pe_ix ix_list (pv 0) (pv 3) (fun _ _ => rfl)) pe_int (fun _ _ => rfl)) (nomark _)) (pss_cons (ps_aug (i := 2) sc_phases_from.nd rfl (Or.inl rfl) (pe_ix ix_tup (pe_ix ix_list (pv 0) (pv 3) (fun _ _ => rfl)) pe_int (fun _ _ => rfl)) ip_sub)
      (pss_one (ps_aug (i := 3) sc_phases_from.nd rfl (Or.inl rfl) pe_int ip_add))))
      (pss_cons (ps_set (i := 4) sc_phases_from.nd rfl (Or.inl rfl) (pe_tup (pa_cons (pe_ix ix_tup (pe_ix ix_list (pv 0) (pv 3) (fun _ _ => rfl)) pe_int (fun _ _ => rfl)) (pa_cons (pe_op op_sub (pe_ix ix_tup (pe_ix ix_list (pv 0) (pv 3) (fun _ _ => rfl)) pe_int (fun _ _ => rfl)) (pv 2)) pa_nil))))
      (pss_one (ps_ret (pe_op op_cat (pe_op op_cat (pe_lst (pa_cons (pv 4) pa_nil)) (pe_slice sl_list (pv 0) (po_some (pe_op op_add (pv 3) pe_int)) po_none)) (pe_slice sl_list (pv 0) po_none (po_some (pv 3))))))))))), ?_⟩
    have hul : us.length = r.length := hV.length
    have htot := Lt.total_pos hp hne
    refine ⟨_, rfl, _, rfl, a, r, rfl, ⟨us, hL, hV⟩, by omega, fun H1 s1 => ⟨_, _, rfl, rfl, (by show (0 : Int) < ((Bn.total r : Nat) : Int); omega), ?_⟩⟩
    have eg : ((z : Nat) : Int) % ((Bn.total r : Nat) : Int) = ((z % Bn.total r : Nat) : Int) := (Int.natCast_emod _ _).symm
    have hzm := Nat.mod_lt z htot
    refine while_by (fun σ H' => ∃ (k g : Nat), σ = [some (.ref a), some (.int ((z : Nat) : Int)), some (.int ((g : Nat) : Int)), some (.int ((k : Nat) : Int)), none] ∧ H' = H1 ∧ k ≤ r.length ∧ z % Bn.total r = Bn.total (r.take k) + g)
      (fun (σ : L2.St) _ => r.length - slotN σ 3) ⟨0, z % Bn.total r, ?_, rfl, Nat.zero_le _, by rw [List.take_zero, Lt.total_nil, Nat.zero_add]⟩ ?_ ?_
    · show [some (V.ref a), some (V.int ((z : Nat) : Int)), some (V.int (((z : Nat) : Int) % ((Bn.total r : Nat) : Int))), some (V.int 0), none] = _
      rw [eg]
      rfl
    · rintro σ H' ⟨k, g, rfl, rfl, hk, e⟩
      have hkl : k < r.length := by
        rcases Nat.lt_or_ge k r.length with h | h
        · exact h
        · rw [List.take_of_length_le h] at e
          omega
      have hx : r[k]? = some r[k] := List.getElem?_eq_getElem hkl
      obtain ⟨v, hv, ⟨b, rfl, hb⟩⟩ := pr_getR hV hx
      refine ⟨_, rfl, _, rfl, _, rfl, a, us, _, _, rfl, rfl, s1.seq hL, atI_nat hv, b, _, _, _, rfl, rfl, s1.tup hb, atI_nat (j := 1) rfl, _, _, rfl, rfl, _, rfl, ?_⟩
      by_cases hc : r[k].2 ≤ g
      · refine iteP (decide_eq_true (by omega)) ?_
        refine ⟨_, rfl, _, rfl, _, rfl, a, us, _, _, rfl, rfl, s1.seq hL, atI_nat hv, b, _, _, _, rfl, rfl, s1.tup hb, atI_nat (j := 1) rfl, _, _, rfl, rfl, ?_⟩
        refine ⟨_, rfl, _, _, rfl, rfl, ?_⟩
        refine ⟨⟨k + 1, g - r[k].2, ?_, rfl, hkl, ?_⟩, ?_⟩
        · show [some (V.ref a), some (V.int ((z : Nat) : Int)), some (V.int (((g : Nat) : Int) - ((r[k].2 : Nat) : Int))), some (V.int (((k : Nat) : Int) + 1)), none] = _
          rw [Int.natCast_sub hc, Int.natCast_add]
          rfl
        · rw [take_snoc hx, Lt.total_append, Lt.total_cons, Lt.total_nil]
          omega
        · show r.length - (((k : Nat) : Int) + 1).toNat < r.length - (((k : Nat) : Int)).toNat
          omega
      · refine iteQ (decide_eq_false (by omega)) ?_
        have hat : Lt.AtT r z k g r[k] := ⟨hx, by omega, e⟩
        refine ⟨_, rfl, _, rfl, a, us, _, _, rfl, rfl, s1.seq hL, atI_nat hv, b, _, _, _, rfl, rfl, s1.tup hb, atI_nat (j := 0) rfl, ?_⟩
        refine ⟨_, rfl, _, rfl, a, us, _, _, rfl, rfl, s1.seq hL, atI_nat hv, b, _, _, _, rfl, rfl, s1.tup hb, atI_nat (j := 1) rfl, _, rfl, _, _, rfl, rfl, (by show 2 ≤ sizeLine; decide), fun t ht => ?_⟩
        generalize eo : (HO.tup [V.int ((r[k].1 : Nat) : Int), (fun i j => V.int (i - j)) ((r[k].2 : Nat) : Int) ((g : Nat) : Int)]) = o1
        have s2 : Same H (upd H' t o1) := s1.put (s1.free ht)
        refine ⟨_, rfl, (by show 1 ≤ sizeLine; decide), fun l hl => ?_⟩
        have s3 := s2.put (s2.free hl) (o := .lst [.ref t])
        have ht3 : (upd (upd H' t o1) l (.lst [.ref t])) t = some o1 := by
          rw [upd_ne (ne_of_none (H := upd H' t o1) upd_same hl)]
          exact upd_same
        have hl3 : (upd (upd H' t o1) l (.lst [.ref t])) l = some (.lst [.ref t]) := upd_same
        generalize (upd (upd H' t o1) l (.lst [.ref t])) = H3 at s3 ht3 hl3
        refine ⟨_, rfl, _, rfl, _, _, rfl, rfl, _, rfl, a, us, rfl, s3.seq hL, fun q hq => ?_⟩
        have ek : ((k : Nat) : Int) + 1 = ((k + 1 : Nat) : Int) := by omega
        have ec : cutV us (some (((k : Nat) : Int) + 1)) none = us.drop (k + 1) := by rw [ek]; exact cut_drop us (k + 1)
        have ec' : cutV us (some ((fun i j => i + j) ((k : Nat) : Int) 1)) none = us.drop (k + 1) := ec
        have s4 := s3.put (s3.free hq) (o := .lst (us.drop (k + 1)))
        refine ⟨l, q, [.ref t], us.drop (k + 1), rfl, rfl, by rw [upd_ne (ne_of_none hl3 hq)]; exact hl3, ?_, ?_, fun q2 hq2 => ?_⟩
        · rw [upd_same]
          exact congrArg (fun z => some (HO.lst z)) ec
        · rw [List.length_drop]
          exact Nat.le_of_lt (small (by show 1 + _ ≤ _; omega))
        have ht4 : (upd H3 q (.lst (us.drop (k + 1)))) t = some o1 := by rw [upd_ne (ne_of_none ht3 hq)]; exact ht3
        have ex4 : ∀ cut, cut = us.drop (k + 1) → upd H3 q (.lst cut) = upd H3 q (.lst (us.drop (k + 1))) := fun cut e => by rw [e]
        rw [ex4 _ ec] at hq2 ⊢
        generalize (upd H3 q (.lst (us.drop (k + 1)))) = H4 at s4 ht4 hq2
        have s5 := s4.put (s4.free hq2) (o := .lst ([.ref t] ++ us.drop (k + 1)))
        have ht5 : (upd H4 q2 (.lst ([.ref t] ++ us.drop (k + 1)))) t = some o1 := by rw [upd_ne (ne_of_none ht4 hq2)]; exact ht4
        have hq5 : (upd H4 q2 (.lst ([.ref t] ++ us.drop (k + 1)))) q2 = some (.lst ([.ref t] ++ us.drop (k + 1))) := upd_same
        generalize (upd H4 q2 (.lst ([.ref t] ++ us.drop (k + 1)))) = H5 at s5 ht5 hq5
        refine ⟨_, rfl, _, rfl, _, rfl, a, us, rfl, s5.seq hL, fun q3 hq3 => ?_⟩
        rw [cut_take]
        have s6 := s5.put (s5.free hq3) (o := .lst (us.take k))
        refine ⟨q2, q3, [.ref t] ++ us.drop (k + 1), us.take k, rfl, rfl, by rw [upd_ne (ne_of_none hq5 hq3)]; exact hq5, upd_same, ?_, fun q4 hq4 => ?_⟩
        · rw [List.length_append, List.length_drop, List.length_take]
          exact Nat.le_of_lt (small (by show 1 + _ + _ ≤ _; omega))
        have s7 := s6.put (s6.free hq4) (o := .lst ([.ref t] ++ us.drop (k + 1) ++ us.take k))
        have ht6 : (upd H5 q3 (.lst (us.take k))) t = some o1 := by rw [upd_ne (ne_of_none ht5 hq3)]; exact ht5
        refine kk _ q4 k g r[k] s7 hat ⟨_, SqL.of upd_same, ?_⟩
        have hV7 := RhyV.same hV s7
        refine .cons ⟨t, rfl, SqT.of ?_⟩ (pr_append (pr_drop _ hV7) (pr_take _ hV7))
        rw [upd_ne (ne_of_none ht6 hq4), ht6, ← eo]
        show _ = some (HO.tup [V.int ((r[k].1 : Nat) : Int), V.int ((r[k].2 - g : Nat) : Int)])
        rw [Int.natCast_sub (by omega)]
    · rintro σ H0 Q0 Q1 hq ⟨a1, a2, b1, b2, c1, c2, d1, d2, d3, d4, d5, d6, d7, d8, e1, e2, e3, e4, e5, e6, e7, e8, f1, f2, f3, f4, f5, f6, f7⟩
      exact ⟨a1, a2, b1, b2, c1, c2, d1, d2, d3, d4, d5, d6, d7, d8, e1, e2, e3, e4, e5, e6, e7, e8, f1, f2, f3, f4, f5, f6, hq _ _ f7⟩
/-! ### colour_at, change_behind -/
abbrev s_colour_at : Stmt := top 50
theorem sc_colour_at : FnScope ["phases", "time"] ["phases", "time"] (defScope s_colour_at) := ⟨rfl, rfl, rfl, by decide +kernel, rfl, by decide +kernel, by decide +kernel⟩
def spColour (K : PySem.W.Frag) : Sp := fun vs H Q _ => ∃ a r z, vs = [.ref a, .int ((z : Nat) : Int)] ∧ RhyL K H a r ∧ Lt.Pos r ∧ r ≠ [] ∧ r.length ≤ 100000 ∧ ∀ H', Same H H' → Q (.int ((Bn.colourAt r z : Nat) : Int)) H'
theorem ok_colour_at {f : Addr} {fd : FuncData} (F : Fun K "colour_at" "colour_at" s_colour_at f fd) (G_phases_from : Has P w K mg base 2 "phases_from" ["phases", "time"] (spFrom K)) : FnOk P w K mg base CX0 3 f fd ["phases", "time"] (spColour K) := by
  refine F.ok sc_colour_at (fun vs H Q E h => ?_) (fun cdv A outer s H vs Q E hr h => ?_)
  · obtain ⟨a, r, z, rfl, _⟩ := h
    rfl
  · obtain ⟨a, r, z, rfl, hL, hp, hne, hlen, kk⟩ := h
    refine ⟨_, ((pss_one (ps_ret (pe_ix ix_tup (pe_ix ix_list (pe_has G_phases_from (hr.mono (by decide)) (by rfl) (pa_cons (pv 0) (pa_cons (pv 1) pa_nil))) pe_int (fun _ _ => rfl)) pe_int (fun _ _ => rfl))))), ?_⟩
    refine ⟨_, rfl, _, rfl, a, r, z, rfl, hL, hp, hne, hlen, fun H1 p k g x s1 hat hL1 => ?_⟩
    obtain ⟨us, hS, hV⟩ := hL1
    cases hV with
    | cons h1 h2 =>
      obtain ⟨b, rfl, hb⟩ := h1
      refine ⟨p, _, _, _, rfl, rfl, hS, atI_nat (j := 0) rfl, b, _, _, _, rfl, rfl, hb, atI_nat (j := 0) rfl, ?_⟩
      have := kk H1 s1
      rw [Lt.from_first hat hp (Lt.total_pos hp hne)] at this
      exact this
abbrev s_change_behind : Stmt := top 51
theorem sc_change_behind : FnScope ["phases", "time", "runs"] ["phases", "time"] (defScope s_change_behind) := ⟨rfl, rfl, rfl, by decide +kernel, rfl, by decide +kernel, by decide +kernel⟩
def spChange (K : PySem.W.Frag) : Sp := fun vs H Q _ => ∃ a r z, vs = [.ref a, .int ((z : Nat) : Int)] ∧ RhyL K H a r ∧ Lt.Pos r ∧ r ≠ [] ∧ r.length ≤ 100000 ∧ ∀ H', Same H H' → Q (optV (Wqatdx.nextOf r z)) H'
theorem from_len (r : Rhythm) (k g : Nat) (x : Phase) : (Lt.fromR r k g x).length ≤ r.length + 1 := by
  unfold Lt.fromR
  rw [List.length_cons, List.length_append, List.length_drop, List.length_take]
  omega
theorem ok_change_behind {f : Addr} {fd : FuncData} (F : Fun K "change_behind" "change_behind" s_change_behind f fd) (T : Txt K mg) (G_phases_from : Has P w K mg base 2 "phases_from" ["phases", "time"] (spFrom K)) (G_joined : Has P w K mg base 1 "joined" ["phases"] (spJoined K)) : FnOk P w K mg base CX0 3 f fd ["phases", "time"] (spChange K) := by
  refine F.ok sc_change_behind (fun vs H Q E h => ?_) (fun cdv A outer s H vs Q E hr h => ?_)
  · obtain ⟨a, r, z, rfl, _⟩ := h
    rfl
  · obtain ⟨a, r, z, rfl, hL, hp, hne, hlen, kk⟩ := h
    refine ⟨_, ((pss_cons (ps_set (i := 2) sc_change_behind.nd rfl (Or.inl rfl) (pe_has G_joined (hr.mono (by decide)) (by rfl) (pa_cons (pe_has G_phases_from (hr.mono (by decide)) (by rfl) (pa_cons (pv 0) (pa_cons (pv 1) pa_nil))) pa_nil)))
      (pss_cons (ps_if (pt_cmpR op_eq (pe_callB call_len_seq (by rfl) T.n_len PySem.boot_len (pa_cons (pv 2) pa_nil)) pe_int (nomark _)) (pss_one (ps_ret pe_non)) pss_nil)
      (pss_one (ps_ret (pe_op op_add (pv 1) (pe_ix ix_tup (pe_ix ix_list (pv 2) pe_int (fun _ _ => rfl)) pe_int (fun _ _ => rfl)))))))), ?_⟩
    refine ⟨_, rfl, _, rfl, a, r, z, rfl, hL, hp, hne, hlen, fun H1 p k g x s1 hat hL1 => ?_⟩
    have hfl := from_len r k g x
    refine ⟨p, _, rfl, hL1, by omega, fun H2 p2 us s2 hp0 hp2 hV => ?_⟩
    refine ⟨_, rfl, p2, _, rfl, .inl (SqL.of hp2), rfl, _, rfl, ?_⟩
    have hul : us.length = (Bn.joined (Lt.fromR r k g x)).length := hV.length
    have hj0 : Bn.joined (Lt.fromR r k g x) ≠ [] := Lt.joined_ne (by simp [Lt.fromR])
    match hj : Bn.joined (Lt.fromR r k g x), hj0 with
    | [y], _ =>
      refine iteP (decide_eq_true (by rw [hul, hj]; rfl)) ?_
      have := kk H2 (s1.trans s2)
      rw [Lt.next_none hat hp hne hj] at this
      exact this
    | y :: y2 :: l, _ =>
      refine iteQ (decide_eq_false (fun e => by injection e with e; rw [hul, hj, List.length_cons, List.length_cons] at e; omega)) ?_
      rw [hj] at hV
      cases hV with
      | cons h1 h2 =>
        obtain ⟨b, rfl, hb⟩ := h1
        refine ⟨_, rfl, _, rfl, p2, _, _, _, rfl, rfl, SqL.of hp2, atI_nat (j := 0) rfl, b, _, _, _, rfl, rfl, hb, atI_nat (j := 1) rfl, _, _, rfl, rfl, ?_⟩
        have := kk H2 (s1.trans s2)
        rw [Lt.next_some hat hp hne hj] at this
        have e : optV (some (z + y.2)) = V.int (((z : Nat) : Int) + ((y.2 : Nat) : Int)) := by
          show V.int _ = _
          rw [Int.natCast_add]
        rw [e] at this
        exact this
/-! ### next_answer, timed_answer -/
abbrev s_next_answer : Stmt := top 66
theorem sc_next_answer : FnScope ["phases", "time", "change"] ["phases", "time"] (defScope s_next_answer) := ⟨rfl, rfl, rfl, by decide +kernel, rfl, by decide +kernel, by decide +kernel⟩
def LstI (H0 H : Hp) (p : Addr) (ns : List Int) : Prop := H0 p = none ∧ H p = some (.lst (ns.map V.int))
def nextI (r : Rhythm) (z : Nat) : Int := match Wqatdx.nextOf r z with
  | none => -3
  | some n => ((n : Nat) : Int)
def spNext (K : PySem.W.Frag) : Sp := fun vs H Q _ => ∃ a r z, vs = [.ref a, .int ((z : Nat) : Int)] ∧ RhyL K H a r ∧ Lt.Pos r ∧ r ≠ [] ∧ r.length ≤ 100000 ∧ ∀ H' p, Same H H' → LstI H H' p [nextI r z] → Q (.ref p) H'
theorem ok_next_answer {f : Addr} {fd : FuncData} (F : Fun K "next_answer" "next_answer" s_next_answer f fd) (T : Txt K mg) (G_change_behind : Has P w K mg base 3 "change_behind" ["phases", "time"] (spChange K)) : FnOk P w K mg base CX0 4 f fd ["phases", "time"] (spNext K) := by
  refine F.ok sc_next_answer (fun vs H Q E h => ?_) (fun cdv A outer s H vs Q E hr h => ?_)
  · obtain ⟨a, r, z, rfl, _⟩ := h
    rfl
  · obtain ⟨a, r, z, rfl, hL, hp, hne, hlen, kk⟩ := h
    refine ⟨_, ((pss_cons (ps_set (i := 2) sc_next_answer.nd rfl (Or.inl rfl) (pe_has G_change_behind (hr.mono (by decide)) (by rfl) (pa_cons (pv 0) (pa_cons (pv 1) pa_nil))))
      (pss_cons (ps_if (pt_cmp (pc_isN (pv 2))) (pss_one (ps_ret (pe_lst (pa_cons (pe_gi (by rfl) T.g_THERE_IS_NONE) pa_nil)))) pss_nil)
      (pss_one (ps_ret (pe_lst (pa_cons (pv 2) pa_nil))))))), ?_⟩
    refine ⟨_, rfl, _, rfl, a, r, z, rfl, hL, hp, hne, hlen, fun H1 s1 => ?_⟩
    refine ⟨_, rfl, _, rfl, ?_⟩
    unfold nextI at kk
    cases hn : Wqatdx.nextOf r z with
    | none =>
      refine iteP (decide_eq_true rfl) ?_
      rw [hn] at kk
      exact ⟨(by show 1 ≤ sizeLine; decide), fun l hl => kk _ l (s1.put (s1.free hl)) ⟨s1.free hl, upd_same⟩⟩
    | some n =>
      refine iteQ (decide_eq_false (by intro q; cases q)) ?_
      rw [hn] at kk
      exact ⟨_, rfl, (by show 1 ≤ sizeLine; decide), fun l hl => kk _ l (s1.put (s1.free hl)) ⟨s1.free hl, upd_same⟩⟩
abbrev s_timed_answer : Stmt := top 67
theorem sc_timed_answer : FnScope ["call", "phases", "time"] ["call", "phases", "time"] (defScope s_timed_answer) := ⟨rfl, rfl, rfl, by decide +kernel, rfl, by decide +kernel, by decide +kernel⟩
def timedI (c : Int) (r : Rhythm) (z : Nat) : Int := if 1000000 < z then -1 else if c = 4 then ((Bn.colourAt r z : Nat) : Int) else nextI r z
def spTimed (K : PySem.W.Frag) : Sp := fun vs H Q _ => ∃ c a r z, vs = [.int c, .ref a, .int ((z : Nat) : Int)] ∧ RhyL K H a r ∧ Lt.Pos r ∧ r ≠ [] ∧ r.length ≤ 100000 ∧ ∀ H' p, Same H H' → LstI H H' p [timedI c r z] → Q (.ref p) H'
theorem ok_timed_answer {f : Addr} {fd : FuncData} (F : Fun K "timed_answer" "timed_answer" s_timed_answer f fd) (T : Txt K mg) (G_colour_at : Has P w K mg base 3 "colour_at" ["phases", "time"] (spColour K)) (G_next_answer : Has P w K mg base 4 "next_answer" ["phases", "time"] (spNext K)) : FnOk P w K mg base CX0 5 f fd ["call", "phases", "time"] (spTimed K) := by
  refine F.ok sc_timed_answer (fun vs H Q E h => ?_) (fun cdv A outer s H vs Q E hr h => ?_)
  · obtain ⟨c, a, r, z, rfl, _⟩ := h
    rfl
  · obtain ⟨c, a, r, z, rfl, hL, hp, hne, hlen, kk⟩ := h
    refine ⟨_, ((pss_cons (ps_if (pt_cmpR op_gt (pv 2) (pe_gi (by rfl) T.g_LATEST) (nomark _)) (pss_one (ps_ret (pe_lst (pa_cons (pe_gi (by rfl) T.g_TOO_LATE) pa_nil)))) pss_nil)
      (pss_cons (ps_if (pt_cmpR op_eq (pv 0) (pe_gi (by rfl) T.g_AT) (nomark _)) (pss_one (ps_ret (pe_lst (pa_cons (pe_has G_colour_at (hr.mono (by decide)) (by rfl) (pa_cons (pv 1) (pa_cons (pv 2) pa_nil))) pa_nil)))) pss_nil)
      (pss_one (ps_ret (pe_has G_next_answer (hr.mono (by decide)) (by rfl) (pa_cons (pv 1) (pa_cons (pv 2) pa_nil)))))))), ?_⟩
    refine ⟨_, rfl, _, _, rfl, rfl, _, rfl, ?_⟩
    unfold timedI at kk
    by_cases hz : 1000000 < z
    · refine iteP (decide_eq_true (by omega)) ?_
      rw [if_pos hz] at kk
      exact ⟨(by show 1 ≤ sizeLine; decide), fun l hl => kk _ l (Same.new hl) ⟨hl, upd_same⟩⟩
    · refine iteQ (decide_eq_false (by omega)) ?_
      rw [if_neg hz] at kk
      refine ⟨_, rfl, rfl, _, rfl, ?_⟩
      by_cases hc : c = 4
      · refine iteP (decide_eq_true (by rw [hc])) ?_
        rw [if_pos hc] at kk
        refine ⟨_, rfl, _, rfl, a, r, z, rfl, hL, hp, hne, hlen, fun H1 s1 => ?_⟩
        exact ⟨(by show 1 ≤ sizeLine; decide), fun l hl => kk _ l (s1.put (s1.free hl)) ⟨s1.free hl, upd_same⟩⟩
      · refine iteQ (decide_eq_false (fun e => hc (by injection e))) ?_
        rw [if_neg hc] at kk
        exact ⟨_, rfl, _, rfl, a, r, z, rfl, hL, hp, hne, hlen, kk⟩
/-! ### form_answer, shift_answer, period_answer -/
abbrev s_form_answer : Stmt := top 64
theorem sc_form_answer : FnScope ["light", "text"] ["light"] (defScope s_form_answer) := ⟨rfl, rfl, rfl, by decide +kernel, rfl, by decide +kernel, by decide +kernel⟩
def spFormA (C : Addr) (K : PySem.W.Frag) : Sp := fun vs H Q _ => ∃ p r b, vs = [.ref p] ∧ LightAt C K H p r b ∧ (Bn.form r).length ≤ 10000 ∧ (∀ x ∈ Bn.form r, x.1 ≤ 4 ∧ x.2 < 10000000) ∧ ∀ H' q, Same H H' → LstI H H' q ((((Lt.textI (Bn.form r)).length : Nat) : Int) :: Lt.textI (Bn.form r)) → Q (.ref q) H'
theorem ok_form_answer {f : Addr} {fd : FuncData} (F : Fun K "form_answer" "form_answer" s_form_answer f fd) (T : Txt K mg) (L : Lcls K mg C) (G_text_of : Has P w K mg base 1 "text_of" ["phases"] (spText K)) : FnOk P w K mg base CX0 2 f fd ["light"] (spFormA C K) := by
  refine F.ok sc_form_answer (fun vs H Q E h => ?_) (fun cdv A outer s H vs Q E hr h => ?_)
  · obtain ⟨p, r, b, rfl, _⟩ := h
    rfl
  · obtain ⟨p, r, b, rfl, ⟨dx, q, h1, hL, _⟩, hl1, hl2, kk⟩ := h
    refine ⟨_, ((pss_cons (ps_set (i := 1) sc_form_answer.nd rfl (Or.inl rfl) (pe_has G_text_of (hr.mono (by decide)) (by rfl) (pa_cons (pe_fld (pv 0) rfl) pa_nil)))
      (pss_one (ps_ret (pe_op op_cat (pe_lst (pa_cons (pe_callB call_len_seq (by rfl) T.n_len PySem.boot_len (pa_cons (pv 1) pa_nil)) pa_nil)) (pv 1)))))), ?_⟩
    refine ⟨_, rfl, p, C, dx, _, _, rfl, h1, L.cl, L.nf, lf_form _ _ _, q, _, rfl, hL, hl1, hl2, fun H1 p1 s1 hp1 => ?_⟩
    refine ⟨_, rfl, p1, _, rfl, .inl (SqL.of hp1), (by show 1 ≤ sizeLine; decide), fun l hl => ?_⟩
    refine ⟨_, rfl, l, p1, _, _, rfl, rfl, upd_same, by rw [upd_ne (ne_of_none hp1 hl)]; exact hp1, ?_, fun q2 hq2 => ?_⟩
    · have := Lt.textI_len (Bn.form r) fun x hx => (hl2 x hx).2
      rw [List.length_map]
      exact Nat.le_of_lt (small (by show 1 + _ ≤ _; omega))
    · have s2 := s1.put (s1.free hl) (o := .lst [V.int ((((Lt.textI (Bn.form r)).map V.int).length : Nat) : Int)])
      refine kk _ q2 (s2.put (s2.free hq2)) ⟨s2.free hq2, ?_⟩
      show (upd _ q2 _) q2 = _
      rw [upd_same, List.length_map]
      rfl
abbrev s_shift_answer : Stmt := top 65
theorem sc_shift_answer : FnScope ["one", "other"] ["one", "other"] (defScope s_shift_answer) := ⟨rfl, rfl, rfl, by decide +kernel, rfl, by decide +kernel, by decide +kernel⟩
def shiftI (r s : Rhythm) : Int := match Wqatdx.shiftOf r s with
  | none => -3
  | some k => ((k : Nat) : Int)
def spShiftA (C : Addr) (K : PySem.W.Frag) : Sp := fun vs H Q _ => ∃ p q r s b c, vs = [.ref p, .ref q] ∧ LightAt C K H p r b ∧ LightAt C K H q s c ∧ Lt.Pos r ∧ r ≠ [] ∧ Lt.Pos s ∧ s ≠ [] ∧ ∀ H' l, Same H H' → LstI H H' l [shiftI r s] → Q (.ref l) H'
theorem ok_shift_answer {f : Addr} {fd : FuncData} (F : Fun K "shift_answer" "shift_answer" s_shift_answer f fd) (T : Txt K mg) (G_same_light : Has P w K mg base 1 "same_light" ["one", "other"] (spSame C K)) (G_shift_between : Has P w K mg base 1 "shift_between" ["one", "other"] (spShift C K)) : FnOk P w K mg base CX0 2 f fd ["one", "other"] (spShiftA C K) := by
  refine F.ok sc_shift_answer (fun vs H Q E h => ?_) (fun cdv A outer s H vs Q E hr h => ?_)
  · obtain ⟨p, q, r, s, b, c, rfl, _⟩ := h
    rfl
  · obtain ⟨p, q, r, s2, b, c, rfl, l1, l2, pr, nr, ps, ns, kk⟩ := h
    refine ⟨_, ((pss_cons (ps_if (pt_not (pt_val (pe_has G_same_light (hr.mono (by decide)) (by rfl) (pa_cons (pv 0) (pa_cons (pv 1) pa_nil))))) (pss_one (ps_ret (pe_lst (pa_cons (pe_gi (by rfl) T.g_THERE_IS_NONE) pa_nil)))) pss_nil)
      (pss_one (ps_ret (pe_lst (pa_cons (pe_has G_shift_between (hr.mono (by decide)) (by rfl) (pa_cons (pv 0) (pa_cons (pv 1) pa_nil))) pa_nil)))))), ?_⟩
    refine ⟨_, rfl, _, rfl, p, q, r, s2, b, c, rfl, l1, l2, _, rfl, ?_⟩
    unfold shiftI at kk
    by_cases he : Bn.form r = Bn.form s2
    · refine iteQ (by rw [decide_eq_true he]; rfl) ?_
      obtain ⟨k, ek⟩ : ∃ k, Wqatdx.shiftOf r s2 = some k := by
        unfold Wqatdx.shiftOf
        simp only
        rw [if_pos he]
        exact ⟨_, rfl⟩
      rw [ek] at kk
      refine ⟨_, rfl, _, rfl, p, q, r, s2, b, c, k, rfl, l1, l2, pr, nr, ps, ns, he, ek, ?_⟩
      exact ⟨(by show 1 ≤ sizeLine; decide), fun l hl => kk _ l (Same.new hl) ⟨hl, upd_same⟩⟩
    · refine iteP (by rw [decide_eq_false he]; rfl) ?_
      rw [Lt.shiftOf_none he] at kk
      exact ⟨(by show 1 ≤ sizeLine; decide), fun l hl => kk _ l (Same.new hl) ⟨hl, upd_same⟩⟩
abbrev s_period_answer : Stmt := top 68
theorem sc_period_answer : FnScope ["light", "lit", "colour", "length"] ["light"] (defScope s_period_answer) := ⟨rfl, rfl, rfl, by decide +kernel, rfl, by decide +kernel, by decide +kernel⟩
def litL (r : Rhythm) : List Int := ((Bn.form r).filter fun (x : Phase) => x.1 != 0).map fun x => ((x.2 : Nat) : Int)
def spPerA (C : Addr) (K : PySem.W.Frag) : Sp := fun vs H Q _ => ∃ p r b, vs = [.ref p] ∧ LightAt C K H p r b ∧ (Bn.form r).length ≤ 10000 ∧ ∀ H' q, Same H H' → LstI H H' q [((Bn.period r : Nat) : Int), (litL r).sum, (((litL r).length : Nat) : Int)] → Q (.ref q) H'
theorem ok_period_answer {f : Addr} {fd : FuncData} (F : Fun K "period_answer" "period_answer" s_period_answer f fd) (T : Txt K mg) (L : Lcls K mg C) : FnOk P w K mg base CX0 1 f fd ["light"] (spPerA C K) := by
  refine F.ok sc_period_answer (fun vs H Q E h => ?_) (fun cdv A outer s H vs Q E hr h => ?_)
  · obtain ⟨p, r, b, rfl, _⟩ := h
    rfl
  · obtain ⟨p, r, b, rfl, ⟨dx, q, h1, ⟨us, hS, hV⟩, _⟩, hl1, kk⟩ := h
    refine ⟨_, ((pss_cons (ps_setLc (i := 1) rfl sc_period_answer.nd rfl rfl (sw_true rfl rfl rfl (by decide +kernel)) (pi_list (pe_fld (pv 0) rfl)) (blkOk_by (own := [("colour", 2), ("length", 3)]) (by kernel_rfl)) (fun _ _ _ _ _ => (pg_tupK (K := K) (n := 2) rfl rfl (pgs_cons (pg_name (i := 2) sc_period_answer.nd rfl (Or.inl rfl)) (pgs_cons (pg_name (i := 3) sc_period_answer.nd rfl (Or.inl rfl)) pgs_nil)))) (fun _ _ _ _ _ => (pts_one (pt_cmpR op_ne (pv 2) (pe_gi (by rfl) T.g_DARK) (nomark _)))) (fun _ _ _ _ _ => (pv 3)))
      (pss_one (ps_ret (pe_lst (pa_cons (pe_fld (pv 0) rfl) (pa_cons (pe_callB (cr_sum rfl) (by rfl) T.n_sum boot_sum (pa_cons (pv 1) pa_nil)) (pa_cons (pe_callB call_len_seq (by rfl) T.n_len PySem.boot_len (pa_cons (pv 1) pa_nil)) pa_nil)))))))), ?_⟩
    refine ⟨_, rfl, p, C, dx, _, _, rfl, h1, L.cl, L.nf, lf_form _ _ _, q, rfl, ⟨_, hS⟩, fun D hD => ?_⟩
    have hul : us.length = (Bn.form r).length := hV.length
    refine lc_list (K := K) (a := q) (xs := us) (fun i H' => Same H H' ∧ H' D = some (.lst ((((Bn.form r).take i).filter fun (x : Phase) => x.1 != 0).map fun x => V.int ((x.2 : Nat) : Int)))) ⟨Same.new hD, upd_same⟩ (fun i H' _ h => h.1.seq hS) ?_ ?_
    · rintro i x H' hx ⟨s1, hd⟩
      obtain ⟨y, hy, ⟨c, rfl, hc⟩⟩ := pr_get hV hx
      obtain ⟨hi, _⟩ := List.getElem?_eq_some_iff.mp hy
      refine ⟨c, _, rfl, s1.tup hc, rfl, _, _, rfl, _, _, rfl, rfl, rfl, ?_⟩
      refine ⟨_, rfl, rfl, _, rfl, ?_⟩
      have ef : ((Bn.form r).take (i + 1)).filter (fun (x : Phase) => x.1 != 0) = ((Bn.form r).take i).filter (fun (x : Phase) => x.1 != 0) ++ (if y.1 = 0 then [] else [y]) := by
        rw [take_snoc hy, List.filter_append]
        congr 1
        by_cases h0 : y.1 = 0
        · rw [if_pos h0, List.filter_cons_of_neg (by simp [h0])]
          rfl
        · rw [if_neg h0, List.filter_cons_of_pos (by simp [h0])]
          rfl
      by_cases h0 : y.1 = 0
      · refine iteQ (by rw [h0]; rfl) ?_
        refine ⟨s1, ?_⟩
        rw [ef, if_pos h0, List.append_nil]
        exact hd
      · refine iteP (by rw [decide_eq_false (fun e : V.int ((y.1 : Nat) : Int) = V.int 0 => h0 (by injection e with e; omega))]; rfl) ?_
        refine ⟨_, rfl, _, hd, ?_, s1.put hD, ?_⟩
        · rw [List.length_map]
          exact small (Nat.le_trans (List.length_filter_le _ _) (by rw [List.length_take]; omega))
        · rw [upd_same, ef, if_neg h0, List.map_append]
          rfl
    · rintro H' ⟨s1, hd⟩
      rw [hul, List.take_length] at hd
      have hd' : H' D = some (.lst ((litL r).map V.int)) := by
        rw [hd]
        unfold litL
        rw [List.map_map]
        rfl
      refine ⟨_, rfl, p, C, dx, _, _, rfl, s1 _ _ h1, L.cl, L.np, lf_period _ _ _, _, rfl, D, litL r, rfl, SqL.of hd', _, rfl, D, _, rfl, .inl (SqL.of hd'), (by show 3 ≤ sizeLine; decide), fun l hl => ?_⟩
      refine kk _ l (s1.put (s1.free hl)) ⟨s1.free hl, ?_⟩
      show (upd _ l _) l = _
      rw [upd_same, List.length_map]
      rfl
end
end Py
end
section
set_option Elab.async false
set_option linter.all false
set_option maxRecDepth 100000
set_option maxHeartbeats 4000000
namespace Py
open PySem PySem.Spec PyProof.Rows L2
open Bn (Rhythm Phase)
/-! ### texts joined -/
def joinB (s : Bn.Bytes) : List Bn.Bytes → Bn.Bytes
  | [] => []
  | [x] => x
  | x :: y :: r => x ++ (s ++ joinB s (y :: r))
theorem join_sb (s : Bn.Bytes) : ∀ bs : List Bn.Bytes, PySem.Txt.join (sb s) (bs.map sb) = sb (joinB s bs) := by
  intro bs
  rw [TL.join_eq]
  induction bs with
  | nil => rfl
  | cons x r ih =>
    cases r with
    | nil => rfl
    | cons y r =>
      show sb x ++ sb s ++ Str.join (sb s) ((y :: r).map sb) = _
      rw [ih, sb_append, sb_append, List.append_assoc]
      rfl
theorem joinB_plus : ∀ l : List Nat, joinB [43] (l.map Bn.decimal) = Bn.plusses l
  | [] => rfl
  | [n] => rfl
  | n :: m :: r => by
    have ih := joinB_plus (m :: r)
    show Bn.decimal n ++ ([43] ++ joinB [43] ((m :: r).map Bn.decimal)) = Bn.decimal n ++ (43 :: Bn.plusses (m :: r))
    rw [ih]
    rfl
theorem joinB_space : ∀ l : List Bn.Bytes, joinB [32] l = Bn.spaced l
  | [] => rfl
  | [n] => rfl
  | n :: m :: r => by
    have ih := joinB_space (m :: r)
    show n ++ ([32] ++ joinB [32] (m :: r)) = n ++ (32 :: Bn.spaced (m :: r))
    rw [ih]
    rfl
theorem joinB_none : ∀ l : List Bn.Bytes, joinB [] l = l.flatten
  | [] => rfl
  | [n] => by simp [joinB]
  | n :: m :: r => by
    have ih := joinB_none (m :: r)
    show n ++ ([] ++ joinB [] (m :: r)) = _
    rw [ih]
    rfl
theorem sumlen {bs : List Bn.Bytes} {n : Nat} (h : ∀ b ∈ bs, b.length ≤ n) : ((bs.map sb).map (·.length)).sum ≤ n * bs.length := by
  induction bs with
  | nil => simp
  | cons b bs ih =>
    have := ih fun x hx => h x (by simp [hx])
    have hb := h b (by simp)
    simp only [List.map_cons, List.sum_cons, List.length_cons, sb_length]
    rw [Nat.mul_succ]
    omega
theorem decimal_len {n : Nat} (h : n < 10000000) : (Bn.decimal n).length ≤ 7 := by
  have := Lt.digI_len n h
  have e := congrArg List.length (Lt.decimal_digits n)
  unfold Lt.bytesI at e
  unfold Lt.digI at this
  rw [List.length_map] at e this
  rw [e, List.length_map]
  exact this
theorem q_of {Q : VK} {H : Hp} {x y : Str} (e : x = y) (h : Q (.str y) H) : Q (.str x) H := by rw [e]; exact h
theorem s_LFl : ("LFl" : Str) = sb (Bn.ascii "LFl") := by decide +kernel
theorem s_UQ : ("UQ" : Str) = sb (Bn.ascii "UQ") := by decide +kernel
theorem s_VQ : ("VQ" : Str) = sb (Bn.ascii "VQ") := by decide +kernel
theorem s_Q : ("Q" : Str) = sb (Bn.ascii "Q") := by decide +kernel
theorem s_Fl : ("Fl" : Str) = sb (Bn.ascii "Fl") := by decide +kernel
theorem s_Iso : ("Iso" : Str) = sb (Bn.ascii "Iso") := by decide +kernel
theorem s_Oc : ("Oc" : Str) = sb (Bn.ascii "Oc") := by decide +kernel
theorem s_Al : ("Al" : Str) = sb (Bn.ascii "Al") := by decide +kernel
theorem s_Alb : ("Al " : Str) = sb (Bn.ascii "Al " ) := by decide +kernel
theorem s_F : ("F" : Str) = sb (Bn.ascii "F") := by decide +kernel
theorem s_Ir : ("Ir" : Str) = sb (Bn.ascii "Ir") := by decide +kernel
theorem s_Mo : ("Mo(" : Str) = sb (Bn.ascii "Mo(") := by decide +kernel
theorem s_dark : ("dark" : Str) = sb (Bn.ascii "dark") := by decide +kernel
theorem s_open : ("(" : Str) = sb [40] := by decide +kernel
theorem s_close : (")" : Str) = sb [41] := by decide +kernel
theorem s_plus : ("+" : Str) = sb [43] := by decide +kernel
theorem s_blank : (" " : Str) = sb [32] := by decide +kernel
theorem s_none : ("" : Str) = sb [] := by decide +kernel
theorem s_s : ("s" : Str) = sb [115] := by decide +kernel
theorem s_dot : ("." : Str) = sb [46] := by decide +kernel
theorem s_empty : Str.empty = sb [] := by decide +kernel
theorem sb_small {b : Bn.Bytes} (h : b.length ≤ 1000000) : (sb b).length ≤ sizeLine := by
  rw [sb_length]
  exact Nat.le_of_lt (small h)
/-! ### different ones -/
theorem dedup_loop : ∀ (l acc : List Nat), (nI l).foldl (step_dedup (K := Int)) (nI acc.reverse) = nI (List.eraseDupsBy.loop (fun x y => x == y) l acc)
  | [], acc => rfl
  | x :: l, acc => by
    show (nI l).foldl (step_dedup (K := Int)) (step_dedup (nI acc.reverse) ((x : Nat) : Int)) = _
    have ea : (nI acc.reverse).any (fun y => y == ((x : Nat) : Int)) = acc.any (fun y => x == y) := by
      unfold nI
      rw [List.any_map, List.any_reverse]
      congr 1
      funext y
      show (((y : Nat) : Int) == ((x : Nat) : Int)) = (x == y)
      by_cases h : x = y
      · rw [h]; simp
      · rw [beq_eq_false_iff_ne.mpr h, beq_eq_false_iff_ne]
        omega
    unfold step_dedup
    rw [ea]
    rw [List.eraseDupsBy.loop]
    cases h : acc.any (fun y => x == y) with
    | true =>
      simp only [if_true]
      exact dedup_loop l acc
    | false =>
      simp only [Bool.false_eq_true, if_false]
      have := dedup_loop l (x :: acc)
      rw [← this]
      congr 1
      unfold nI
      rw [List.reverse_cons, List.map_append]
      rfl
theorem kinds_sizes (l : List Nat) : kinds (nI l) = (Bn.sizes l).length := by
  unfold kinds firstMet
  have e : (List.range (nI l).length).map (fun i => (nI l).getD i 0) = nI l := by
    apply List.ext_getElem
    · simp
    · intro i h1 h2
      simp only [List.getElem_map, List.getElem_range]
      simp [List.getD, h2]
  rw [e]
  have := dedup_loop l []
  rw [show nI ([] : List Nat).reverse = [] from rfl] at this
  rw [this]
  unfold nI
  rw [List.length_map]
  rfl
theorem runs_le {long : Nat} : ∀ (n : Nat) (l : List Nat), (∀ x ∈ Bn.runsOf long n l, x ≤ n + l.length) ∧ (Bn.runsOf long n l).length ≤ l.length
  | n, [] => ⟨(fun x hx => nomatch hx), Nat.le_refl _⟩
  | n, y :: l => by
    have e : Bn.runsOf long n (y :: l) = if y = long then (n + 1) :: Bn.runsOf long 0 l else Bn.runsOf long (n + 1) l := rfl
    rw [e]
    by_cases h : y = long
    · rw [if_pos h]
      obtain ⟨h1, h2⟩ := runs_le (long := long) 0 l
      refine ⟨fun x hx => ?_, by rw [List.length_cons, List.length_cons]; omega⟩
      rw [List.length_cons]
      rcases List.mem_cons.mp hx with q | q
      · omega
      · have := h1 x q
        omega
    · rw [if_neg h]
      obtain ⟨h1, h2⟩ := runs_le (long := long) (n + 1) l
      refine ⟨fun x hx => ?_, by rw [List.length_cons]; omega⟩
      rw [List.length_cons]
      have := h1 x hx
      omega
theorem behind_len (long : Nat) (l : List Nat) : (Bn.behindLong long l).length = l.length := by
  unfold Bn.behindLong
  cases l.findIdx? (fun x => x == long) with
  | none => rfl
  | some k =>
    simp only
    rw [List.length_append, List.length_drop, List.length_take]
    omega
theorem groups_le (l : List Nat) : (∀ x ∈ Bn.groups l, x ≤ l.length) ∧ (Bn.groups l).length ≤ l.length := by
  unfold Bn.groups
  simp only
  obtain ⟨h1, h2⟩ := runs_le (long := l.foldl max 0) 0 (Bn.behindLong (l.foldl max 0) l)
  rw [behind_len] at h1 h2
  obtain ⟨⟨k, hk, e⟩, _⟩ := Lt.greatest_spec (Bn.runsOf (l.foldl max 0) 0 (Bn.behindLong (l.foldl max 0) l))
  rw [e]
  refine ⟨fun x hx => ?_, by rw [Lt.turnN_length]; exact h2⟩
  unfold Lt.turnN at hx
  have := h1 x (by
    rcases List.mem_append.mp hx with q | q
    · exact List.mem_of_mem_drop q
    · exact List.mem_of_mem_take q)
  omega
section
variable {P : Program} {w : World} {K : PySem.W.Frag} {mg : Str → Option Value} {base : Heap} {C : Addr}
/-! ### flash_name, kind_of_one -/
abbrev s_flash_name : Stmt := top 36
theorem sc_flash_name : FnScope ["light", "every"] ["light", "every"] (defScope s_flash_name) := ⟨rfl, rfl, rfl, by decide +kernel, rfl, by decide +kernel, by decide +kernel⟩
def spFlash : Sp := fun vs H Q _ => ∃ l e : Nat, vs = [.int ((l : Nat) : Int), .int ((e : Nat) : Int)] ∧ Q (.str (sb (Bn.flashName l e))) H
theorem ok_flash_name {f : Addr} {fd : FuncData} (F : Fun K "flash_name" "flash_name" s_flash_name f fd) (T : Txt K mg) : FnOk P w K mg base CX0 1 f fd ["light", "every"] (spFlash) := by
  refine F.ok sc_flash_name (fun vs H Q E h => ?_) (fun cdv A outer s H vs Q E hr h => ?_)
  · obtain ⟨l, e, rfl, _⟩ := h
    rfl
  · obtain ⟨l, e, rfl, k⟩ := h
    refine ⟨_, ((pss_cons (ps_if (pt_cmpR op_ge (pv 0) (pe_gi (by rfl) T.g_LONG_FLASH) (nomark _)) (pss_one (ps_ret pe_str)) pss_nil)
      (pss_cons (ps_if (pt_cmpR op_le (pv 1) pe_int (nomark _)) (pss_one (ps_ret pe_str)) pss_nil)
      (pss_cons (ps_if (pt_cmpR op_le (pv 1) pe_int (nomark _)) (pss_one (ps_ret pe_str)) pss_nil)
      (pss_cons (ps_if (pt_cmpR op_le (pv 1) pe_int (nomark _)) (pss_one (ps_ret pe_str)) pss_nil)
      (pss_one (ps_ret pe_str))))))), ?_⟩
    unfold Bn.flashName at k
    refine ⟨_, rfl, _, _, rfl, rfl, _, rfl, ?_⟩
    by_cases h1 : 20 ≤ l
    · refine iteP (decide_eq_true (by omega)) ?_
      rw [if_pos h1] at k
      exact q_of s_LFl k
    refine iteQ (decide_eq_false (by omega)) ?_
    rw [if_neg h1] at k
    refine ⟨_, rfl, _, _, rfl, rfl, _, rfl, ?_⟩
    by_cases h2 : e ≤ 3
    · refine iteP (decide_eq_true (by omega)) ?_
      rw [if_pos h2] at k
      exact q_of s_UQ k
    refine iteQ (decide_eq_false (by omega)) ?_
    rw [if_neg h2] at k
    refine ⟨_, rfl, _, _, rfl, rfl, _, rfl, ?_⟩
    by_cases h3 : e ≤ 7
    · refine iteP (decide_eq_true (by omega)) ?_
      rw [if_pos h3] at k
      exact q_of s_VQ k
    refine iteQ (decide_eq_false (by omega)) ?_
    rw [if_neg h3] at k
    refine ⟨_, rfl, _, _, rfl, rfl, _, rfl, ?_⟩
    by_cases h4 : e ≤ 12
    · refine iteP (decide_eq_true (by omega)) ?_
      rw [if_pos h4] at k
      exact q_of s_Q k
    refine iteQ (decide_eq_false (by omega)) ?_
    rw [if_neg h4] at k
    exact q_of s_Fl k
abbrev s_kind_of_one : Stmt := top 37
theorem sc_kind_of_one : FnScope ["light", "dark"] ["light", "dark"] (defScope s_kind_of_one) := ⟨rfl, rfl, rfl, by decide +kernel, rfl, by decide +kernel, by decide +kernel⟩
def spOne : Sp := fun vs H Q _ => ∃ l d : Nat, vs = [.int ((l : Nat) : Int), .int ((d : Nat) : Int)] ∧ Q (.str (sb (Bn.darkName [(l, d)]))) H
theorem ok_kind_of_one {f : Addr} {fd : FuncData} (F : Fun K "kind_of_one" "kind_of_one" s_kind_of_one f fd) (T : Txt K mg) (G_flash_name : Has P w K mg base 1 "flash_name" ["light", "every"] spFlash) : FnOk P w K mg base CX0 2 f fd ["light", "dark"] (spOne) := by
  refine F.ok sc_kind_of_one (fun vs H Q E h => ?_) (fun cdv A outer s H vs Q E hr h => ?_)
  · obtain ⟨l, e, rfl, _⟩ := h
    rfl
  · obtain ⟨l, d, rfl, k⟩ := h
    refine ⟨_, ((pss_cons (ps_if (pt_cmpR op_eq (pv 0) (pv 1) (nomark _)) (pss_one (ps_ret pe_str)) pss_nil)
      (pss_cons (ps_if (pt_cmpR op_gt (pv 0) (pv 1) (nomark _)) (pss_one (ps_ret (pe_gs (by rfl) T.g_OCCULTING))) pss_nil)
      (pss_one (ps_ret (pe_has G_flash_name (hr.mono (by decide)) (by rfl) (pa_cons (pv 0) (pa_cons (pe_op op_add (pv 0) (pv 1)) pa_nil)))))))), ?_⟩
    have ek : Bn.darkName [(l, d)] = if l = d then Bn.ascii "Iso" else if d < l then Bn.ascii "Oc" else Bn.flashName l (l + d) := rfl
    rw [ek] at k
    refine ⟨_, rfl, _, rfl, rfl, _, rfl, ?_⟩
    by_cases h1 : l = d
    · refine iteP (decide_eq_true (by rw [h1])) ?_
      rw [if_pos h1] at k
      exact q_of s_Iso k
    refine iteQ (decide_eq_false (fun e => h1 (by injection e with e; omega))) ?_
    rw [if_neg h1] at k
    refine ⟨_, rfl, _, rfl, _, _, rfl, rfl, _, rfl, ?_⟩
    by_cases h2 : d < l
    · refine iteP (decide_eq_true (by omega)) ?_
      rw [if_pos h2] at k
      exact q_of s_Oc k
    refine iteQ (decide_eq_false (by omega)) ?_
    rw [if_neg h2] at k
    refine ⟨_, rfl, _, rfl, _, rfl, _, _, rfl, rfl, l, l + d, ?_, k⟩
    show [V.int _, V.int _] = _
    rw [Int.natCast_add]
/-! ### sizes_of -/
abbrev s_sizes_of : Stmt := top 38
theorem sc_sizes_of : FnScope ["lengths"] ["lengths"] (defScope s_sizes_of) := ⟨rfl, rfl, rfl, by decide +kernel, rfl, by decide +kernel, by decide +kernel⟩
def spSizes (K : PySem.W.Frag) : Sp := fun vs H Q _ => ∃ a ls, vs = [.ref a] ∧ NsL K H a ls ∧ ls.length ≤ 1000 ∧ ∀ H', Same H H' → Q (.int (((Bn.sizes ls).length : Nat) : Int)) H'
theorem ok_sizes_of {f : Addr} {fd : FuncData} (F : Fun K "sizes_of" "sizes_of" s_sizes_of f fd) (T : Txt K mg) : FnOk P w K mg base CX0 1 f fd ["lengths"] (spSizes K) := by
  refine F.ok sc_sizes_of (fun vs H Q E h => ?_) (fun cdv A outer s H vs Q E hr h => ?_)
  · obtain ⟨a, ls, rfl, _⟩ := h
    rfl
  · obtain ⟨a, ls, rfl, hL, hlen, k⟩ := h
    refine ⟨_, ((pss_one (ps_ret (pe_callB call_lenS (by rfl) T.n_len PySem.boot_len (pa_cons (pe_callTy (cr_set rfl) (by rfl) T.n_set PyProof.Rows.boot_set (pa_cons (pv 0) pa_nil)) pa_nil))))), ?_⟩
    refine ⟨_, rfl, a, nI ls, rfl, hL, by rw [nI, List.length_map]; exact hlen, fun p S hp => ⟨p, S, _, rfl, upd_same, ?_⟩⟩
    rw [kinds_sizes]
    exact k _ (Same.new hp)
/-! ### groups_of -/
abbrev s_groups_of : Stmt := top 39
theorem sc_groups_of : FnScope ["lengths", "longer", "behind", "groups", "count", "length"] ["lengths"] (defScope s_groups_of) := ⟨rfl, rfl, rfl, by decide +kernel, rfl, by decide +kernel, by decide +kernel⟩
def spGroups (K : PySem.W.Frag) : Sp := fun vs H Q _ => ∃ a ls, vs = [.ref a] ∧ NsL K H a ls ∧ ls ≠ [] ∧ ls.length ≤ 1000 ∧ ∀ H' p, Same H H' → NsL K H' p (Bn.groups ls) → Q (.ref p) H'
theorem nI_mem {l : List Nat} {z : Int} (h : z ∈ nI l) : ∃ n, n ∈ l ∧ z = ((n : Nat) : Int) := by
  obtain ⟨n, hn, e⟩ := List.mem_map.mp h
  exact ⟨n, hn, e.symm⟩
theorem mem_nI {l : List Nat} {n : Nat} (h : n ∈ l) : ((n : Nat) : Int) ∈ nI l := List.mem_map.mpr ⟨n, h, rfl⟩
theorem nI_len (l : List Nat) : (nI l).length = l.length := List.length_map _
theorem nIV_len (l : List Nat) : ((nI l).map V.int).length = l.length := by rw [List.length_map, nI_len]
theorem nI_get {l : List Nat} {i n : Nat} (h : l[i]? = some n) : ((nI l).map V.int)[i]? = some (V.int ((n : Nat) : Int)) := by
  unfold nI
  rw [List.map_map, List.getElem?_map, h]
  rfl
theorem get_nI {l : List Nat} {i : Nat} {v : V} (h : ((nI l).map V.int)[i]? = some v) : ∃ n, l[i]? = some n ∧ v = V.int ((n : Nat) : Int) := by
  unfold nI at h
  rw [List.map_map, List.getElem?_map] at h
  obtain ⟨n, hn, e⟩ := Option.map_eq_some_iff.mp h
  exact ⟨n, hn, e.symm⟩
theorem nI_drop (l : List Nat) (k : Nat) : ((nI l).map V.int).drop k = (nI (l.drop k)).map V.int := by
  unfold nI
  rw [List.map_map, List.map_map, List.map_drop]
theorem nI_take (l : List Nat) (k : Nat) : ((nI l).map V.int).take k = (nI (l.take k)).map V.int := by
  unfold nI
  rw [List.map_map, List.map_map, List.map_take]
theorem nI_append (a b : List Nat) : (nI a).map V.int ++ (nI b).map V.int = (nI (a ++ b)).map V.int := by
  unfold nI
  rw [List.map_append, List.map_append]
theorem turns_nums {H : Hp} {gs : List Nat} {ps : List Addr} (hP : Paired (fun q ws => H q = some (.lst ws)) ps ((List.range ((nI gs).map V.int).length).map (turnV ((nI gs).map V.int)))) : Paired (NsL K H) ps ((List.range gs.length).map (Lt.turnN gs)) := by
  rw [nIV_len] at hP
  generalize List.range gs.length = ks at hP
  revert hP
  induction ks generalizing ps with
  | nil =>
    intro hP
    cases hP
    exact .nil
  | cons k ks ih =>
    intro hP
    cases hP with
    | cons e t =>
      refine .cons ?_ (ih t)
      show SqL K H _ _
      refine SqL.of ?_
      rw [e]
      unfold turnV Lt.turnN
      rw [nI_drop, nI_take, nI_append]
theorem ok_groups_of {f : Addr} {fd : FuncData} (F : Fun K "groups_of" "groups_of" s_groups_of f fd) (T : Txt K mg) (G_beginnings_of : Has P w K mg base 1 "beginnings_of" ["row"] (spBeg K)) : FnOk P w K mg base CX0 2 f fd ["lengths"] (spGroups K) := by
  refine F.ok sc_groups_of (fun vs H Q E h => ?_) (fun cdv A outer s H vs Q E hr h => ?_)
  · obtain ⟨a, ls, rfl, _⟩ := h
    rfl
  · obtain ⟨a, ls, rfl, hL, hne, hlen, k⟩ := h
    have hu68 := hr.un
    replace hu68 : (A.deeper (envOfC "groups_of" (defScope s_groups_of) s.heap.objs.size f cdv)).units + 68 < cLine := by omega
    refine ⟨_, ((pss_cons (ps_set (i := 1) sc_groups_of.nd rfl (Or.inl rfl) (pe_callB (cr_max rfl) (by rfl) T.n_max boot_max (pa_cons (pv 0) pa_nil)))
      (pss_cons (ps_set (i := 2) sc_groups_of.nd rfl (Or.inl rfl) (pe_op op_add (pe_bm PySem.F.plainAttrs_list PySem.F.slot_list_index PySem.F.type_list_index mt_index (pv 0) (pa_cons (pv 1) pa_nil)) pe_int))
      (pss_cons (ps_set (i := 3) sc_groups_of.nd rfl (Or.inl rfl) (pe_lst pa_nil))
      (pss_cons (ps_set (i := 4) sc_groups_of.nd rfl (Or.inl rfl) pe_int)
      (pss_cons (ps_for PassesOwn.never rfl (pi_list (pe_op op_cat (pe_slice sl_list (pv 0) (po_some (pv 2)) po_none) (pe_slice sl_list (pv 0) po_none (po_some (pv 2))))) (pg_name (i := 5) sc_groups_of.nd rfl (Or.inl rfl))
      (pss_cons (ps_aug (i := 4) sc_groups_of.nd rfl (Or.inl rfl) pe_int ip_add)
      (pss_one (ps_if (pt_cmpR op_eq (pv 5) (pv 1) (nomark _)) (pss_cons (ps_expr (pe_bm PySem.F.plainAttrs_list PySem.F.slot_list_append PySem.F.type_list_append mt_append (pv 3) (pa_cons (pv 4) pa_nil)))
      (pss_one (ps_set (i := 4) sc_groups_of.nd rfl (Or.inl rfl) pe_int))) pss_nil))))
      (pss_one (ps_ret (pe_callB (cr_maxN rfl hu68) (by rfl) T.n_max boot_max (pa_cons (pe_has G_beginnings_of (hr.mono (by decide)) (by rfl) (pa_cons (pv 3) pa_nil)) pa_nil)))))))))), ?_⟩
    have hpos : 0 < ls.length := List.length_pos_iff.mpr hne
    refine ⟨_, rfl, a, nI ls, rfl, hL, by rw [nI_len]; exact hpos, fun m hm hmax => ?_⟩
    obtain ⟨M, hM, rfl⟩ := nI_mem hm
    have hmaxN : ∀ x ∈ ls, x ≤ M := fun x hx => by
      have := hmax _ (mem_nI hx)
      omega
    have eM : ls.foldl max 0 = M := Lt.max_is hM hmaxN
    obtain ⟨j, hj, hjno⟩ := first_at hM
    obtain ⟨hjl, _⟩ := List.getElem?_eq_some_iff.mp hj
    have hfind : ls.findIdx? (fun x => x == M) = some j := by
      rw [List.findIdx?_eq_some_iff_getElem]
      obtain ⟨h1, h2⟩ := List.getElem?_eq_some_iff.mp hj
      refine ⟨h1, by rw [h2]; exact beq_self_eq_true M, fun i hi => ?_⟩
      have := hjno i hi
      rw [List.getElem?_eq_getElem (by omega)] at this
      intro q
      exact this (by rw [eq_of_beq q])
    have eB : Bn.behindLong M ls = ls.drop (j + 1) ++ ls.take (j + 1) := by
      unfold Bn.behindLong
      rw [hfind]
    refine ⟨_, rfl, .inl ⟨rfl, _, hL⟩, _, rfl, a, _, _, j, _, rfl, rfl, hL, rfl, flat_ints _, nI_get hj, beq_self_eq_true _, ?_, _, _, rfl, rfl, ?_⟩
    · intro i z' hi hz
      obtain ⟨n, hn, rfl⟩ := get_nI hz
      refine beq_eq_false_iff_ne.mpr fun q => hjno i hi ?_
      rw [hn]
      congr 1
      omega
    have ej : V.int (((j : Nat) : Int) + 1) = V.int ((j + 1 : Nat) : Int) := by rw [Int.natCast_add]; rfl
    refine ⟨Nat.zero_le _, fun g hg => ?_⟩
    have s1 : Same H (upd H g (.lst [])) := Same.new hg
    have hg1 : (upd H g (.lst [])) g = some (.lst []) := upd_same
    generalize (upd H g (.lst [])) = H1 at s1 hg1
    refine ⟨_, rfl, _, rfl, _, rfl, a, _, rfl, s1.seq hL, fun q hq => ?_⟩
    have ec1 : cutV ((nI ls).map V.int) (some (((j : Nat) : Int) + 1)) none = (nI (ls.drop (j + 1))).map V.int := by
      rw [show ((j : Nat) : Int) + 1 = ((j + 1 : Nat) : Int) by omega, cut_drop, nI_drop]
    have ec2 : cutV ((nI ls).map V.int) none (some (((j : Nat) : Int) + 1)) = (nI (ls.take (j + 1))).map V.int := by
      rw [show ((j : Nat) : Int) + 1 = ((j + 1 : Nat) : Int) by omega, cut_take, nI_take]
    have eh1 : ∀ cut, cut = (nI (ls.drop (j + 1))).map V.int → upd H1 q (.lst cut) = upd H1 q (.lst ((nI (ls.drop (j + 1))).map V.int)) := fun cut e => by rw [e]
    rw [eh1 _ ec1]
    have s2 : Same H1 (upd H1 q (.lst ((nI (ls.drop (j + 1))).map V.int))) := Same.new hq
    have hq2 : (upd H1 q (.lst ((nI (ls.drop (j + 1))).map V.int))) q = some (.lst ((nI (ls.drop (j + 1))).map V.int)) := upd_same
    generalize (upd H1 q (.lst ((nI (ls.drop (j + 1))).map V.int))) = H2 at s2 hq2
    refine ⟨_, rfl, _, rfl, _, rfl, a, _, rfl, s2.seq (s1.seq hL), fun q3 hq3 => ?_⟩
    have eh2 : ∀ cut, cut = (nI (ls.take (j + 1))).map V.int → upd H2 q3 (.lst cut) = upd H2 q3 (.lst ((nI (ls.take (j + 1))).map V.int)) := fun cut e => by rw [e]
    rw [eh2 _ ec2]
    have s3 : Same H2 (upd H2 q3 (.lst ((nI (ls.take (j + 1))).map V.int))) := Same.new hq3
    have hq33 : (upd H2 q3 (.lst ((nI (ls.take (j + 1))).map V.int))) q3 = some (.lst ((nI (ls.take (j + 1))).map V.int)) := upd_same
    generalize (upd H2 q3 (.lst ((nI (ls.take (j + 1))).map V.int))) = H3 at s3 hq33
    refine ⟨q, q3, _, _, rfl, rfl, s3 _ _ hq2, hq33, ?_, fun q4 hq4 => ?_⟩
    · rw [nIV_len, nIV_len, List.length_drop, List.length_take]
      exact Nat.le_of_lt (small (by omega))
    rw [nI_append, ← eB]
    have s4 : Same H3 (upd H3 q4 (.lst ((nI (Bn.behindLong M ls)).map V.int))) := Same.new hq4
    have hq44 : (upd H3 q4 (.lst ((nI (Bn.behindLong M ls)).map V.int))) q4 = some (.lst ((nI (Bn.behindLong M ls)).map V.int)) := upd_same
    generalize (upd H3 q4 (.lst ((nI (Bn.behindLong M ls)).map V.int))) = H4 at s4 hq44
    have s14 : Same H1 H4 := (s2.trans s3).trans s4
    have hg4 := s14 _ _ hg1
    have ng : g ≠ q4 := fun e => by
      have := s3 _ _ (s2 _ _ hg1)
      rw [e, hq4] at this
      cases this
    have hLl : (Bn.behindLong M ls).length = ls.length := behind_len M ls
    have hinM : M ∈ Bn.behindLong M ls := by
      rw [eB]
      have := List.take_append_drop (j + 1) ls
      rw [← this] at hM
      rcases List.mem_append.mp hM with q | q
      · exact List.mem_append_right _ q
      · exact List.mem_append_left _ q
    have k' : ∀ H' p, Same H H' → NsL K H' p (Bn.greatestTurn (Bn.runsOf M 0 (Bn.behindLong M ls))) → Q (.ref p) H' := by
      intro H' p s5 h5
      refine k H' p s5 ?_
      have : Bn.groups ls = Bn.greatestTurn (Bn.runsOf M 0 (Bn.behindLong M ls)) := by
        unfold Bn.groups
        simp only
        rw [eM]
      rw [this]
      exact h5
    clear k eB hfind
    generalize Bn.behindLong M ls = L at hq44 hLl hinM k'
    refine ⟨q4, rfl, ⟨_, SqL.of hq44⟩, for_list (K := K) (a := q4) (xs := (nI L).map V.int) (fun i σ H' => ∃ (v5 : Option V) (v2 : V) (c : Nat) (gs : List Nat),
        σ = [some (.ref a), some (.int ((M : Nat) : Int)), some v2, some (.ref g), some (.int ((c : Nat) : Int)), v5] ∧ Same H H' ∧ H' g = some (.lst ((nI gs).map V.int)) ∧ H' q4 = some (.lst ((nI L).map V.int)) ∧ Bn.runsOf M 0 L = gs ++ Bn.runsOf M c (L.drop i) ∧ gs.length ≤ i ∧ (M ∈ L.take i → gs ≠ []))
      ⟨none, _, 0, [], rfl, s1.trans s14, hg4, hq44, rfl, Nat.le_refl _, by simp⟩ (fun i σ H' _ ⟨_, _, _, _, _, _, _, h, _⟩ => SqL.of h) ?_ ?_⟩
    · rintro i x σ H' hx ⟨v5, v2, c, gs, rfl, s5, hg5, hq5, er, hgl, hin⟩
      obtain ⟨n, hn, rfl⟩ := get_nI hx
      obtain ⟨hi, en⟩ := List.getElem?_eq_some_iff.mp hn
      have ed : L.drop i = n :: L.drop (i + 1) := by rw [List.drop_eq_getElem_cons hi, en]
      have e2 : Bn.runsOf M c (n :: L.drop (i + 1)) = if n = M then (c + 1) :: Bn.runsOf M 0 (L.drop (i + 1)) else Bn.runsOf M (c + 1) (L.drop (i + 1)) := rfl
      rw [ed, e2] at er
      refine ⟨_, rfl, _, _, rfl, rfl, ?_⟩
      refine ⟨_, rfl, _, rfl, rfl, _, rfl, ?_⟩
      by_cases hnM : n = M
      · refine iteP (decide_eq_true (by rw [hnM])) ?_
        rw [if_pos hnM] at er
        refine ⟨_, rfl, .inl ⟨rfl, _, SqL.of hg5⟩, _, rfl, g, _, _, rfl, rfl, hg5, small (by rw [nIV_len]; omega), ?_⟩
        refine ⟨_, _, 0, gs ++ [c + 1], rfl, s5.put hg, ?_, by rw [upd_ne ng.symm]; exact hq5, by rw [er, List.append_assoc]; rfl, by rw [List.length_append]; show gs.length + 1 ≤ i + 1; omega, fun _ q => by simp at q⟩
        rw [upd_same, ← nI_append]
        show some (HO.lst (_ ++ [V.int (((c : Nat) : Int) + 1)])) = some (HO.lst (_ ++ [V.int ((c + 1 : Nat) : Int)]))
        rw [Int.natCast_add]
        rfl
      · refine iteQ (decide_eq_false (fun e => hnM (by injection e with e; omega))) ?_
        rw [if_neg hnM] at er
        refine ⟨some (.int ((n : Nat) : Int)), v2, c + 1, gs, ?_, s5, hg5, hq5, er, by omega, fun hm => hin ?_⟩
        · rw [Int.natCast_add]
          rfl
        · rw [take_snoc hn] at hm
          rcases List.mem_append.mp hm with q | q
          · exact q
          · exact absurd (List.mem_singleton.mp q).symm hnM
    · rintro σ H' ⟨v5, v2, c, gs, rfl, s5, hg5, hq5, er, hgl, hin⟩
      rw [nIV_len] at er hgl hin
      rw [List.drop_length, show Bn.runsOf M c [] = [] from rfl, List.append_nil] at er
      rw [List.take_length] at hin
      have hgs := hin hinM
      rw [er] at k'
      refine ⟨_, rfl, g, _, rfl, SqL.of hg5, by rw [nIV_len]; omega, fun H6 p6 ps s6 _ hp6 hP6 => ?_⟩
      have hT := turns_nums (K := K) hP6
      refine ⟨p6, ps, _, gs.length, rfl, SqL.of hp6, hT, ?_, ?_, ?_⟩
      · intro q
        have := congrArg List.length q
        rw [List.length_map, List.length_range, List.length_nil] at this
        exact hgs (List.eq_nil_of_length_eq_zero this)
      · intro x hx
        obtain ⟨i, _, rfl⟩ := List.mem_map.mp hx
        exact Lt.turnN_length _ _
      · intro j2 p r hp hr hmax2
        obtain ⟨hj2, ex⟩ := range_map_get _ hr
        obtain ⟨r', hr', hLr⟩ := pr_get hT hp
        rw [hr] at hr'
        cases hr'
        have eg : r = Bn.greatestTurn gs := Lt.greatest_unique ⟨j2, by omega, ex⟩ fun i hi => hmax2 _ (List.mem_map.mpr ⟨i, List.mem_range.mpr hi, rfl⟩)
        rw [eg] at hLr
        exact k' H6 p (s5.trans s6) hLr
end
end Py
end
section
set_option Elab.async false
set_option linter.all false
set_option maxRecDepth 100000
set_option maxHeartbeats 4000000
namespace Py
open PySem PySem.Spec PyProof.Rows L2
open Bn (Rhythm Phase)
theorem op_in_seqK {X : Cx} {K : PySem.W.Frag} (hK : X.K = K) : OpR X (compareOp .In) (rIn K false) := by
  subst hK
  exact op_in_seq
/-! ### the table of letters -/
def morseT : List (Str × Str) := [(".-", "A"), ("-...", "B"), ("-.-.", "C"), ("-..", "D"), (".", "E"), ("..-.", "F"), ("--.", "G"), ("....", "H"), ("..", "I"), (".---", "J"), ("-.-", "K"), (".-..", "L"), ("--", "M"), ("-.", "N"), ("---", "O"), (".--.", "P"), ("--.-", "Q"), (".-.", "R"), ("...", "S"), ("-", "T"), ("..-", "U"), ("...-", "V"), (".--", "W"), ("-..-", "X"), ("-.--", "Y"), ("--..", "Z")]
def morseV : List (Key × V) := morseT.map fun p => (Sum.inr p.1, V.str p.2)
def MorIs (P : Program) (w : World) (K : PySem.W.Frag) (a : Addr) : Prop := (a == sysModules) = false ∧ ∃ vs : List (Key × Value), KV morseV vs ∧ ∀ h : Heap, K.In h → h.DictOf (mixKind P w) a vs
def GMor (P : Program) (w : World) (K : PySem.W.Frag) (mg : Str → Option Value) : Prop := ∃ a, mg "MORSE" = some (.ref a) ∧ MorIs P w K a
def tDGetM (ty tx : TE) : TE := fun σ H Q => ty σ H fun y H2 => tx σ H2 fun z H3 => ∃ k, y = .str k ∧ Q ((valV morseV (Sum.inr k)).getD z) H3
theorem pe_dgetM {X : Cx} {a : Addr} {e f : Expr} {p apos cpos : Pos} {ty tx : TE} (hg : Gl X "MORSE") (hm : X.mg "MORSE" = some (.ref a)) (mor : MorIs X.prog X.w X.K a) (he : PE X e ty) (hf : PE X f tx)
    (m : M2 X (.Name "MORSE" p) "get" apos e f cpos) : PE X (.Call (.Attribute (.Name "MORSE" p) "get" apos) [e, f] [] cpos) (tDGetM ty tx) := by
  intro pins s σ H Q I h
  obtain ⟨hsm, vs, rel, dof⟩ := mor
  have ho : PE X (.Name "MORSE" p) (tC (.ref a)) := pe_gr hg hm
  refine wpAny_Call_method m.base m.few m.line PySem.F.plainAttrs_dict PySem.F.slot_dict_get PySem.F.type_dict_get (thn (ho pins s σ H (fun x H1 => x = .ref a ∧ tDGetM ty tx σ H1 Q) I ⟨rfl, h⟩) fun u s1 ⟨x, H1, I1, rx, ex, q1⟩ => ?_)
  subst ex
  obtain rfl : u = Value.ref a := rx
  have dd := dof s1.heap I1.kIn
  refine ⟨dd.typeIs, fun b eb => ?_, ?_⟩
  · cases eb
    obtain ⟨o, es, ep, h1, h2, _⟩ := dd
    exact ⟨o, h1, h2.2.1⟩
  rw [m.trees]
  refine Calls.callWith_builtin rfl (Calls.evalArgs_plain (Calls.spliced_cons (thn (he pins s1 σ H1 _ I1 q1) fun iv s2 ⟨y, H2, I2, ry, q2⟩ =>
    Calls.spliced_cons (thn (hf pins s2 σ H2 _ I2 q2) fun fv s3 ⟨z, H3, I3, rz, k, ek, q3⟩ => Calls.spliced_nil ?_))))
  subst ek
  have dd3 := dof s3.heap I3.kIn
  have ry' : RelV (kV (Sum.inr k)) iv := ry
  refine call_meetsIn PySem.F.slot_dict_get dd3.typeIs PySem.F.entry_dict_get (PySem.F.args_dict_get_3 _ _ _) (meets_dict_get_default (mixKind X.prog X.w) a (kV_is ry') hsm fv) ⟨_, dd3.mapOf, ⟨_, H3, I3.tok _, ?_, q3⟩⟩
  exact (rel.val (Sum.inr k)).getD rz
/-! ### signs -/
def signB (l : List Nat) : Bn.Bytes := l.map fun b => if b = 0 then 46 else 45
theorem signB_inj : ∀ {a b : List Nat}, (∀ x ∈ a, x ≤ 1) → (∀ x ∈ b, x ≤ 1) → signB a = signB b → a = b
  | [], [], _, _, _ => rfl
  | [], _ :: _, _, _, h => by cases h
  | _ :: _, [], _, _, h => by cases h
  | x :: a, y :: b, ha, hb, h => by
    have hx := ha x (by simp)
    have hy := hb y (by simp)
    unfold signB at h
    rw [List.map_cons, List.map_cons] at h
    injection h with h1 h2
    have e := signB_inj (a := a) (b := b) (fun z hz => ha z (by simp [hz])) (fun z hz => hb z (by simp [hz])) h2
    rw [e]
    congr 1
    by_cases hx0 : x = 0
    · by_cases hy0 : y = 0
      · omega
      · rw [if_pos hx0, if_neg hy0] at h1
        cases h1
    · by_cases hy0 : y = 0
      · rw [if_neg hx0, if_pos hy0] at h1
        cases h1
      · omega
theorem morseV_eq : morseV = (Bn.MORSE.zipIdx 65).map fun p => ((Sum.inr (sb (signB p.1)) : Key), V.str (sb [UInt8.ofNat p.2])) := by decide +kernel
theorem morse_bits : ∀ c ∈ Bn.MORSE, ∀ x ∈ c, x ≤ 1 := by decide
def letB (o : Option Nat) : Bn.Bytes := match o with
  | none => []
  | some k => [UInt8.ofNat (65 + k)]
theorem find_letters {bits : List Nat} (hb : ∀ x ∈ bits, x ≤ 1) : ∀ (cs : List (List Nat)) (n : Nat), (∀ c ∈ cs, ∀ x ∈ c, x ≤ 1) →
    (valV ((cs.zipIdx n).map fun p => ((Sum.inr (sb (signB p.1)) : Key), V.str (sb [UInt8.ofNat p.2]))) (Sum.inr (sb (signB bits)))) = (cs.findIdx? fun c => c == bits).map fun k => V.str (sb [UInt8.ofNat (n + k)])
  | [], _, _ => rfl
  | c :: cs, n, h => by
    have ih := find_letters hb cs (n + 1) fun c hc => h c (by simp [hc])
    rw [List.zipIdx_cons, List.map_cons, List.findIdx?_cons]
    unfold valV at ih ⊢
    rw [List.find?_cons]
    by_cases e : c = bits
    · subst e
      have : decide ((Sum.inr (sb (signB c)) : Key) = Sum.inr (sb (signB c))) = true := decide_eq_true rfl
      simp only [this, beq_self_eq_true, if_true]
      rfl
    · have h1 : decide ((Sum.inr (sb (signB c)) : Key) = Sum.inr (sb (signB bits))) = false := decide_eq_false fun q => by
        injection q with q
        exact e (signB_inj (h c (by simp)) hb (sb_inj q))
      have h2 : (c == bits) = false := beq_eq_false_iff_ne.mpr e
      simp only [h1, h2, Bool.false_eq_true, if_false]
      rw [ih]
      cases cs.findIdx? (fun c => c == bits) with
      | none => rfl
      | some k =>
        show some (V.str (sb [UInt8.ofNat (n + 1 + k)])) = some (V.str (sb [UInt8.ofNat (n + (k + 1))]))
        rw [show n + 1 + k = n + (k + 1) by omega]
theorem morse_get {bits : List Nat} (hb : ∀ x ∈ bits, x ≤ 1) : (valV morseV (Sum.inr (sb (signB bits)))).getD (.str (sb [])) = V.str (sb (letB (Bn.MORSE.findIdx? fun c => c == bits))) := by
  rw [morseV_eq, find_letters hb Bn.MORSE 65 morse_bits]
  cases Bn.MORSE.findIdx? (fun c => c == bits) with
  | none => rfl
  | some k => rfl
section
variable {P : Program} {w : World} {K : PySem.W.Frag} {mg : Str → Option Value} {base : Heap} {C : Addr}
/-! ### grouped -/
abbrev s_grouped : Stmt := top 40
theorem sc_grouped : FnScope ["name", "lengths", "groups", "group"] ["name", "lengths"] (defScope s_grouped) := ⟨rfl, rfl, rfl, by decide +kernel, rfl, by decide +kernel, by decide +kernel⟩
def spGrouped (K : PySem.W.Frag) : Sp := fun vs H Q _ => ∃ (b : Bn.Bytes) (a : Addr) (ls : List Nat), vs = [.str (sb b), .ref a] ∧ NsL K H a ls ∧ b.length ≤ 100 ∧ ls ≠ [] ∧ ls.length ≤ 1000 ∧ ∀ H', Same H H' → Q (.str (sb (Bn.grouped b ls))) H'
theorem ok_grouped {f : Addr} {fd : FuncData} (F : Fun K "grouped" "grouped" s_grouped f fd) (T : Txt K mg) (G_groups_of : Has P w K mg base 2 "groups_of" ["lengths"] (spGroups K)) : FnOk P w K mg base CX0 3 f fd ["name", "lengths"] (spGrouped K) := by
  refine F.ok sc_grouped (fun vs H Q E h => ?_) (fun cdv A outer s H vs Q E hr h => ?_)
  · obtain ⟨b, a, ls, rfl, _⟩ := h
    rfl
  · obtain ⟨b, a, ls, rfl, hL, hb, hne, hlen, k⟩ := h
    refine ⟨_, ((pss_cons (ps_set (i := 2) sc_grouped.nd rfl (Or.inl rfl) (pe_join pe_str (pe_lc rfl sc_grouped.nd (pi_list (pe_has G_groups_of (hr.mono (by decide)) (by rfl) (pa_cons (pv 1) pa_nil))) (blkOk_by (own := [("group", 3)]) (by kernel_rfl)) (fun _ _ _ _ _ => (pg_name (i := 3) sc_grouped.nd rfl (Or.inl rfl))) (fun _ _ _ _ _ => pts_nil) (fun _ _ _ _ _ => (pe_callTy call_str_int (by rfl) T.n_str PyProof.Rows.boot_str (pa_cons (pv 3) pa_nil))))))
      (pss_one (ps_ret (pe_fstr (pj_cons (pf_str (pv 0)) (pj_cons pf_con (pj_cons (pf_str (pv 2)) (pj_cons pf_con pj_nil))))))))), ?_⟩
    obtain ⟨gl1, gl2⟩ := groups_le ls
    have gdec : ∀ x ∈ Bn.groups ls, (Bn.decimal x).length ≤ 7 := fun x hx => decimal_len (by have := gl1 x hx; omega)
    have gsum := Lt.plusses_len gdec
    refine ⟨⟨_, rfl⟩, _, rfl, a, ls, rfl, hL, hne, hlen, fun H1 p s1 hp => ⟨p, rfl, ⟨_, hp⟩, fun D hD => ?_⟩⟩
    refine lc_list (K := K) (a := p) (xs := (nI (Bn.groups ls)).map V.int) (fun i H' => Same H1 H' ∧ H' D = some (.lst ((((Bn.groups ls).take i).map fun n => sb (Bn.decimal n)).map V.str))) ⟨Same.new hD, upd_same⟩ (fun i H' _ h => h.1.seq hp) ?_ ?_
    · rintro i x H' hx ⟨s2, hd⟩
      obtain ⟨n, hn, rfl⟩ := get_nI hx
      have hnl := gl1 n (List.mem_of_getElem? hn)
      refine ⟨rfl, ?_⟩
      refine ⟨_, rfl, _, rfl, log_small (by omega), _, hd, ?_, s2.put hD, ?_⟩
      · rw [List.length_map, List.length_map, List.length_take]
        exact small (by omega)
      · rw [upd_same, take_snoc hn, List.map_append, List.map_append, str_nat]
        rfl
    · rintro H' ⟨s2, hd⟩
      rw [nIV_len, List.take_length] at hd
      have hd' : H' D = some (.lst ((((Bn.groups ls).map Bn.decimal).map sb).map V.str)) := by
        rw [hd, List.map_map, List.map_map, List.map_map]
        rfl
      refine ⟨("+" : Str), D, ((Bn.groups ls).map Bn.decimal).map sb, rfl, rfl, .inl (SqL.of hd'), ?_, ?_⟩
      · have := sumlen (bs := (Bn.groups ls).map Bn.decimal) (n := 7) fun x hx => by
          obtain ⟨n, hn, rfl⟩ := List.mem_map.mp hx
          exact gdec n hn
        rw [List.length_map] at this
        rw [List.length_map, List.length_map, s_plus, sb_length]
        show _ + _ * 1 ≤ _
        omega
      · rw [s_plus, join_sb, joinB_plus]
        have sz : ∀ c : Bn.Bytes, c.length ≤ 100000 → (sb c).length ≤ sizeLine := fun c hc => sb_small (by omega)
        have e1 : Str.empty ++ sb b = sb b := by rw [s_empty, sb_append]; rfl
        refine ⟨_, rfl, _, rfl, sz b (by omega), by rw [e1]; exact sz b (by omega), ?_⟩
        rw [e1]
        rw [s_open, s_close]
        refine ⟨by rw [sb_append]; exact sz _ (by rw [List.length_append]; show b.length + 1 ≤ _; omega), ?_⟩
        rw [sb_append]
        refine ⟨_, rfl, _, rfl, sz _ (by omega), by rw [sb_append]; exact sz _ (by rw [List.length_append, List.length_append]; show b.length + 1 + _ ≤ _; omega), ?_⟩
        rw [sb_append]
        refine ⟨by rw [sb_append]; exact sz _ (by rw [List.length_append, List.length_append, List.length_append]; show b.length + 1 + _ + 1 ≤ _; omega), ?_⟩
        rw [sb_append]
        refine ⟨sz _ (by rw [List.length_append, List.length_append, List.length_append]; show b.length + 1 + _ + 1 ≤ _; omega), ?_⟩
        have ek : Bn.grouped b ls = b ++ [40] ++ Bn.plusses (Bn.groups ls) ++ [41] := by
          unfold Bn.grouped
          simp
        rw [ek] at k
        exact k H' (s1.trans s2)
/-! ### seconds_of, kind_with_colours -/
abbrev s_seconds_of : Stmt := top 46
theorem sc_seconds_of : FnScope ["period", "whole", "tenths"] ["period"] (defScope s_seconds_of) := ⟨rfl, rfl, rfl, by decide +kernel, rfl, by decide +kernel, by decide +kernel⟩
def spSeconds : Sp := fun vs H Q _ => ∃ n : Nat, vs = [.int ((n : Nat) : Int)] ∧ n < 10000000 ∧ Q (.str (sb (Bn.seconds n))) H
theorem dec_digit {n : Nat} (h : n < 10) : Bn.decimal n = [UInt8.ofNat (48 + n)] := Lt.decimal_small h
theorem ok_seconds_of {f : Addr} {fd : FuncData} (F : Fun K "seconds_of" "seconds_of" s_seconds_of f fd) (T : Txt K mg) : FnOk P w K mg base CX0 1 f fd ["period"] (spSeconds) := by
  refine F.ok sc_seconds_of (fun vs H Q E h => ?_) (fun cdv A outer s H vs Q E hr h => ?_)
  · obtain ⟨n, rfl, _⟩ := h
    rfl
  · obtain ⟨n, rfl, hn, k⟩ := h
    refine ⟨_, ((pss_cons (ps_set (i := 1) sc_seconds_of.nd rfl (Or.inl rfl) (pe_op op_fdiv (pv 0) pe_int))
      (pss_cons (ps_set (i := 2) sc_seconds_of.nd rfl (Or.inl rfl) (pe_op op_mod (pv 0) pe_int))
      (pss_cons (ps_if (pt_cmpR op_eq (pv 2) pe_int (nomark _)) (pss_one (ps_ret (pe_fstr (pj_cons (pf_int (pv 1)) (pj_cons pf_con pj_nil))))) pss_nil)
      (pss_one (ps_ret (pe_fstr (pj_cons (pf_int (pv 1)) (pj_cons pf_con (pj_cons (pf_int (pv 2)) (pj_cons pf_con pj_nil))))))))))), ?_⟩
    refine ⟨_, rfl, _, _, rfl, rfl, ⟨by decide, by decide⟩, ?_⟩
    refine ⟨_, rfl, _, _, rfl, rfl, (by show (0 : Int) < 10; decide), ?_⟩
    have ed : ((n : Nat) : Int) / 10 = ((n / 10 : Nat) : Int) := by omega
    have em : ((n : Nat) : Int) % 10 = ((n % 10 : Nat) : Int) := by omega
    have d1 := decimal_len (n := n / 10) (by omega)
    have d2 : (Bn.decimal (n % 10)).length = 1 := by rw [dec_digit (Nat.mod_lt _ (by decide))]; rfl
    have sz : ∀ c : Bn.Bytes, c.length ≤ 100000 → (sb c).length ≤ sizeLine := fun c hc => sb_small (by omega)
    have e1 : ∀ c, Str.empty ++ sb c = sb c := fun c => by rw [s_empty, sb_append]; rfl
    have t1 : ∀ z : Int, z = ((n / 10 : Nat) : Int) → Str.ofString (toString z) = sb (Bn.decimal (n / 10)) := fun z e => by rw [e, str_nat]
    have t2 : ∀ z : Int, z = ((n % 10 : Nat) : Int) → Str.ofString (toString z) = sb (Bn.decimal (n % 10)) := fun z e => by rw [e, str_nat]
    unfold Bn.seconds at k
    refine ⟨_, rfl, rfl, _, rfl, ?_⟩
    by_cases h0 : n % 10 = 0
    · refine iteP (decide_eq_true (by show V.int (((n : Nat) : Int) % 10) = V.int 0; rw [em, h0]; rfl)) ?_
      rw [if_pos h0] at k
      refine ⟨_, rfl, _, rfl, by show (((n : Nat) : Int) / 10).natAbs.log2 < 1920; rw [ed]; exact log_small (by omega), ?_⟩
      rw [t1 _ ed]
      show (Str.empty ++ sb (Bn.decimal (n / 10))).length ≤ sizeLine ∧ _
      rw [e1, s_s]
      refine ⟨sz _ (by omega), ?_⟩
      show (sb _ ++ sb _).length ≤ _ ∧ _
      rw [sb_append]
      refine ⟨sz _ (by rw [List.length_append]; show _ + 1 ≤ _; omega), ?_⟩
      exact ⟨sz _ (by rw [List.length_append]; show _ + 1 ≤ _; omega), k⟩
    · refine iteQ (decide_eq_false (by show ¬ V.int (((n : Nat) : Int) % 10) = V.int 0; rw [em]; intro e; injection e with e; omega)) ?_
      rw [if_neg h0] at k
      refine ⟨_, rfl, _, rfl, by show (((n : Nat) : Int) / 10).natAbs.log2 < 1920; rw [ed]; exact log_small (by omega), ?_⟩
      rw [t1 _ ed]
      show (Str.empty ++ sb (Bn.decimal (n / 10))).length ≤ sizeLine ∧ _
      rw [e1, s_s, s_dot]
      refine ⟨sz _ (by omega), ?_⟩
      show (sb _ ++ sb _).length ≤ _ ∧ _
      rw [sb_append]
      refine ⟨sz _ (by rw [List.length_append]; show _ + 1 ≤ _; omega), ?_⟩
      refine ⟨_, rfl, _, rfl, by show (((n : Nat) : Int) % 10).natAbs.log2 < 1920; rw [em]; exact log_small (by omega), ?_⟩
      rw [t2 _ em]
      show (sb _ ++ sb _).length ≤ _ ∧ _
      rw [sb_append]
      refine ⟨sz _ (by rw [List.length_append, List.length_append]; show _ + 1 + _ ≤ _; omega), ?_⟩
      show (sb _ ++ sb _).length ≤ _ ∧ _
      rw [sb_append]
      refine ⟨sz _ (by rw [List.length_append, List.length_append, List.length_append]; show _ + 1 + _ + 1 ≤ _; omega), ?_⟩
      refine ⟨sz _ (by rw [List.length_append, List.length_append, List.length_append]; show _ + 1 + _ + 1 ≤ _; omega), ?_⟩
      have ek : Bn.decimal (n / 10) ++ [46] ++ Bn.decimal (n % 10) ++ [115] = Bn.decimal (n / 10) ++ [46, UInt8.ofNat (48 + n % 10), 115] := by
        rw [dec_digit (Nat.mod_lt n (by decide))]
        simp
      rw [ek]
      exact k
abbrev s_kind_with_colours : Stmt := top 44
theorem sc_kind_with_colours : FnScope ["kind", "letters"] ["kind", "letters"] (defScope s_kind_with_colours) := ⟨rfl, rfl, rfl, by decide +kernel, rfl, by decide +kernel, by decide +kernel⟩
def kindCol (kd l : Bn.Bytes) : Bn.Bytes := if l.length = 1 then kd else if kd = Bn.ascii "F" then Bn.ascii "Al" else Bn.ascii "Al " ++ kd
def spKindCol : Sp := fun vs H Q _ => ∃ kd l : Bn.Bytes, vs = [.str (sb kd), .str (sb l)] ∧ kd.length ≤ 100000 ∧ l.length ≤ 100 ∧ Q (.str (sb (kindCol kd l))) H
theorem ok_kind_with_colours {f : Addr} {fd : FuncData} (F : Fun K "kind_with_colours" "kind_with_colours" s_kind_with_colours f fd) (T : Txt K mg) : FnOk P w K mg base CX0 1 f fd ["kind", "letters"] (spKindCol) := by
  refine F.ok sc_kind_with_colours (fun vs H Q E h => ?_) (fun cdv A outer s H vs Q E hr h => ?_)
  · obtain ⟨a, b, rfl, _⟩ := h
    rfl
  · obtain ⟨kd, l, rfl, hkd, hl, k⟩ := h
    refine ⟨_, ((pss_cons (ps_if (pt_cmpR op_eq (pe_callB call_len_str (by rfl) T.n_len PySem.boot_len (pa_cons (pv 1) pa_nil)) pe_int (nomark _)) (pss_one (ps_ret (pv 0))) pss_nil)
      (pss_cons (ps_if (pt_cmpR op_eq (pv 0) (pe_gs (by rfl) T.g_FIXED) (nomark _)) (pss_one (ps_ret pe_str)) pss_nil)
      (pss_one (ps_ret (pe_fstr (pj_cons pf_con (pj_cons (pf_str (pv 0)) pj_nil)))))))), ?_⟩
    unfold kindCol at k
    refine ⟨_, rfl, sb l, rfl, sb_small (by omega), rfl, _, rfl, ?_⟩
    rw [sb_length]
    by_cases h1 : l.length = 1
    · refine iteP (decide_eq_true (by rw [h1]; rfl)) ?_
      rw [if_pos h1] at k
      exact ⟨_, rfl, k⟩
    refine iteQ (decide_eq_false (fun e => h1 (by injection e with e; omega))) ?_
    rw [if_neg h1] at k
    refine ⟨_, rfl, rfl, _, rfl, ?_⟩
    rw [s_F]
    by_cases h2 : kd = Bn.ascii "F"
    · refine iteP (decide_eq_true (by rw [h2])) ?_
      rw [if_pos h2] at k
      exact q_of s_Al k
    refine iteQ (decide_eq_false (fun e => h2 (by injection e with e; exact sb_inj e))) ?_
    rw [if_neg h2] at k
    have e1 : ∀ c, Str.empty ++ sb c = sb c := fun c => by rw [s_empty, sb_append]; rfl
    show (Str.empty ++ _).length ≤ _ ∧ _
    rw [s_Alb, e1]
    refine ⟨sb_small (by decide), _, rfl, _, rfl, sb_small (by omega), ?_⟩
    show (sb _ ++ sb _).length ≤ _ ∧ _
    rw [sb_append]
    have hz : (Bn.ascii "Al " ++ kd).length ≤ 1000000 := by
      rw [List.length_append]
      show 3 + _ ≤ _
      omega
    exact ⟨sb_small hz, sb_small hz, k⟩
end
end Py
end
section
set_option Elab.async false
set_option linter.all false
set_option maxRecDepth 100000
set_option maxHeartbeats 4000000
namespace Py
open PySem PySem.Spec PyProof.Rows L2
open Bn (Rhythm Phase)
theorem s_W : ("W" : Str) = sb [87] := by decide +kernel
theorem s_R : ("R" : Str) = sb [82] := by decide +kernel
theorem s_G : ("G" : Str) = sb [71] := by decide +kernel
theorem s_Y : ("Y" : Str) = sb [89] := by decide +kernel
theorem s_short : ("." : Str) = sb [46] := by decide +kernel
theorem s_long : ("-" : Str) = sb [45] := by decide +kernel
def lets : List (Nat × UInt8) := [(1, 87), (2, 82), (3, 71), (4, 89)]
def hasC (r : Rhythm) (c : Nat) : Bool := r.any fun (x : Phase) => x.1 == c
def letsB (r : Rhythm) : Bn.Bytes := (Bn.colours r).map fun (c : Nat) => Bn.LETTERS.getD c 45
theorem lets_eq (r : Rhythm) : (lets.filter fun l => hasC r l.1).map (fun l => l.2) = letsB r := by
  have e : lets = ([1, 2, 3, 4] : List Nat).map fun c => (c, Bn.LETTERS.getD c 45) := by decide
  rw [e, List.filter_map, List.map_map]
  rfl
theorem lets_len (r : Rhythm) : (letsB r).length ≤ 4 := by
  unfold letsB Bn.colours
  rw [List.length_map]
  exact List.length_filter_le _ _
theorem lets_nil (r : Rhythm) : letsB r = [] ↔ Bn.colours r = [] := by
  unfold letsB
  exact List.map_eq_nil_iff
theorem has_inV (r : Rhythm) (c : Nat) : inV (.int ((c : Nat) : Int)) (r.map fun x => V.int ((x.1 : Nat) : Int)) = hasC r c := by
  unfold inV hasC
  rw [List.any_map]
  congr 1
  funext x
  show (((x.1 : Nat) : Int) == ((c : Nat) : Int)) = (x.1 == c)
  by_cases h : x.1 = c
  · rw [h]; simp
  · rw [beq_eq_false_iff_ne.mpr h, beq_eq_false_iff_ne]
    omega
theorem join_flat (bs : List Bn.Bytes) : PySem.Txt.join ("" : Str) (bs.map sb) = sb bs.flatten := by
  rw [s_none, join_sb, joinB_none]
theorem flat_one {α : Type} (g : α → UInt8) (l : List α) : (l.map fun x => [g x]).flatten = l.map g := by
  induction l with
  | nil => rfl
  | cons x l ih =>
    rw [List.map_cons, List.flatten_cons, ih]
    rfl
section
variable {P : Program} {w : World} {K : PySem.W.Frag} {mg : Str → Option Value} {base : Heap} {C : Addr}
/-! ### letters_of -/
abbrev s_letters_of : Stmt := top 45
theorem sc_letters_of : FnScope ["form", "present", "colour", "length", "letter"] ["form"] (defScope s_letters_of) := ⟨rfl, rfl, rfl, by decide +kernel, rfl, by decide +kernel, by decide +kernel⟩
def spLetters (K : PySem.W.Frag) : Sp := fun vs H Q _ => ∃ a r, vs = [.ref a] ∧ RhyL K H a r ∧ r.length ≤ 10000 ∧ ∀ H', Same H H' → Q (.str (sb (letsB r))) H'
theorem ok_letters_of {f : Addr} {fd : FuncData} (F : Fun K "letters_of" "letters_of" s_letters_of f fd) (T : Txt K mg) : FnOk P w K mg base CX0 1 f fd ["form"] (spLetters K) := by
  refine F.ok sc_letters_of (fun vs H Q E h => ?_) (fun cdv A outer s H vs Q E hr h => ?_)
  · obtain ⟨a, r, rfl, _⟩ := h
    rfl
  · obtain ⟨a, r, rfl, ⟨us, hL, hV⟩, hlen, k⟩ := h
    obtain ⟨aL, as, mL, hKL, hPL⟩ := T.g_LETTERS
    have hP : Paired (fun b (l : Nat × UInt8) => KT K b [.int ((l.1 : Nat) : Int), .str (sb [l.2])]) as lets := by
      cases hPL with
      | cons h1 t =>
        cases t with
        | cons h2 t =>
          cases t with
          | cons h3 t =>
            cases t with
            | cons h4 t =>
              cases t
              rw [s_W] at h1
              rw [s_R] at h2
              rw [s_G] at h3
              rw [s_Y] at h4
              exact .cons h1 (.cons h2 (.cons h3 (.cons h4 .nil)))
    refine ⟨_, ((pss_cons (ps_set (i := 1) sc_letters_of.nd rfl (Or.inr rfl) (pe_lc rfl sc_letters_of.nd (pi_list (pv 0)) (blkOk_by (own := [("colour", 2), ("length", 3)]) (by kernel_rfl)) (fun _ _ _ _ _ => (pg_tupK (K := K) (n := 2) rfl rfl (pgs_cons (pg_name (i := 2) sc_letters_of.nd rfl (Or.inl rfl)) (pgs_cons (pg_name (i := 3) sc_letters_of.nd rfl (Or.inl rfl)) pgs_nil)))) (fun _ _ _ _ _ => pts_nil) (fun _ _ _ _ _ => (pv 2))))
      (pss_one (ps_ret (pe_join pe_str (pe_lc rfl sc_letters_of.nd (pi_tup (pe_gr (by rfl) mL)) (blkOk_by (own := [("colour", 2), ("letter", 4)]) (by kernel_rfl)) (fun _ _ _ _ _ => (pg_tupK (K := K) (n := 2) rfl rfl (pgs_cons (pg_name (i := 2) sc_letters_of.nd rfl (Or.inl rfl)) (pgs_cons (pg_name (i := 4) sc_letters_of.nd rfl (Or.inl rfl)) pgs_nil)))) (fun _ _ _ _ _ => (pts_one (pt_cmpR (op_in_seqK (K := K) rfl) (pv 2) (pv 1) (by with_unfolding_all rfl)))) (fun _ _ _ _ _ => (pv 4)))))))), ?_⟩
    have hul : us.length = r.length := hV.length
    refine ⟨_, rfl, a, rfl, ⟨_, hL⟩, fun D hD => ?_⟩
    refine lc_list (K := K) (a := a) (xs := us) (fun i H' => Same H H' ∧ H' D = some (.lst ((r.take i).map fun x => V.int ((x.1 : Nat) : Int)))) ⟨Same.new hD, upd_same⟩ (fun i H' _ h => h.1.seq hL) ?_ ?_
    · rintro i x H' hx ⟨s1, hd⟩
      obtain ⟨y, hy, ⟨c, rfl, hc⟩⟩ := pr_get hV hx
      obtain ⟨hi, _⟩ := List.getElem?_eq_some_iff.mp hy
      refine ⟨c, _, rfl, s1.tup hc, rfl, _, _, rfl, _, _, rfl, rfl, rfl, ?_⟩
      refine ⟨_, rfl, _, hd, small (by rw [List.length_map, List.length_take]; omega), s1.put hD, ?_⟩
      rw [upd_same, take_snoc hy, List.map_append]
      rfl
    · rintro H1 ⟨s1, hd⟩
      rw [hul, List.take_length] at hd
      have hfl : ((r.map fun x => V.int ((x.1 : Nat) : Int))).all flatV = true := by
        rw [List.all_eq_true]
        intro v hv
        obtain ⟨n, _, rfl⟩ := List.mem_map.mp hv
        rfl
      refine ⟨⟨_, rfl⟩, aL, rfl, ⟨_, SqT_kt hKL⟩, fun D2 hD2 => ?_⟩
      refine lc_tup (K := K) (a := aL) (xs := as.map V.ref) (fun i H' => Same H1 H' ∧ H' D2 = some (.lst ((((lets.take i).filter fun l => hasC r l.1).map fun l => sb [l.2]).map V.str))) ⟨Same.new hD2, upd_same⟩ (fun i H' _ h => SqT_kt hKL) ?_ ?_
      · rintro i x H' hx ⟨s2, hd2⟩
        rw [List.getElem?_map] at hx
        obtain ⟨b, hb, rfl⟩ := Option.map_eq_some_iff.mp hx
        obtain ⟨l, hl, hKb⟩ := pr_get hP hb
        have hil : i < 4 := (List.getElem?_eq_some_iff.mp hl).1
        refine ⟨b, _, rfl, SqT_kt hKb, rfl, _, _, rfl, _, _, rfl, rfl, rfl, ?_⟩
        refine ⟨_, rfl, _, rfl, D, _, rfl, .inl (SqL.of (s2 _ _ hd)), rfl, hfl, _, rfl, ?_⟩
        have ef : (lets.take (i + 1)).filter (fun l => hasC r l.1) = (lets.take i).filter (fun l => hasC r l.1) ++ if hasC r l.1 = true then [l] else [] := by
          rw [take_snoc hl, List.filter_append]
          congr 1
          by_cases h0 : hasC r l.1 = true
          · rw [if_pos h0, List.filter_cons_of_pos (p := fun l : Nat × UInt8 => hasC r l.1) h0]
            rfl
          · rw [if_neg h0, List.filter_cons_of_neg (p := fun l : Nat × UInt8 => hasC r l.1) h0]
            rfl
        by_cases h0 : hasC r l.1 = true
        · refine iteP (by rw [← has_inV] at h0; exact h0) ?_
          refine ⟨_, rfl, _, hd2, ?_, s2.put hD2, ?_⟩
          · rw [List.length_map, List.length_map]
            exact small (Nat.le_trans (List.length_filter_le _ _) (by rw [List.length_take]; omega))
          · rw [upd_same, ef, if_pos h0, List.map_append, List.map_append]
            rfl
        · refine iteQ (by rw [← has_inV] at h0; exact Bool.eq_false_iff.mpr h0) ?_
          refine ⟨s2, ?_⟩
          rw [ef, if_neg h0, List.append_nil]
          exact hd2
      · rintro H2 ⟨s2, hd2⟩
        have hal : as.length = 4 := hP.length
        rw [List.length_map, hal] at hd2
        have hd3 : H2 D2 = some (.lst ((((lets.filter fun l => hasC r l.1).map fun l => [l.2]).map sb).map V.str)) := by
          rw [hd2, List.map_map, List.map_map, List.map_map]
          rfl
        refine ⟨("" : Str), D2, _, rfl, rfl, .inl (SqL.of hd3), ?_, ?_⟩
        · have := sumlen (bs := (lets.filter fun l => hasC r l.1).map fun l => [l.2]) (n := 1) fun x hx => by
            obtain ⟨n, hn, rfl⟩ := List.mem_map.mp hx
            exact Nat.le_refl _
          rw [List.length_map] at this
          have h4 : (lets.filter fun l => hasC r l.1).length ≤ 4 := List.length_filter_le _ _
          rw [List.length_map, List.length_map, s_none, sb_length]
          show _ + _ * 0 ≤ _
          omega
        · rw [join_flat, flat_one, lets_eq]
          exact k H2 (s1.trans s2)
/-! ### letter_of -/
abbrev s_letter_of : Stmt := top 41
theorem sc_letter_of : FnScope ["lights", "darks", "short", "gaps", "place", "signs", "dark", "light"] ["lights", "darks"] (defScope s_letter_of) := ⟨rfl, rfl, rfl, by decide +kernel, rfl, by decide +kernel, by decide +kernel⟩
def spLetter (K : PySem.W.Frag) : Sp := fun vs H Q _ => ∃ a b ls ds, vs = [.ref a, .ref b] ∧ NsL K H a ls ∧ NsL K H b ds ∧ ls.length = ds.length ∧ ls ≠ [] ∧ ls.length ≤ 1000 ∧ (∀ x ∈ ls, 1 ≤ x ∧ x ≤ 6000) ∧
  ∀ H', Same H H' → Q (.str (sb (letB (Bn.morse (ls.zip (Lt.turn1 ds)))))) H'
theorem ok_letter_of {f : Addr} {fd : FuncData} (F : Fun K "letter_of" "letter_of" s_letter_of f fd) (T : Txt K mg) (GM : GMor P w K mg) : FnOk P w K mg base CX0 1 f fd ["lights", "darks"] (spLetter K) := by
  refine F.ok sc_letter_of (fun vs H Q E h => ?_) (fun cdv A outer s H vs Q E hr h => ?_)
  · obtain ⟨a, b, ls, ds, rfl, _⟩ := h
    rfl
  · obtain ⟨a, b, ls, ds, rfl, hLa, hLb, hll, hne, hlen, hpos, k⟩ := h
    obtain ⟨aM, mM, hMor⟩ := GM
    refine ⟨_, ((pss_cons (ps_set (i := 2) sc_letter_of.nd rfl (Or.inr rfl) (pe_callB (cr_min rfl) (by rfl) T.n_min boot_min (pa_cons (pv 0) pa_nil)))
      (pss_cons (ps_setLc (i := 3) rfl sc_letter_of.nd rfl rfl (sw_true rfl rfl rfl (by decide +kernel)) (pi_enum rfl T.n_enumerate (pa_cons (pv 1) pa_nil)) (blkOk_by (own := [("place", 4), ("dark", 6)]) (by kernel_rfl)) (fun _ _ _ _ _ => (pg_tupK (K := K) (n := 2) rfl rfl (pgs_cons (pg_name (i := 4) sc_letter_of.nd rfl (Or.inl rfl)) (pgs_cons (pg_name (i := 6) sc_letter_of.nd rfl (Or.inl rfl)) pgs_nil)))) (fun _ _ _ _ _ => (pts_one (pt_cmpR op_ge (pv 6) (pe_op op_mul pe_int (pv 2)) (nomark _)))) (fun _ _ _ _ _ => (pv 4)))
      (pss_cons (ps_if (pw_or (pt_cmpR op_ne (pe_callB call_len_seq (by rfl) T.n_len PySem.boot_len (pa_cons (pv 3) pa_nil)) pe_int (nomark _)) (pw_or1 (pt_cmpR op_ne (pe_bm PySem.F.plainAttrs_list PySem.F.slot_list_count PySem.F.type_list_count mt_countL (pv 1) (pa_cons (pv 2) pa_nil)) (pe_op op_sub (pe_callB call_len_seq (by rfl) T.n_len PySem.boot_len (pa_cons (pv 1) pa_nil)) pe_int) (nomark _)))).pt (pss_one (ps_ret pe_str)) pss_nil)
      (pss_cons (ps_if (pt_not (pt_val (pe_callB (cr_all rfl) (by rfl) T.n_all boot_all (pa_cons (pe_lc rfl sc_letter_of.nd (pi_list (pv 0)) (blkOk_by (own := [("light", 7)]) (by kernel_rfl)) (fun _ _ _ _ _ => (pg_name (i := 7) sc_letter_of.nd rfl (Or.inl rfl))) (fun _ _ _ _ _ => pts_nil) (fun _ _ _ _ _ => (pe_cmpR (op_in_seqK (K := K) rfl) (pv 7) (pe_tup (pa_cons (pv 2) (pa_cons (pe_op op_mul pe_int (pv 2)) pa_nil))) (by with_unfolding_all rfl)))) pa_nil)))) (pss_one (ps_ret pe_str)) pss_nil)
      (pss_cons (ps_set (i := 4) sc_letter_of.nd rfl (Or.inl rfl) (pe_ix ix_list (pv 3) pe_int (fun _ _ => rfl)))
      (pss_cons (ps_set (i := 5) sc_letter_of.nd rfl (Or.inl rfl) (pe_join pe_str (pe_lc rfl sc_letter_of.nd (pi_list (pe_op op_cat (pe_slice sl_list (pv 0) (po_some (pv 4)) po_none) (pe_slice sl_list (pv 0) po_none (po_some (pv 4))))) (blkOk_by (own := [("light", 7)]) (by kernel_rfl)) (fun _ _ _ _ _ => (pg_name (i := 7) sc_letter_of.nd rfl (Or.inl rfl))) (fun _ _ _ _ _ => pts_nil) (fun _ _ _ _ _ => (pe_ifExp (pt_cmpR op_eq (pv 7) (pv 2) (nomark _)) pe_str pe_str)))))
      (pss_one (ps_ret (pe_dgetM (by rfl) mM hMor (pv 5) pe_str ⟨rfl, rfl, rfl, rfl⟩)))))))))), ?_⟩
    have hl0 : 0 < ls.length := List.length_pos_iff.mpr hne
    refine ⟨_, rfl, a, nI ls, rfl, hLa, by rw [nI_len]; exact hl0, fun m hm hmin => ?_⟩
    obtain ⟨A0, hA, rfl⟩ := nI_mem hm
    have hminN : ∀ x ∈ ls, A0 ≤ x := fun x hx => by
      have := hmin _ (mem_nI hx)
      omega
    obtain ⟨hA1, hA6⟩ := hpos A0 hA
    have eA : ls.foldl min Bn.ROUND = A0 := Lt.min_is hA hminN hA6
    have knone : ∀ H', Same H H' → (¬ ∃ u g v, Lt.OneGap A0 ds u g v) → Q (.str ("" : Str)) H' := fun H' s1 hno => by
      have := k H' s1
      rw [Lt.morse_none hll eA hno] at this
      exact q_of s_none this
    refine ⟨_, rfl, b, _, rfl, hLb, fun D hD => ?_⟩
    refine lc_enum (K := K) (a := b) (xs := (nI ds).map V.int) (fun i H' => Same H H' ∧ H' D = some (.lst ((nI (Lt.gapsFrom A0 0 (ds.take i))).map V.int)) ∧ (Lt.gapsFrom A0 0 (ds.take i)).length ≤ i) ⟨Same.new hD, upd_same, Nat.le_refl _⟩ (fun i H' _ h => h.1.seq hLb) ?_ ?_
    · rintro i x H' t hx ⟨s1, hd, hgl⟩ ht
      obtain ⟨d, hdd, rfl⟩ := get_nI hx
      obtain ⟨hi, _⟩ := List.getElem?_eq_some_iff.mp hdd
      have s2 : Same H (upd H' t (.tup [.int ((i : Nat) : Int), .int ((d : Nat) : Int)])) := s1.put (s1.free ht)
      have hd2 : (upd H' t (.tup [.int ((i : Nat) : Int), .int ((d : Nat) : Int)])) D = some (.lst ((nI (Lt.gapsFrom A0 0 (ds.take i))).map V.int)) := by
        rw [upd_ne (ne_of_none hd ht)]
        exact hd
      refine ⟨t, _, rfl, SqT.of upd_same, rfl, _, _, rfl, _, _, rfl, rfl, rfl, ?_⟩
      refine ⟨_, rfl, _, rfl, _, _, rfl, rfl, .inl ⟨by decide, by decide⟩, _, _, rfl, rfl, _, rfl, ?_⟩
      have eg : Lt.gapsFrom A0 0 (ds.take (i + 1)) = Lt.gapsFrom A0 0 (ds.take i) ++ if 3 * A0 ≤ d then [i] else [] := by
        rw [take_snoc hdd, Lt.gaps_snoc, List.length_take, Nat.min_eq_left (by omega), Nat.zero_add]
      by_cases h3 : 3 * A0 ≤ d
      · refine iteP (decide_eq_true (by show (3 : Int) * ((A0 : Nat) : Int) ≤ _; omega)) ?_
        rw [eg, if_pos h3]
        refine ⟨_, rfl, _, hd2, small (by rw [nIV_len]; omega), s2.put hD, ?_, by rw [List.length_append]; show _ + 1 ≤ _; omega⟩
        rw [upd_same, ← nI_append]
        rfl
      · refine iteQ (decide_eq_false (by show ¬ ((3 : Int) * ((A0 : Nat) : Int) ≤ _); omega)) ?_
        rw [eg, if_neg h3, List.append_nil]
        exact ⟨s2, hd2, by omega⟩
    · rintro H1 ⟨s1, hd, hgl⟩
      rw [nIV_len, List.take_length] at hd hgl
      refine ⟨_, rfl, D, _, rfl, .inl (SqL.of hd), rfl, _, rfl, ?_⟩
      rw [nIV_len]
      by_cases hg1 : ¬ (Lt.gapsFrom A0 0 ds).length = 1
      · refine iteP (by rw [decide_eq_false (fun e : V.int (((Lt.gapsFrom A0 0 ds).length : Nat) : Int) = V.int 1 => hg1 (by injection e with e; omega))]; rfl) ?_
        refine iteP rfl ?_
        refine knone H1 s1 ?_
        rintro ⟨u, g, v, o⟩
        obtain ⟨o1, _⟩ := Lt.gap_is hA1 o
        rw [o1] at hg1
        exact hg1 rfl
      replace hg1 := Decidable.of_not_not hg1
      refine iteQ (by rw [hg1]; rfl) ?_
      refine ⟨_, rfl, .inl ⟨rfl, _, s1.seq hLb⟩, _, rfl, b, nI ds, _, rfl, rfl, s1.seq hLb, _, rfl, b, _, rfl, .inl (s1.seq hLb), _, _, rfl, rfl, rfl, _, rfl, ?_⟩
      have ecnt : (nI ds).count ((A0 : Nat) : Int) = ds.count A0 := by
        unfold nI
        rw [List.count_eq_countP, List.count_eq_countP, List.countP_map]
        congr 1
        funext x
        show (((x : Nat) : Int) == ((A0 : Nat) : Int)) = (x == A0)
        by_cases h : x = A0
        · rw [h]; simp
        · rw [beq_eq_false_iff_ne.mpr h, beq_eq_false_iff_ne]
          omega
      rw [nIV_len, ecnt]
      by_cases hc : ¬ ds.count A0 + 1 = ds.length
      · refine iteP (by rw [decide_eq_false (fun e : V.int ((ds.count A0 : Nat) : Int) = V.int (((ds.length : Nat) : Int) - 1) => hc (by injection e with e; omega))]; rfl) ?_
        refine knone H1 s1 ?_
        rintro ⟨u, g, v, o⟩
        obtain ⟨_, o2⟩ := Lt.gap_is hA1 o
        exact hc o2
      replace hc := Decidable.of_not_not hc
      refine iteQ (by rw [decide_eq_true (show V.int ((ds.count A0 : Nat) : Int) = V.int (((ds.length : Nat) : Int) - 1) by congr 1; omega)]; rfl) ?_
      obtain ⟨u, g, v, o, eg⟩ := Lt.gap_of hA1 0 ds hg1 hc
      rw [Nat.zero_add] at eg
      rw [eg] at hd
      rw [Lt.morse_gap hll hA1 eA o] at k
      -- all lights
      refine ⟨_, rfl, a, rfl, ⟨_, s1.seq hLa⟩, fun D2 hD2 => ?_⟩
      refine lc_list (K := K) (a := a) (xs := (nI ls).map V.int) (fun i H' => Same H1 H' ∧ H' D2 = some (.lst (((ls.take i).map (Lt.okLit A0)).map V.bl))) ⟨Same.new hD2, upd_same⟩ (fun i H' _ h => h.1.seq (s1.seq hLa)) ?_ ?_
      · rintro i x H' hx ⟨s2, hd2⟩
        obtain ⟨l, hl, rfl⟩ := get_nI hx
        obtain ⟨hi, _⟩ := List.getElem?_eq_some_iff.mp hl
        refine ⟨rfl, ?_⟩
        refine ⟨_, rfl, _, rfl, _, rfl, _, _, rfl, rfl, .inl ⟨by decide, by decide⟩, (by show 2 ≤ sizeLine; decide), fun t ht => ?_⟩
        refine ⟨t, _, rfl, .inr (SqT.of upd_same), rfl, rfl, ((ls.take i).map (Lt.okLit A0)).map V.bl, ?_, small (by rw [List.length_map, List.length_map, List.length_take]; omega), (s2.put (s2.free ht)).put hD2, ?_⟩
        · rw [upd_ne (ne_of_none hd2 ht)]
          exact hd2
        · rw [upd_same, take_snoc hl, List.map_append, List.map_append]
          show some (HO.lst (_ ++ [V.bl (((A0 : Nat) : Int) == ((l : Nat) : Int) || ((3 : Int) * ((A0 : Nat) : Int) == ((l : Nat) : Int) || false))])) = some (HO.lst (_ ++ [V.bl (Lt.okLit A0 l)]))
          have eo : (((A0 : Nat) : Int) == ((l : Nat) : Int) || ((3 : Int) * ((A0 : Nat) : Int) == ((l : Nat) : Int) || false)) = Lt.okLit A0 l := by
            unfold Lt.okLit
            rw [Bool.or_false]
            apply Bool.eq_iff_iff.mpr
            rw [Bool.or_eq_true, Bool.or_eq_true, beq_iff_eq, beq_iff_eq, beq_iff_eq, beq_iff_eq]
            omega
          rw [eo]
      · rintro H2 ⟨s2, hd2⟩
        rw [nIV_len, List.take_length] at hd2
        refine ⟨D2, ls.map (Lt.okLit A0), rfl, SqL.of hd2, _, rfl, ?_⟩
        have eall : (ls.map (Lt.okLit A0)).all id = ls.all (Lt.okLit A0) := by
          rw [List.all_map]
          rfl
        rw [eall]
        by_cases hok : ¬ ls.all (Lt.okLit A0) = true
        · refine iteP (by rw [Bool.eq_false_iff.mpr hok]; rfl) ?_
          rw [if_neg hok] at k
          exact q_of s_none (k H2 (s1.trans s2))
        replace hok := Decidable.of_not_not hok
        refine iteQ (by rw [hok]; rfl) ?_
        rw [if_pos hok] at k
        refine ⟨_, rfl, D, _, _, _, rfl, rfl, SqL.of (s2 _ _ hd), atI_nat (j := 0) rfl, ?_⟩
        have s3 := s1.trans s2
        refine ⟨⟨_, rfl⟩, _, rfl, _, rfl, _, rfl, a, _, rfl, s3.seq hLa, fun q hq => ?_⟩
        rw [cut_drop, nI_drop]
        have s4 := s3.put (s3.free hq) (o := .lst ((nI (ls.drop u.length)).map V.int))
        have hq4 : (upd H2 q (.lst ((nI (ls.drop u.length)).map V.int))) q = some (.lst ((nI (ls.drop u.length)).map V.int)) := upd_same
        generalize (upd H2 q (.lst ((nI (ls.drop u.length)).map V.int))) = H4 at s4 hq4
        refine ⟨_, rfl, _, rfl, _, rfl, a, _, rfl, s4.seq hLa, fun q5 hq5 => ?_⟩
        rw [cut_take, nI_take]
        have s5 := s4.put (s4.free hq5) (o := .lst ((nI (ls.take u.length)).map V.int))
        refine ⟨q, q5, _, _, rfl, rfl, by rw [upd_ne (ne_of_none hq4 hq5)]; exact hq4, upd_same, ?_, fun q6 hq6 => ?_⟩
        · rw [nIV_len, nIV_len, List.length_drop, List.length_take]
          exact Nat.le_of_lt (small (by omega))
        have s6 := s5.put (s5.free hq6) (o := .lst ((nI (ls.drop u.length)).map V.int ++ (nI (ls.take u.length)).map V.int))
        rw [nI_append] at s6 ⊢
        have etn : ls.drop u.length ++ ls.take u.length = Lt.turnN ls u.length := rfl
        rw [etn] at s6 ⊢
        have hq7 : (upd (upd H4 q5 (.lst ((nI (ls.take u.length)).map V.int))) q6 (.lst ((nI (Lt.turnN ls u.length)).map V.int))) q6 = some (.lst ((nI (Lt.turnN ls u.length)).map V.int)) := upd_same
        generalize (upd (upd H4 q5 (.lst ((nI (ls.take u.length)).map V.int))) q6 (.lst ((nI (Lt.turnN ls u.length)).map V.int))) = H6 at s6 hq7
        have htl := Lt.turnN_length ls u.length
        generalize Lt.turnN ls u.length = tl at hq7 htl k
        refine ⟨q6, rfl, ⟨_, SqL.of hq7⟩, fun D3 hD3 => ?_⟩
        refine lc_list (K := K) (a := q6) (xs := (nI tl).map V.int) (fun i H' => Same H6 H' ∧ H' D3 = some (.lst ((((Lt.bitsOf A0 (tl.take i)).map fun b => [if b = 0 then (46 : UInt8) else 45]).map sb).map V.str))) ⟨Same.new hD3, upd_same⟩ (fun i H' _ h => SqL.of (h.1 _ _ hq7)) ?_ ?_
        · rintro i x H' hx ⟨s7, hd7⟩
          obtain ⟨l, hl, rfl⟩ := get_nI hx
          obtain ⟨hi, _⟩ := List.getElem?_eq_some_iff.mp hl
          have eb : Lt.bitsOf A0 (tl.take (i + 1)) = Lt.bitsOf A0 (tl.take i) ++ [if l = A0 then 0 else 1] := by
            unfold Lt.bitsOf
            rw [take_snoc hl, List.map_append]
            rfl
          have ebl : (Lt.bitsOf A0 (tl.take i)).length ≤ i := by
            unfold Lt.bitsOf
            rw [List.length_map, List.length_take]
            omega
          refine ⟨rfl, ?_⟩
          refine ⟨_, rfl, _, rfl, rfl, _, rfl, ?_⟩
          by_cases hlA : l = A0
          · refine iteP (decide_eq_true (by rw [hlA])) ?_
            refine ⟨_, hd7, small (by rw [List.length_map, List.length_map, List.length_map]; omega), s7.put hD3, ?_⟩
            rw [upd_same, eb, if_pos hlA, List.map_append, List.map_append, List.map_append, s_short]
            rfl
          · refine iteQ (decide_eq_false (fun e => hlA (by injection e with e; omega))) ?_
            refine ⟨_, hd7, small (by rw [List.length_map, List.length_map, List.length_map]; omega), s7.put hD3, ?_⟩
            rw [upd_same, eb, if_neg hlA, List.map_append, List.map_append, List.map_append, s_long]
            rfl
        · rintro H7 ⟨s7, hd7⟩
          rw [nIV_len, List.take_length] at hd7
          have hbl : (Lt.bitsOf A0 tl).length ≤ 1000 := by
            unfold Lt.bitsOf
            rw [List.length_map]
            omega
          refine ⟨("" : Str), D3, _, rfl, rfl, .inl (SqL.of hd7), ?_, ?_⟩
          · have := sumlen (bs := (Lt.bitsOf A0 tl).map fun b => [if b = 0 then (46 : UInt8) else 45]) (n := 1) fun x hx => by
              obtain ⟨n, hn, rfl⟩ := List.mem_map.mp hx
              exact Nat.le_refl _
            rw [List.length_map] at this
            rw [List.length_map, List.length_map, s_none, sb_length]
            show _ + _ * 0 ≤ _
            omega
          · rw [join_flat, flat_one]
            refine ⟨_, rfl, _, rfl, ?_⟩
            have hbits : ∀ x ∈ Lt.bitsOf A0 tl, x ≤ 1 := by
              intro x hx
              unfold Lt.bitsOf at hx
              obtain ⟨y, _, rfl⟩ := List.mem_map.mp hx
              split <;> omega
            rw [s_none]
            show Q ((valV morseV (Sum.inr (sb (signB (Lt.bitsOf A0 tl))))).getD (.str (sb []))) H7
            rw [morse_get hbits]
            exact k H7 (s6.trans s7)
end
end Py
end
section
set_option Elab.async false
set_option linter.all false
set_option maxRecDepth 100000
set_option maxHeartbeats 4000000
namespace Py
open PySem PySem.Spec PyProof.Rows L2
open Bn (Rhythm Phase)
theorem nI_sum : ∀ l : List Nat, (nI l).sum = ((l.sum : Nat) : Int)
  | [] => rfl
  | x :: l => by
    show ((x : Nat) : Int) + (nI l).sum = _
    rw [nI_sum l, List.sum_cons, Int.natCast_add]
section
variable {P : Program} {w : World} {K : PySem.W.Frag} {mg : Str → Option Value} {base : Heap} {C : Addr}
/-! ### kind_of_more -/
abbrev s_kind_of_more : Stmt := top 42
theorem sc_kind_of_more : FnScope ["lights", "darks", "letter"] ["lights", "darks"] (defScope s_kind_of_more) := ⟨rfl, rfl, rfl, by decide +kernel, rfl, by decide +kernel, by decide +kernel⟩
def spMore (K : PySem.W.Frag) : Sp := fun vs H Q _ => ∃ a b ls ds, vs = [.ref a, .ref b] ∧ NsL K H a ls ∧ NsL K H b ds ∧ ls.length = ds.length ∧ ls ≠ [] ∧ ls.length ≤ 1000 ∧ (∀ x ∈ ls, 1 ≤ x ∧ x ≤ 6000) ∧ (∀ x ∈ ds, 1 ≤ x ∧ x ≤ 6000) ∧
  ∀ H', Same H H' → Q (.str (sb (Bn.manyName (ls.zip (Lt.turn1 ds))))) H'
theorem least_in : ∀ {l : List Nat}, l ≠ [] → ∃ m, m ∈ l ∧ ∀ x ∈ l, m ≤ x
  | [], h => absurd rfl h
  | [x], _ => ⟨x, by simp, fun y hy => by simp at hy; omega⟩
  | x :: y :: l, _ => by
    obtain ⟨m, h1, h2⟩ := least_in (l := y :: l) (by simp)
    by_cases h : x ≤ m
    · exact ⟨x, by simp, fun z hz => by
        rcases List.mem_cons.mp hz with q | q
        · omega
        · have := h2 z q
          omega⟩
    · exact ⟨m, List.mem_cons_of_mem _ h1, fun z hz => by
        rcases List.mem_cons.mp hz with q | q
        · omega
        · exact h2 z q⟩
theorem more_rest {f : Addr} (T : Txt K mg) (G_letter_of : Has P w K mg base 1 "letter_of" ["lights", "darks"] (spLetter K))
    (cdv : Value) (A : Around) (outer : List Env) (s : Shared) (H : Hp) (E : XK) (hr : Room 3 (A.deeper (envOfC "kind_of_more" (defScope s_kind_of_more) s.heap.objs.size f cdv))) :
    ∃ t, PSs (cxOf CX0 P w K mg base ["lights", "darks", "letter"] "kind_of_more" (defScope s_kind_of_more) f cdv A outer s H E).nox ((defBody s_kind_of_more).drop 2) t ∧
      ∀ (Q : VK) (a b : Addr) (ls ds : List Nat) (H1 : Hp), Same H H1 → NsL K H a ls → NsL K H b ds → ls.length = ds.length → ls ≠ [] → ls.length ≤ 1000 → (∀ x ∈ ls, 1 ≤ x ∧ x ≤ 6000) →
        (∀ H', Same H H' → Q (.str (sb (match Bn.morse (ls.zip (Lt.turn1 ds)) with | some k => Bn.ascii "Mo(" ++ [UInt8.ofNat (65 + k), 41] | none => Bn.ascii "Ir"))) H') →
        t { nx := fun _ H' => Q .non H', rt := Q } [some (.ref a), some (.ref b), none] H1 := by
  refine ⟨_, (pss_cons (ps_set (i := 2) sc_kind_of_more.nd rfl (Or.inl rfl) (pe_has G_letter_of (hr.mono (by decide)) (by rfl) (pa_cons (pv 0) (pa_cons (pv 1) pa_nil))))
      (pss_cons (ps_if (pt_cmpR op_eq (pv 2) pe_str (nomark _)) (pss_one (ps_ret pe_str)) pss_nil)
      (pss_one (ps_ret (pe_fstr (pj_cons pf_con (pj_cons (pf_str (pv 2)) (pj_cons pf_con pj_nil)))))))), ?_⟩
  intro Q a b ls ds H1 s1 hLa hLb hll hne hlen hpl k
  refine ⟨_, rfl, _, rfl, a, b, ls, ds, rfl, (s1).seq hLa, (s1).seq hLb, hll, hne, hlen, hpl, fun H3 s3 => ?_⟩
  refine ⟨_, rfl, rfl, _, rfl, ?_⟩
  rw [s_none]
  cases hmo : Bn.morse (ls.zip (Lt.turn1 ds)) with
  | none =>
    rw [hmo] at k
    refine iteP (decide_eq_true rfl) ?_
    exact q_of s_Ir (k H3 ((s1).trans s3))
  | some n =>
    rw [hmo] at k
    refine iteQ (decide_eq_false (by intro e; injection e with e; have := sb_inj e; cases this)) ?_
    have e1 : ∀ c, Str.empty ++ sb c = sb c := fun c => by rw [s_empty, sb_append]; rfl
    show (Str.empty ++ _).length ≤ _ ∧ _
    rw [s_Mo, s_close, e1]
    refine ⟨sb_small (by decide), _, rfl, _, rfl, sb_small (by show 1 ≤ _; decide), ?_⟩
    show (sb _ ++ sb _).length ≤ _ ∧ _
    rw [sb_append]
    refine ⟨sb_small (by show 3 + 1 ≤ _; decide), ?_⟩
    show (sb _ ++ sb _).length ≤ _ ∧ _
    rw [sb_append]
    refine ⟨sb_small (by show 3 + 1 + 1 ≤ _; decide), sb_small (by show 3 + 1 + 1 ≤ _; decide), ?_⟩
    have ek : Bn.ascii "Mo(" ++ letB (some n) ++ [41] = Bn.ascii "Mo(" ++ [UInt8.ofNat (65 + n), 41] := by
      rw [List.append_assoc]
      rfl
    rw [ek]
    exact k H3 ((s1).trans s3)
theorem ok_kind_of_more {f : Addr} {fd : FuncData} (F : Fun K "kind_of_more" "kind_of_more" s_kind_of_more f fd) (T : Txt K mg) (G_sizes_of : Has P w K mg base 1 "sizes_of" ["lengths"] (spSizes K)) (G_grouped : Has P w K mg base 3 "grouped" ["name", "lengths"] (spGrouped K)) (G_flash_name : Has P w K mg base 1 "flash_name" ["light", "every"] spFlash) (G_letter_of : Has P w K mg base 1 "letter_of" ["lights", "darks"] (spLetter K)) : FnOk P w K mg base CX0 4 f fd ["lights", "darks"] (spMore K) := by
  refine F.ok sc_kind_of_more (fun vs H Q E h => ?_) (fun cdv A outer s H vs Q E hr h => ?_)
  · obtain ⟨a, b, ls, ds, rfl, _⟩ := h
    rfl
  · obtain ⟨a, b, ls, ds, rfl, hLa, hLb, hll, hne, hlen, hpl, hpd, k⟩ := h
    obtain ⟨t2, P2, R2⟩ := more_rest (f := f) T G_letter_of cdv A outer s H E hr
    refine ⟨_, pss_cons (ps_if (pw_and (pt_cmpR op_eq (pe_has G_sizes_of (hr.mono (by decide)) (by rfl) (pa_cons (pv 0) pa_nil)) pe_int (nomark _)) (pw_and1 (pt_cmpR op_eq (pe_has G_sizes_of (hr.mono (by decide)) (by rfl) (pa_cons (pv 1) pa_nil)) pe_int (nomark _)))).pt (pss_one (ps_ret (pe_has G_grouped (hr.mono (by decide)) (by rfl) (pa_cons (pe_has G_flash_name (hr.mono (by decide)) (by rfl) (pa_cons (pe_ix ix_list (pv 0) pe_int (fun _ _ => rfl)) (pa_cons (pe_op op_add (pe_ix ix_list (pv 0) pe_int (fun _ _ => rfl)) (pe_callB (cr_min rfl) (by rfl) T.n_min boot_min (pa_cons (pv 1) pa_nil))) pa_nil))) (pa_cons (pv 1) pa_nil))))) pss_nil) (pss_cons (ps_if (pw_and (pt_cmpR op_eq (pe_has G_sizes_of (hr.mono (by decide)) (by rfl) (pa_cons (pv 1) pa_nil)) pe_int (nomark _)) (pw_and (pt_cmpR op_eq (pe_has G_sizes_of (hr.mono (by decide)) (by rfl) (pa_cons (pv 0) pa_nil)) pe_int (nomark _)) (pw_and1 (pt_cmpR op_ge (pe_callB (cr_sum rfl) (by rfl) T.n_sum boot_sum (pa_cons (pv 0) pa_nil)) (pe_callB (cr_sum rfl) (by rfl) T.n_sum boot_sum (pa_cons (pv 1) pa_nil)) (nomark _))))).pt (pss_one (ps_ret (pe_has G_grouped (hr.mono (by decide)) (by rfl) (pa_cons (pe_gs (by rfl) T.g_OCCULTING) (pa_cons (pv 0) pa_nil))))) pss_nil) P2), ?_⟩
    have hnd : ds ≠ [] := fun e => hne (List.eq_nil_of_length_eq_zero (by rw [hll, e]; rfl))
    obtain ⟨M, hM, hMin⟩ := least_in hnd
    have hM6 := (hpd M hM).2
    rw [Lt.many_eq hll hM hMin hM6] at k
    refine ⟨_, rfl, a, ls, rfl, hLa, by omega, fun H1 s1 => ?_⟩
    refine ⟨rfl, _, rfl, ?_⟩
    by_cases p1 : (Bn.sizes ls).length = 1
    · refine iteP (decide_eq_true (by rw [p1]; rfl)) ?_
      refine ⟨_, rfl, b, ds, rfl, s1.seq hLb, by omega, fun H2 s2 => ?_⟩
      refine ⟨rfl, _, rfl, ?_⟩
      have s12 := s1.trans s2
      by_cases p2 : (Bn.sizes ds).length = 2
      · refine iteP (decide_eq_true (by rw [p2]; rfl)) ?_
        rw [if_pos ⟨p1, p2⟩] at k
        cases ls with
        | nil => exact absurd rfl hne
        | cons l0 ls =>
          refine ⟨_, rfl, a, _, _, _, rfl, rfl, s12.seq hLa, atI_nat (j := 0) rfl, _, rfl, a, _, _, _, rfl, rfl, s12.seq hLa, atI_nat (j := 0) rfl, _, rfl, b, nI ds, rfl, s12.seq hLb, by rw [nI_len]; exact List.length_pos_iff.mpr hnd, fun m hm hmin => ?_⟩
          obtain ⟨M', hM', rfl⟩ := nI_mem hm
          have e1 : M' = M := by
            have x1 := hMin M' hM'
            have x2 := hmin _ (mem_nI hM)
            omega
          subst e1
          refine ⟨_, _, rfl, rfl, l0, l0 + M', ?_, ?_⟩
          · show [V.int _, V.int _] = _
            rw [Int.natCast_add]
          refine ⟨_, rfl, _, b, ds, rfl, s12.seq hLb, ?_, hnd, by omega, fun H6 s6 => ?_⟩
          · have := (Lt.flash_ne l0 (l0 + M')).2
            omega
          · exact k H6 (s12.trans s6)
      · refine iteQ (decide_eq_false (fun e => p2 (by injection e with e; omega))) ?_
        rw [if_neg (fun q => p2 q.2)] at k
        refine ⟨_, rfl, b, ds, rfl, (s12).seq hLb, by omega, fun H4 s4 => ?_⟩
        refine ⟨rfl, _, rfl, ?_⟩
        by_cases q1 : (Bn.sizes ds).length = 1
        · refine iteP (decide_eq_true (by rw [q1]; rfl)) ?_
          refine ⟨_, rfl, a, ls, rfl, ((s12).trans s4).seq hLa, by omega, fun H5 s5 => ?_⟩
          refine ⟨rfl, _, rfl, ?_⟩
          by_cases q2 : (Bn.sizes ls).length = 2
          · refine iteP (decide_eq_true (by rw [q2]; rfl)) ?_
            have s15 := ((s12).trans s4).trans s5
            refine ⟨_, rfl, a, nI ls, rfl, s15.seq hLa, _, rfl, b, nI ds, rfl, s15.seq hLb, _, _, rfl, rfl, _, rfl, ?_⟩
            rw [nI_sum, nI_sum]
            by_cases q3 : ds.sum ≤ ls.sum
            · refine iteP (decide_eq_true (by omega)) ?_
              rw [if_pos ⟨q1, q2, q3⟩] at k
              rw [s_Oc]
              refine ⟨_, rfl, Bn.ascii "Oc", a, ls, rfl, s15.seq hLa, by decide, hne, hlen, fun H6 s6 => ?_⟩
              exact k H6 (s15.trans s6)
            · refine iteQ (decide_eq_false (by omega)) ?_
              rw [if_neg (fun q => q3 q.2.2)] at k
              exact R2 Q a b ls ds _ (s15) hLa hLb hll hne hlen hpl k
          · refine iteQ (decide_eq_false (fun e => q2 (by injection e with e; omega))) ?_
            refine iteQ rfl ?_
            rw [if_neg (fun q => q2 q.2.1)] at k
            exact R2 Q a b ls ds _ (((s12).trans s4).trans s5) hLa hLb hll hne hlen hpl k
        · refine iteQ (decide_eq_false (fun e => q1 (by injection e with e; omega))) ?_
          refine iteQ rfl ?_
          rw [if_neg (fun q => q1 q.1)] at k
          exact R2 Q a b ls ds _ ((s12).trans s4) hLa hLb hll hne hlen hpl k
    · refine iteQ (decide_eq_false (fun e => p1 (by injection e with e; omega))) ?_
      refine iteQ rfl ?_
      rw [if_neg (fun q => p1 q.1)] at k
      refine ⟨_, rfl, b, ds, rfl, (s1).seq hLb, by omega, fun H4 s4 => ?_⟩
      refine ⟨rfl, _, rfl, ?_⟩
      by_cases q1 : (Bn.sizes ds).length = 1
      · refine iteP (decide_eq_true (by rw [q1]; rfl)) ?_
        refine ⟨_, rfl, a, ls, rfl, ((s1).trans s4).seq hLa, by omega, fun H5 s5 => ?_⟩
        refine ⟨rfl, _, rfl, ?_⟩
        by_cases q2 : (Bn.sizes ls).length = 2
        · refine iteP (decide_eq_true (by rw [q2]; rfl)) ?_
          have s15 := ((s1).trans s4).trans s5
          refine ⟨_, rfl, a, nI ls, rfl, s15.seq hLa, _, rfl, b, nI ds, rfl, s15.seq hLb, _, _, rfl, rfl, _, rfl, ?_⟩
          rw [nI_sum, nI_sum]
          by_cases q3 : ds.sum ≤ ls.sum
          · refine iteP (decide_eq_true (by omega)) ?_
            rw [if_pos ⟨q1, q2, q3⟩] at k
            rw [s_Oc]
            refine ⟨_, rfl, Bn.ascii "Oc", a, ls, rfl, s15.seq hLa, by decide, hne, hlen, fun H6 s6 => ?_⟩
            exact k H6 (s15.trans s6)
          · refine iteQ (decide_eq_false (by omega)) ?_
            rw [if_neg (fun q => q3 q.2.2)] at k
            exact R2 Q a b ls ds _ (s15) hLa hLb hll hne hlen hpl k
        · refine iteQ (decide_eq_false (fun e => q2 (by injection e with e; omega))) ?_
          refine iteQ rfl ?_
          rw [if_neg (fun q => q2 q.2.1)] at k
          exact R2 Q a b ls ds _ (((s1).trans s4).trans s5) hLa hLb hll hne hlen hpl k
      · refine iteQ (decide_eq_false (fun e => q1 (by injection e with e; omega))) ?_
        refine iteQ rfl ?_
        rw [if_neg (fun q => q1 q.1)] at k
        exact R2 Q a b ls ds _ ((s1).trans s4) hLa hLb hll hne hlen hpl k
end
end Py
end
section
set_option Elab.async false
set_option linter.all false
set_option maxRecDepth 100000
set_option maxHeartbeats 4000000
namespace Py
open PySem PySem.Spec PyProof.Rows L2
open Bn (Rhythm Phase)
/-! ### the kind and the name, as bytes -/
def kindB (r : Rhythm) : Bn.Bytes := if (Bn.plain r).length = 1 then Bn.ascii "F" else Bn.darkName (Bn.pairs (Bn.plain r))
theorem zip_ne {ls ds : List Nat} (h : ls.length = ds.length) (n : ls.length ≠ 1) : (ls.zip (Lt.turn1 ds)).length ≠ 1 := by
  rw [List.length_zip, Lt.turn1_length, ← h, Nat.min_self]
  exact n
theorem gl_ok {ls : List Nat} (h : ls.length ≤ 1000) : (∀ x ∈ Bn.groups ls, (Bn.decimal x).length ≤ 7) ∧ (Bn.groups ls).length ≤ ls.length := by
  obtain ⟨h1, h2⟩ := groups_le ls
  exact ⟨fun x hx => decimal_len (by have := h1 x hx; omega), h2⟩
theorem many_ok {ls ds : List Nat} (h : ls.length = ds.length) (hl : ls.length ≤ 1000) (hn : ds ≠ []) (hd : ∀ x ∈ ds, x ≤ 6000) : (Bn.manyName (ls.zip (Lt.turn1 ds))).length ≤ 8 * ls.length + 5 ∧ Bn.manyName (ls.zip (Lt.turn1 ds)) ≠ Bn.ascii "F" := by
  obtain ⟨m, hm, hmin⟩ := least_in hn
  rw [Lt.many_eq h hm hmin (hd m hm)]
  split
  · obtain ⟨g1, g2⟩ := gl_ok (ls := ds) (by omega)
    have := Lt.grouped_len (b := Bn.flashName (ls.headD 0) (ls.headD 0 + m)) g1 g2
    have f := (Lt.flash_ne (ls.headD 0) (ls.headD 0 + m)).2
    refine ⟨by omega, fun e => ?_⟩
    rw [e] at this
    have h1 : (Bn.ascii "F").length = 1 := by decide
    omega
  split
  · obtain ⟨g1, g2⟩ := gl_ok (ls := ls) hl
    have := Lt.grouped_len (b := Bn.ascii "Oc") g1 g2
    have f : (Bn.ascii "Oc").length = 2 := by decide
    refine ⟨by omega, fun e => ?_⟩
    rw [e] at this
    have h1 : (Bn.ascii "F").length = 1 := by decide
    omega
  · cases Bn.morse (ls.zip (Lt.turn1 ds)) with
    | none => exact ⟨by show 2 ≤ _; omega, by decide⟩
    | some k =>
      simp only
      have hl : (Bn.ascii "Mo(" ++ [UInt8.ofNat (65 + k), 41]).length = 5 := by
        rw [List.length_append]
        rfl
      refine ⟨by omega, fun e => ?_⟩
      rw [e] at hl
      cases hl
theorem plain_small {r : Rhythm} (hp : Lt.Pos r) (hn : r ≠ []) (ht : Bn.total r ≤ 6000) : (Bn.plain r).length ≤ r.length ∧ ∀ x ∈ Bn.plain r, x.2 ≤ 6000 := by
  have hpm := Lt.Pos.mapC (g := fun c => min c 1) hp
  have hnm := Lt.mapC_ne (g := fun c => min c 1) hn
  have h1 := (Lt.form_total hpm hnm).1
  have h2 := Lt.form_length (Lt.mapC (fun c => min c 1) r)
  rw [← Lt.plain_eq, Lt.total_mapC] at h1
  rw [← Lt.plain_eq] at h2
  refine ⟨?_, fun x hx => ?_⟩
  · unfold Lt.mapC at h2
    rw [List.length_map] at h2
    exact h2
  · have := Lt.total_mem hx
    omega
theorem weave_bounds {ds ls : List Nat} (h : ds.length = ls.length) : (Lt.weave ds ls).length = 2 * ls.length ∧ (∀ d ∈ ds, ∃ x ∈ Lt.weave ds ls, x.2 = d) ∧ ∀ l ∈ ls, ∃ x ∈ Lt.weave ds ls, x.2 = l := by
  refine ⟨?_, fun d hd => ?_, fun l hl => ?_⟩
  · induction ds generalizing ls with
    | nil =>
      cases ls with
      | nil => rfl
      | cons l ls => simp at h
    | cons d ds ih =>
      cases ls with
      | nil => simp at h
      | cons l ls =>
        rw [Lt.weave, List.length_cons, List.length_cons, ih (by simpa using h), List.length_cons]
        omega
  · have e := Lt.weave_darks h
    rw [← e] at hd
    obtain ⟨x, hx, rfl⟩ := List.mem_map.mp hd
    exact ⟨x, (List.mem_filter.mp hx).1, rfl⟩
  · have e := Lt.weave_lights h
    rw [← e] at hl
    obtain ⟨x, hx, rfl⟩ := List.mem_map.mp hl
    exact ⟨x, (List.mem_filter.mp hx).1, rfl⟩
/-- what is to be known of light and dark by turns -/
structure Wv (r : Rhythm) (ds ls : List Nat) : Prop where
  len : ls.length = ds.length
  ne : ds ≠ []
  small : ls.length ≤ 1000
  lpos : ∀ x ∈ ls, 1 ≤ x ∧ x ≤ 6000
  dpos : ∀ x ∈ ds, 1 ≤ x ∧ x ≤ 6000
  eq : Bn.plain r = Lt.weave ds ls
  pairs : Bn.pairs (Bn.plain r) = ls.zip (Lt.turn1 ds)
theorem wv_of {r : Rhythm} (hp : Lt.Pos r) (hn : r ≠ []) (ht : Bn.total r ≤ 6000) (hl : r.length ≤ 1000) (h1 : (Bn.plain r).length ≠ 1) : ∃ ds ls, Wv r ds ls := by
  obtain ⟨ds, ls, e1, e2, e3, e4, e5⟩ := Lt.plain_weave hp hn h1
  obtain ⟨p1, p2⟩ := plain_small hp hn ht
  obtain ⟨w1, w2, w3⟩ := weave_bounds e1
  rw [e3] at p1 p2
  refine ⟨ds, ls, e1.symm, e2, by omega, fun x hx => ⟨e5 x hx, ?_⟩, fun x hx => ⟨e4 x hx, ?_⟩, e3, ?_⟩
  · obtain ⟨y, hy, rfl⟩ := w3 x hx
    exact p2 y hy
  · obtain ⟨y, hy, rfl⟩ := w2 x hx
    exact p2 y hy
  · rw [e3]
    exact Lt.pairs_weave e1
theorem kind_ok {r : Rhythm} (hp : Lt.Pos r) (hn : r ≠ []) (ht : Bn.total r ≤ 6000) (hl : r.length ≤ 1000) : (kindB r).length ≤ 8 * r.length + 5 ∧ ((Bn.plain r).length ≠ 1 → kindB r ≠ Bn.ascii "F") := by
  unfold kindB
  by_cases h1 : (Bn.plain r).length = 1
  · rw [if_pos h1]
    exact ⟨by show 1 ≤ _; omega, fun q => absurd h1 q⟩
  · rw [if_neg h1]
    obtain ⟨ds, ls, W⟩ := wv_of hp hn ht hl h1
    rw [W.pairs]
    by_cases h2 : ls.length = 1
    · obtain ⟨l, rfl⟩ := List.length_eq_one_iff.mp h2
      obtain ⟨d, rfl⟩ := List.length_eq_one_iff.mp (by rw [← W.len]; exact h2)
      have := Lt.dark_one l d
      exact ⟨by show (Bn.darkName [(l, d)]).length ≤ _; omega, fun _ => this.1⟩
    · rw [Lt.dark_many (zip_ne W.len h2)]
      obtain ⟨m1, m2⟩ := many_ok W.len W.small W.ne fun x hx => (W.dpos x hx).2
      have hls : ls.length ≤ r.length := by
        have p1 := (plain_small hp hn ht).1
        have w1 := (weave_bounds W.len.symm).1
        rw [W.eq, w1] at p1
        omega
      exact ⟨by omega, fun _ => m2⟩
def wordsB (r : Rhythm) : List Bn.Bytes := kindCol (kindB r) (letsB r) :: letsB r :: if Bn.period r = 0 then [] else [Bn.seconds (Bn.period r)]
theorem character_eq {r : Rhythm} (hc : Bn.colours r ≠ []) (hk : (Bn.plain r).length ≠ 1 → kindB r ≠ Bn.ascii "F") : Bn.character r = Bn.spaced (wordsB r) := by
  unfold Bn.character
  simp only
  rw [if_neg hc]
  unfold wordsB kindCol
  have hl : (letsB r).length = (Bn.colours r).length := by
    unfold letsB
    rw [List.length_map]
  have hpos : 0 < (Bn.colours r).length := List.length_pos_iff.mpr hc
  rw [hl]
  change Bn.spaced ((if (Bn.plain r).length = 1 then (if 1 < (Bn.colours r).length then [Bn.ascii "Al"] else [Bn.ascii "F"]) else (if 1 < (Bn.colours r).length then [Bn.ascii "Al"] else []) ++ [Bn.darkName (Bn.pairs (Bn.plain r))]) ++ (letsB r :: if Bn.period r = 0 then [] else [Bn.seconds (Bn.period r)])) = _
  generalize (if Bn.period r = 0 then ([] : List Bn.Bytes) else [Bn.seconds (Bn.period r)]) = rest
  by_cases h1 : (Bn.plain r).length = 1
  · have ek : kindB r = Bn.ascii "F" := by
      unfold kindB
      rw [if_pos h1]
    rw [if_pos h1, ek]
    by_cases h2 : 1 < (Bn.colours r).length
    · rw [if_pos h2, if_neg (by omega), if_pos rfl]
      rfl
    · rw [if_neg h2, if_pos (by omega)]
      rfl
  · have ek : kindB r = Bn.darkName (Bn.pairs (Bn.plain r)) := by
      unfold kindB
      rw [if_neg h1]
    rw [if_neg h1, ← ek]
    by_cases h2 : 1 < (Bn.colours r).length
    · rw [if_pos h2, if_neg (by omega), if_neg (hk h1)]
      show Bn.ascii "Al" ++ (32 :: (kindB r ++ (32 :: Bn.spaced (letsB r :: rest)))) = (Bn.ascii "Al " ++ kindB r) ++ (32 :: Bn.spaced (letsB r :: rest))
      have e : Bn.ascii "Al " = Bn.ascii "Al" ++ [32] := by decide
      rw [e, List.append_assoc, List.append_assoc]
      rfl
    · rw [if_neg h2, if_pos (by omega)]
      rfl
theorem spaced_len : ∀ {l : List Bn.Bytes} {n : Nat}, (∀ b ∈ l, b.length ≤ n) → (Bn.spaced l).length ≤ (n + 1) * l.length
  | [], _, _ => Nat.zero_le _
  | [b], n, h => by
    have := h b (by simp)
    show b.length ≤ (n + 1) * 1
    omega
  | b :: c :: r, n, h => by
    have ih := spaced_len (l := c :: r) (n := n) fun x hx => h x (by simp [hx])
    have := h b (by simp)
    show (b ++ (32 :: Bn.spaced (c :: r))).length ≤ _
    rw [List.length_append, List.length_cons, List.length_cons, Nat.mul_succ]
    omega
theorem kindCol_len {kd l : Bn.Bytes} {n : Nat} (h : kd.length ≤ n) : (kindCol kd l).length ≤ n + 3 := by
  unfold kindCol
  split
  · omega
  split
  · have : (Bn.ascii "Al").length = 2 := by decide
    omega
  · rw [List.length_append]
    have : (Bn.ascii "Al ").length = 3 := by decide
    omega
theorem period_le {r : Rhythm} (hp : Lt.Pos r) (hn : r ≠ []) : Bn.period r ≤ Bn.total r := by
  have := (Lt.form_total hp hn).1
  unfold Bn.period
  split
  · exact Nat.zero_le _
  · exact Nat.zero_le _
  · exact this
theorem seconds_len {n : Nat} (h : n < 10000000) : (Bn.seconds n).length ≤ 10 := by
  unfold Bn.seconds
  have := decimal_len (n := n / 10) (by omega)
  rw [List.length_append]
  split
  · show _ + 1 ≤ _
    omega
  · show _ + 3 ≤ _
    omega
theorem words_small {r : Rhythm} (hp : Lt.Pos r) (hn : r ≠ []) (ht : Bn.total r ≤ 6000) (hl : r.length ≤ 1000) : (∀ b ∈ wordsB r, b.length ≤ 8 * r.length + 10) ∧ (wordsB r).length ≤ 3 := by
  have hk := (kind_ok hp hn ht hl).1
  have hper := period_le hp hn
  unfold wordsB
  constructor
  · intro b hb
    rcases List.mem_cons.mp hb with rfl | hb
    · have := kindCol_len (l := letsB r) hk
      omega
    rcases List.mem_cons.mp hb with rfl | hb
    · have := lets_len r
      omega
    · split at hb
      · cases hb
      · rw [List.mem_singleton.mp hb]
        have := seconds_len (n := Bn.period r) (by omega)
        omega
  · split
    · exact Nat.le_succ _
    · exact Nat.le_refl _
theorem character_len {r : Rhythm} (hp : Lt.Pos r) (hn : r ≠ []) (ht : Bn.total r ≤ 6000) (hl : r.length ≤ 1000) : (Bn.character r).length ≤ 3 * (8 * r.length + 11) := by
  by_cases hc : Bn.colours r = []
  · unfold Bn.character
    simp only
    rw [if_pos hc]
    show 4 ≤ _
    omega
  · rw [character_eq hc (kind_ok hp hn ht hl).2]
    obtain ⟨h1, h2⟩ := words_small hp hn ht hl
    have := spaced_len h1
    have h3 : (8 * r.length + 10 + 1) * (wordsB r).length ≤ (8 * r.length + 10 + 1) * 3 := Nat.mul_le_mul_left _ h2
    omega
section
variable {P : Program} {w : World} {K : PySem.W.Frag} {mg : Str → Option Value} {base : Heap} {C : Addr}
/-! ### kind_of -/
abbrev s_kind_of : Stmt := top 43
theorem sc_kind_of : FnScope ["form", "shades", "lights", "darks", "shade", "length", "colour"] ["form"] (defScope s_kind_of) := ⟨rfl, rfl, rfl, by decide +kernel, rfl, by decide +kernel, by decide +kernel⟩
def spKind (K : PySem.W.Frag) : Sp := fun vs H Q _ => ∃ a r, vs = [.ref a] ∧ RhyL K H a (Bn.form r) ∧ Lt.Pos r ∧ r ≠ [] ∧ Bn.colours r ≠ [] ∧ r.length ≤ 1000 ∧ Bn.total r ≤ 6000 ∧ ∀ H', Same H H' → Q (.str (sb (kindB r))) H'
theorem ok_kind_of {f : Addr} {fd : FuncData} (F : Fun K "kind_of" "kind_of" s_kind_of f fd) (T : Txt K mg) (L : Lcls K mg C) (G_light_of : Has P w K mg base 3 "light_of" ["phases"] (spLight C K)) (G_kind_of_one : Has P w K mg base 2 "kind_of_one" ["light", "dark"] spOne) (G_kind_of_more : Has P w K mg base 4 "kind_of_more" ["lights", "darks"] (spMore K)) : FnOk P w K mg base CX0 5 f fd ["form"] (spKind K) := by
  refine F.ok sc_kind_of (fun vs H Q E h => ?_) (fun cdv A outer s H vs Q E hr h => ?_)
  · obtain ⟨a, r, rfl, _⟩ := h
    rfl
  · obtain ⟨a, r, rfl, ⟨us, hL, hV⟩, hp, hn, hcol, hlen, htot, k⟩ := h
    refine ⟨_, ((pss_cons (ps_set (i := 1) sc_kind_of.nd rfl (Or.inl rfl) (pe_fld (pe_has G_light_of (hr.mono (by decide)) (by rfl) (pa_cons (pe_lc rfl sc_kind_of.nd (pi_list (pv 0)) (blkOk_by (own := [("colour", 6), ("length", 5)]) (by kernel_rfl)) (fun _ _ _ _ _ => (pg_tupK (K := K) (n := 2) rfl rfl (pgs_cons (pg_name (i := 6) sc_kind_of.nd rfl (Or.inl rfl)) (pgs_cons (pg_name (i := 5) sc_kind_of.nd rfl (Or.inl rfl)) pgs_nil)))) (fun _ _ _ _ _ => pts_nil) (fun _ _ _ _ _ => (pe_tup (pa_cons (pe_ifExp (pt_cmpR op_eq (pv 6) (pe_gi (by rfl) T.g_DARK) (nomark _)) (pe_gi (by rfl) T.g_DARK) (pe_gi (by rfl) T.g_LIT)) (pa_cons (pv 5) pa_nil))))) pa_nil)) rfl))
      (pss_cons (ps_setLc (i := 2) rfl sc_kind_of.nd rfl rfl (sw_true rfl rfl rfl (by decide +kernel)) (pi_list (pv 1)) (blkOk_by (own := [("shade", 4), ("length", 5)]) (by kernel_rfl)) (fun _ _ _ _ _ => (pg_tupK (K := K) (n := 2) rfl rfl (pgs_cons (pg_name (i := 4) sc_kind_of.nd rfl (Or.inl rfl)) (pgs_cons (pg_name (i := 5) sc_kind_of.nd rfl (Or.inl rfl)) pgs_nil)))) (fun _ _ _ _ _ => (pts_one (pt_cmpR op_eq (pv 4) (pe_gi (by rfl) T.g_LIT) (nomark _)))) (fun _ _ _ _ _ => (pv 5)))
      (pss_cons (ps_setLc (i := 3) rfl sc_kind_of.nd rfl rfl (sw_true rfl rfl rfl (by decide +kernel)) (pi_list (pv 1)) (blkOk_by (own := [("shade", 4), ("length", 5)]) (by kernel_rfl)) (fun _ _ _ _ _ => (pg_tupK (K := K) (n := 2) rfl rfl (pgs_cons (pg_name (i := 4) sc_kind_of.nd rfl (Or.inl rfl)) (pgs_cons (pg_name (i := 5) sc_kind_of.nd rfl (Or.inl rfl)) pgs_nil)))) (fun _ _ _ _ _ => (pts_one (pt_cmpR op_eq (pv 4) (pe_gi (by rfl) T.g_DARK) (nomark _)))) (fun _ _ _ _ _ => (pv 5)))
      (pss_cons (ps_if (pt_cmpR op_eq (pe_callB call_len_seq (by rfl) T.n_len PySem.boot_len (pa_cons (pv 3) pa_nil)) pe_int (nomark _)) (pss_one (ps_ret (pe_gs (by rfl) T.g_FIXED))) pss_nil)
      (pss_cons (ps_if (pt_cmpR op_eq (pe_callB call_len_seq (by rfl) T.n_len PySem.boot_len (pa_cons (pv 3) pa_nil)) pe_int (nomark _)) (pss_one (ps_ret (pe_has G_kind_of_one (hr.mono (by decide)) (by rfl) (pa_cons (pe_ix ix_list (pv 2) pe_int (fun _ _ => rfl)) (pa_cons (pe_ix ix_list (pv 3) pe_int (fun _ _ => rfl)) pa_nil))))) pss_nil)
      (pss_one (ps_ret (pe_has G_kind_of_more (hr.mono (by decide)) (by rfl) (pa_cons (pv 2) (pa_cons (pv 3) pa_nil))))))))))), ?_⟩
    obtain ⟨⟨_, _⟩, pf, nf⟩ := Lt.form_go hp hn
    have hfl := Lt.form_length r
    have hul : us.length = (Bn.form r).length := hV.length
    refine ⟨_, rfl, a, rfl, ⟨_, hL⟩, fun D hD => ?_⟩
    refine lc_list (K := K) (a := a) (xs := us) (fun i H' => Same H H' ∧ ∃ vs, H' D = some (.lst vs) ∧ vs.length = i ∧ RhyV K H' vs (Lt.mapC (fun c => min c 1) ((Bn.form r).take i))) ⟨Same.new hD, [], upd_same, rfl, .nil⟩ (fun i H' _ h => h.1.seq hL) ?_ ?_
    · rintro i x H' hx ⟨s1, vs, hd, hvl, hW⟩
      obtain ⟨y, hy, ⟨c, rfl, hc⟩⟩ := pr_get hV hx
      obtain ⟨hi, _⟩ := List.getElem?_eq_some_iff.mp hy
      have em : Lt.mapC (fun c => min c 1) ((Bn.form r).take (i + 1)) = Lt.mapC (fun c => min c 1) ((Bn.form r).take i) ++ [(min y.1 1, y.2)] := by
        unfold Lt.mapC
        rw [take_snoc hy, List.map_append]
        rfl
      have fin : ∀ (t : Addr), H' t = none → ∃ acc, (upd H' t (.tup (phV (min y.1 1, y.2)))) D = some (.lst acc) ∧ acc.length < sizeLine ∧ (Same H (upd (upd H' t (.tup (phV (min y.1 1, y.2)))) D (.lst (acc ++ [.ref t]))) ∧
          ∃ vs, (upd (upd H' t (.tup (phV (min y.1 1, y.2)))) D (.lst (acc ++ [.ref t]))) D = some (.lst vs) ∧ vs.length = i + 1 ∧ RhyV K (upd (upd H' t (.tup (phV (min y.1 1, y.2)))) D (.lst (acc ++ [.ref t]))) vs (Lt.mapC (fun c => min c 1) ((Bn.form r).take (i + 1)))) := by
        intro t ht
        have hd2 : (upd H' t (.tup (phV (min y.1 1, y.2)))) D = some (.lst vs) := by
          rw [upd_ne (ne_of_none hd ht)]
          exact hd
        refine ⟨vs, hd2, small (by omega), (s1.put (s1.free ht)).put hD, vs ++ [.ref t], upd_same, by rw [List.length_append]; show vs.length + 1 = i + 1; omega, ?_⟩
        rw [em]
        refine pr_append (RhyV_lst (RhyV.same hW (Same.new ht)) hd2) (.cons ⟨t, rfl, SqT_lst (SqT.of upd_same) hd2⟩ .nil)
      refine ⟨c, _, rfl, s1.tup hc, rfl, _, _, rfl, _, _, rfl, rfl, rfl, ?_⟩
      refine ⟨_, rfl, rfl, _, rfl, ?_⟩
      by_cases h0 : y.1 = 0
      · refine iteP (decide_eq_true (by rw [h0]; rfl)) ?_
        refine ⟨_, rfl, (by show 2 ≤ sizeLine; decide), fun t ht => ?_⟩
        have e : ([V.int 0, V.int ((y.2 : Nat) : Int)] : List V) = phV (min y.1 1, y.2) := by
          rw [h0]
          rfl
        rw [e]
        exact fin t ht
      · refine iteQ (decide_eq_false (fun e => h0 (by injection e with e; omega))) ?_
        refine ⟨_, rfl, (by show 2 ≤ sizeLine; decide), fun t ht => ?_⟩
        have e : ([V.int 1, V.int ((y.2 : Nat) : Int)] : List V) = phV (min y.1 1, y.2) := by
          rw [Nat.min_eq_right (by omega)]
          rfl
        rw [e]
        exact fin t ht
    · rintro H1 ⟨s1, vs, hd, hvl, hW⟩
      rw [hul, List.take_length] at hW
      have epl : Bn.form (Lt.mapC (fun c => min c 1) (Bn.form r)) = Bn.plain r := by
        rw [← Lt.plain_eq]
        exact Lt.plain_form hp hn
      refine ⟨D, _, rfl, ⟨vs, SqL.of hd, hW⟩, Lt.Pos.mapC pf, Lt.mapC_ne nf, ?_, fun H2 p q b s2 _ _ hLt => ?_⟩
      · unfold Lt.mapC
        rw [List.length_map]
        omega
      obtain ⟨dx, h1, ⟨ws, hS, hX⟩, _⟩ := hLt
      rw [epl] at hX
      refine ⟨p, C, dx, _, _, rfl, h1, L.cl, L.nf, lf_form _ _ _, ?_⟩
      have hwl : ws.length = (Bn.plain r).length := hX.length
      obtain ⟨pl1, pl2⟩ := plain_small hp hn htot
      have s12 := s1.trans s2
      -- the lights
      refine ⟨_, rfl, q, rfl, ⟨_, hS⟩, fun D2 hD2 => ?_⟩
      refine lc_list (K := K) (a := q) (xs := ws) (fun i H' => Same H2 H' ∧ H' D2 = some (.lst ((nI ((((Bn.plain r).take i).filter fun (x : Phase) => decide (x.1 = 1)).map fun (x : Phase) => x.2)).map V.int))) ⟨Same.new hD2, upd_same⟩ (fun i H' _ h => h.1.seq hS) ?_ ?_
      · rintro i x H' hx ⟨s3, hd3⟩
        obtain ⟨y, hy, ⟨c, rfl, hc⟩⟩ := pr_get hX hx
        obtain ⟨hi, _⟩ := List.getElem?_eq_some_iff.mp hy
        have ef : (((Bn.plain r).take (i + 1)).filter fun (x : Phase) => decide (x.1 = 1)).map (fun (x : Phase) => x.2) = (((Bn.plain r).take i).filter fun (x : Phase) => decide (x.1 = 1)).map (fun (x : Phase) => x.2) ++ if y.1 = 1 then [y.2] else [] := by
          rw [take_snoc hy, List.filter_append, List.map_append]
          congr 1
          by_cases h0 : y.1 = 1
          · rw [if_pos h0, List.filter_cons_of_pos (by rw [h0]; rfl)]
            rfl
          · rw [if_neg h0, List.filter_cons_of_neg (by rw [decide_eq_false h0]; exact Bool.false_ne_true)]
            rfl
        have efl : ((((Bn.plain r).take i).filter fun (x : Phase) => decide (x.1 = 1)).map (fun (x : Phase) => x.2)).length ≤ 1000 := by
          rw [List.length_map]
          exact Nat.le_trans (List.length_filter_le _ _) (by rw [List.length_take]; omega)
        refine ⟨c, _, rfl, s3.tup hc, rfl, _, _, rfl, _, _, rfl, rfl, rfl, ?_⟩
        refine ⟨_, rfl, rfl, _, rfl, ?_⟩
        by_cases h0 : y.1 = 1
        · refine iteP (decide_eq_true (by rw [h0]; rfl)) ?_
          refine ⟨_, rfl, _, hd3, small (by rw [nIV_len]; omega), s3.put hD2, ?_⟩
          rw [upd_same, ef, if_pos h0, ← nI_append]
          rfl
        · refine iteQ (decide_eq_false (fun e => h0 (by injection e with e; omega))) ?_
          refine ⟨s3, ?_⟩
          rw [ef, if_neg h0, List.append_nil]
          exact hd3
      rintro H3 ⟨s3, hd3⟩
      rw [hwl, List.take_length] at hd3
      -- the darks
      refine ⟨_, rfl, q, rfl, ⟨_, s3.seq hS⟩, fun D3 hD3 => ?_⟩
      refine lc_list (K := K) (a := q) (xs := ws) (fun i H' => Same H3 H' ∧ H' D3 = some (.lst ((nI ((((Bn.plain r).take i).filter fun (x : Phase) => decide (x.1 = 0)).map fun (x : Phase) => x.2)).map V.int))) ⟨Same.new hD3, upd_same⟩ (fun i H' _ h => h.1.seq (s3.seq hS)) ?_ ?_
      · rintro i x H' hx ⟨s4, hd4⟩
        obtain ⟨y, hy, ⟨c, rfl, hc⟩⟩ := pr_get hX hx
        obtain ⟨hi, _⟩ := List.getElem?_eq_some_iff.mp hy
        have ef : (((Bn.plain r).take (i + 1)).filter fun (x : Phase) => decide (x.1 = 0)).map (fun (x : Phase) => x.2) = (((Bn.plain r).take i).filter fun (x : Phase) => decide (x.1 = 0)).map (fun (x : Phase) => x.2) ++ if y.1 = 0 then [y.2] else [] := by
          rw [take_snoc hy, List.filter_append, List.map_append]
          congr 1
          by_cases h0 : y.1 = 0
          · rw [if_pos h0, List.filter_cons_of_pos (by rw [h0]; rfl)]
            rfl
          · rw [if_neg h0, List.filter_cons_of_neg (by rw [decide_eq_false h0]; exact Bool.false_ne_true)]
            rfl
        have efl : ((((Bn.plain r).take i).filter fun (x : Phase) => decide (x.1 = 0)).map (fun (x : Phase) => x.2)).length ≤ 1000 := by
          rw [List.length_map]
          exact Nat.le_trans (List.length_filter_le _ _) (by rw [List.length_take]; omega)
        refine ⟨c, _, rfl, (s3.trans s4).tup hc, rfl, _, _, rfl, _, _, rfl, rfl, rfl, ?_⟩
        refine ⟨_, rfl, rfl, _, rfl, ?_⟩
        by_cases h0 : y.1 = 0
        · refine iteP (decide_eq_true (by rw [h0]; rfl)) ?_
          refine ⟨_, rfl, _, hd4, small (by rw [nIV_len]; omega), s4.put hD3, ?_⟩
          rw [upd_same, ef, if_pos h0, ← nI_append]
          rfl
        · refine iteQ (decide_eq_false (fun e => h0 (by injection e with e; omega))) ?_
          refine ⟨s4, ?_⟩
          rw [ef, if_neg h0, List.append_nil]
          exact hd4
      rintro H4 ⟨s4, hd4⟩
      rw [hwl, List.take_length] at hd4
      have hd3' := s4 _ _ hd3
      have s14 := (s12.trans s3).trans s4
      refine ⟨_, rfl, D3, _, rfl, .inl (SqL.of hd4), rfl, _, rfl, ?_⟩
      rw [nIV_len]
      by_cases hp1 : (Bn.plain r).length = 1
      · have e := Lt.plain_one hp hn hcol hp1
        rw [e]
        refine iteP (decide_eq_true rfl) ?_
        have := k H4 s14
        unfold kindB at this
        rw [if_pos hp1] at this
        exact q_of s_F this
      · obtain ⟨ds, ls, W⟩ := wv_of hp hn htot hlen hp1
        have el := Lt.weave_lights W.len.symm
        have ed := Lt.weave_darks W.len.symm
        rw [W.eq, el] at hd3'
        rw [W.eq, ed] at hd4
        rw [W.eq, ed]
        have hdl : 0 < ds.length := List.length_pos_iff.mpr W.ne
        refine iteQ (decide_eq_false (fun e => by injection e with e; omega)) ?_
        refine ⟨_, rfl, D3, _, rfl, .inl (SqL.of hd4), rfl, _, rfl, ?_⟩
        rw [nIV_len]
        have kk := k
        unfold kindB at kk
        rw [if_neg hp1, W.pairs] at kk
        by_cases hone : ds.length = 1
        · refine iteP (decide_eq_true (by rw [hone]; rfl)) ?_
          obtain ⟨d, rfl⟩ := List.length_eq_one_iff.mp hone
          obtain ⟨l, rfl⟩ := List.length_eq_one_iff.mp (by rw [W.len]; exact hone)
          refine ⟨_, rfl, D2, _, _, _, rfl, rfl, SqL.of hd3', atI_nat (j := 0) rfl, _, rfl, D3, _, _, _, rfl, rfl, SqL.of hd4, atI_nat (j := 0) rfl, l, d, rfl, ?_⟩
          exact kk H4 s14
        · refine iteQ (decide_eq_false (fun e => hone (by injection e with e; omega))) ?_
          have hl1 := W.len
          rw [Lt.dark_many (zip_ne W.len (by omega))] at kk
          refine ⟨_, rfl, _, rfl, D2, D3, ls, ds, rfl, SqL.of hd3', SqL.of hd4, W.len, ?_, W.small, W.lpos, W.dpos, fun H5 s5 => kk H5 (s14.trans s5)⟩
          intro e
          rw [e] at hl1
          exact W.ne (List.eq_nil_of_length_eq_zero hl1.symm)
/-! ### name_of -/
abbrev s_name_of : Stmt := top 47
theorem sc_name_of : FnScope ["light", "letters", "words"] ["light"] (defScope s_name_of) := ⟨rfl, rfl, rfl, by decide +kernel, rfl, by decide +kernel, by decide +kernel⟩
def spName (C : Addr) (K : PySem.W.Frag) : Sp := fun vs H Q _ => ∃ p r b, vs = [.ref p] ∧ LightAt C K H p r b ∧ Lt.Pos r ∧ r ≠ [] ∧ r.length ≤ 1000 ∧ Bn.total r ≤ 6000 ∧ ∀ H', Same H H' → Q (.str (sb (Bn.character r))) H'
theorem ok_name_of {f : Addr} {fd : FuncData} (F : Fun K "name_of" "name_of" s_name_of f fd) (T : Txt K mg) (L : Lcls K mg C) (G_letters_of : Has P w K mg base 1 "letters_of" ["form"] (spLetters K)) (G_kind_of : Has P w K mg base 5 "kind_of" ["form"] (spKind K)) (G_kind_with_colours : Has P w K mg base 1 "kind_with_colours" ["kind", "letters"] spKindCol) (G_seconds_of : Has P w K mg base 1 "seconds_of" ["period"] spSeconds) : FnOk P w K mg base CX0 6 f fd ["light"] (spName C K) := by
  refine F.ok sc_name_of (fun vs H Q E h => ?_) (fun cdv A outer s H vs Q E hr h => ?_)
  · obtain ⟨p, r, b, rfl, _⟩ := h
    rfl
  · obtain ⟨p, r, b, rfl, ⟨dx, q, h1, hLq, hb⟩, hp, hn, hlen, htot, k⟩ := h
    refine ⟨_, ((pss_cons (ps_set (i := 1) sc_name_of.nd rfl (Or.inl rfl) (pe_has G_letters_of (hr.mono (by decide)) (by rfl) (pa_cons (pe_fld (pv 0) rfl) pa_nil)))
      (pss_cons (ps_if (pt_cmpR op_eq (pv 1) pe_str (nomark _)) (pss_one (ps_ret pe_str)) pss_nil)
      (pss_cons (ps_set (i := 2) sc_name_of.nd rfl (Or.inl rfl) (pe_lst (pa_cons (pe_has G_kind_with_colours (hr.mono (by decide)) (by rfl) (pa_cons (pe_has G_kind_of (hr.mono (by decide)) (by rfl) (pa_cons (pe_fld (pv 0) rfl) pa_nil)) (pa_cons (pv 1) pa_nil))) (pa_cons (pv 1) pa_nil))))
      (pss_cons (ps_if (pt_cmpR op_gt (pe_fld (pv 0) rfl) pe_int (nomark _)) (pss_one (ps_expr (pe_bm PySem.F.plainAttrs_list PySem.F.slot_list_append PySem.F.type_list_append mt_append (pv 2) (pa_cons (pe_has G_seconds_of (hr.mono (by decide)) (by rfl) (pa_cons (pe_fld (pv 0) rfl) pa_nil)) pa_nil)))) pss_nil)
      (pss_one (ps_ret (pe_join pe_str (pv 2))))))))), ?_⟩
    have hfl := Lt.form_length r
    have hper := period_le hp hn
    refine ⟨_, rfl, p, C, dx, _, _, rfl, h1, L.cl, L.nf, lf_form _ _ _, q, _, rfl, hLq, by omega, fun H1 s1 => ?_⟩
    have elet : letsB (Bn.form r) = letsB r := by
      unfold letsB
      rw [Lt.colours_form hp hn]
    rw [elet]
    refine ⟨_, rfl, rfl, _, rfl, ?_⟩
    rw [s_none]
    by_cases hc : Bn.colours r = []
    · refine iteP (decide_eq_true (by rw [(lets_nil r).mpr hc])) ?_
      have := k H1 s1
      unfold Bn.character at this
      simp only at this
      rw [if_pos hc] at this
      exact q_of s_dark this
    · refine iteQ (decide_eq_false (fun e => hc ((lets_nil r).mp (by injection e with e; exact sb_inj e)))) ?_
      obtain ⟨k1, k2⟩ := kind_ok hp hn htot hlen
      have hll := lets_len r
      rw [character_eq hc k2] at k
      refine ⟨_, rfl, p, C, dx, _, _, rfl, s1 _ _ h1, L.cl, L.nf, lf_form _ _ _, q, r, rfl, hLq.same s1, hp, hn, hc, hlen, htot, fun H2 s2 => ?_⟩
      refine ⟨_, rfl, kindB r, letsB r, rfl, by omega, by omega, ?_⟩
      refine ⟨_, rfl, (by show 2 ≤ sizeLine; decide), fun l hl => ?_⟩
      have s3 := (s1.trans s2).put ((s1.trans s2).free hl) (o := .lst [.str (sb (kindCol (kindB r) (letsB r))), .str (sb (letsB r))])
      have hl3 : (upd H2 l (.lst [.str (sb (kindCol (kindB r) (letsB r))), .str (sb (letsB r))])) l = some (.lst [.str (sb (kindCol (kindB r) (letsB r))), .str (sb (letsB r))]) := upd_same
      have hl0 : H l = none := (s1.trans s2).free hl
      generalize (upd H2 l (.lst [.str (sb (kindCol (kindB r) (letsB r))), .str (sb (letsB r))])) = H3 at s3 hl3
      refine ⟨_, rfl, p, C, dx, _, _, rfl, s3 _ _ h1, L.cl, L.np, lf_period _ _ _, _, _, rfl, rfl, _, rfl, ?_⟩
      obtain ⟨wb1, wb2⟩ := words_small hp hn htot hlen
      have fin : ∀ H4, Same H H4 → H4 l = some (.lst (((wordsB r).map sb).map V.str)) → ∃ a p, ∃ ys : List Str, V.str (" " : Str) = V.str a ∧ ([V.ref l] : List V) = [.ref p] ∧ (SqL K H4 p (ys.map V.str) ∨ SqT K H4 p (ys.map V.str)) ∧
          (ys.map (·.length)).sum + ys.length * a.length ≤ 16777216 ∧ Q (.str (PySem.Txt.join a ys)) H4 := by
        intro H4 s4 h4
        refine ⟨_, l, (wordsB r).map sb, rfl, rfl, .inl (SqL.of h4), ?_, ?_⟩
        · have := sumlen wb1
          have h3 : (8 * r.length + 10) * (wordsB r).length ≤ (8 * r.length + 10) * 3 := Nat.mul_le_mul_left _ wb2
          rw [List.length_map, s_blank, sb_length]
          show _ + _ * 1 ≤ _
          omega
        · rw [s_blank, join_sb, joinB_space]
          exact k H4 s4
      by_cases h0 : Bn.period r = 0
      · refine iteQ (decide_eq_false (by rw [h0]; decide)) ?_
        refine ⟨⟨_, rfl⟩, _, rfl, ?_⟩
        refine fin H3 s3 ?_
        unfold wordsB
        rw [if_pos h0]
        exact hl3
      · refine iteP (decide_eq_true (by omega)) ?_
        refine ⟨_, rfl, .inl ⟨rfl, _, SqL.of hl3⟩, _, rfl, p, C, dx, _, _, rfl, s3 _ _ h1, L.cl, L.np, lf_period _ _ _, Bn.period r, rfl, by omega, l, _, _, rfl, rfl, hl3, (by show 2 < sizeLine; decide), ?_⟩
        refine ⟨⟨_, rfl⟩, _, rfl, ?_⟩
        refine fin _ (s3.put hl0) ?_
        unfold wordsB
        rw [if_neg h0]
        exact upd_same
/-! ### character_answer -/
abbrev s_character_answer : Stmt := top 69
theorem sc_character_answer : FnScope ["light", "name", "sign"] ["light"] (defScope s_character_answer) := ⟨rfl, rfl, rfl, by decide +kernel, rfl, by decide +kernel, by decide +kernel⟩
def spChar (C : Addr) (K : PySem.W.Frag) : Sp := fun vs H Q _ => ∃ p r b, vs = [.ref p] ∧ LightAt C K H p r b ∧ Lt.Pos r ∧ r ≠ [] ∧ r.length ≤ 1000 ∧ Bn.total r ≤ 6000 ∧ ∀ H' q, Same H H' → LstI H H' q ((((Bn.character r).length : Nat) : Int) :: Lt.bytesI (Bn.character r)) → Q (.ref q) H'
theorem ok_character_answer {f : Addr} {fd : FuncData} (F : Fun K "character_answer" "character_answer" s_character_answer f fd) (T : Txt K mg) (G_name_of : Has P w K mg base 6 "name_of" ["light"] (spName C K)) : FnOk P w K mg base CX0 7 f fd ["light"] (spChar C K) := by
  refine F.ok sc_character_answer (fun vs H Q E h => ?_) (fun cdv A outer s H vs Q E hr h => ?_)
  · obtain ⟨p, r, b, rfl, _⟩ := h
    rfl
  · obtain ⟨p, r, b, rfl, hLt, hp, hn, hlen, htot, k⟩ := h
    refine ⟨_, ((pss_cons (ps_set (i := 1) sc_character_answer.nd rfl (Or.inl rfl) (pe_has G_name_of (hr.mono (by decide)) (by rfl) (pa_cons (pv 0) pa_nil)))
      (pss_one (ps_ret (pe_op op_cat (pe_lst (pa_cons (pe_callB call_len_str (by rfl) T.n_len PySem.boot_len (pa_cons (pv 1) pa_nil)) pa_nil)) (pe_lc rfl sc_character_answer.nd (pi_str (pv 1)) (blkOk_by (own := [("sign", 2)]) (by kernel_rfl)) (fun _ _ _ _ _ => (pg_name (i := 2) sc_character_answer.nd rfl (Or.inl rfl))) (fun _ _ _ _ _ => pts_nil) (fun _ _ _ _ _ => (pe_callB call_ord (by rfl) T.n_ord boot_ord (pa_cons (pv 2) pa_nil))))))))), ?_⟩
    refine ⟨_, rfl, p, r, b, rfl, hLt, hp, hn, hlen, htot, fun H1 s1 => ?_⟩
    have hcl := character_len hp hn htot hlen
    generalize Bn.character r = nm at k hcl
    refine ⟨_, rfl, _, rfl, sb_small (by omega), (by show 1 ≤ sizeLine; decide), fun l hl => ?_⟩
    rw [sb_length]
    have s2 := s1.put (s1.free hl) (o := .lst [V.int ((nm.length : Nat) : Int)])
    have hl2 : (upd H1 l (.lst [V.int ((nm.length : Nat) : Int)])) l = some (.lst [V.int ((nm.length : Nat) : Int)]) := upd_same
    generalize (upd H1 l (.lst [V.int ((nm.length : Nat) : Int)])) = H2 at s2 hl2
    refine ⟨_, rfl, _, rfl, fun D hD => ?_⟩
    refine lc_str (fun j H' => Same H2 H' ∧ H' D = some (.lst (((sb nm).cps.toList.take j).map fun c => V.int ((c : Nat) : Int)))) ⟨Same.new hD, upd_same⟩ ?_ ?_
    · rintro j c H4 hc ⟨s4, hd4⟩
      have hc' : (sb nm).cps.toList[j]? = some c := by rw [Array.getElem?_toList]; exact hc
      have hjl := (List.getElem?_eq_some_iff.mp hc').1
      rw [sb_cps, List.length_map] at hjl
      refine ⟨rfl, _, rfl, _, rfl, rfl, _, hd4, ?_, s4.put hD, ?_⟩
      · rw [List.length_map, List.length_take, sb_cps, List.length_map]
        exact small (by omega)
      · rw [upd_same, take_snoc hc', List.map_append]
        rfl
    · rintro H4 ⟨s4, hd4⟩
      have ed : (((sb nm).cps.toList.take (sb nm).cps.size).map fun c => V.int ((c : Nat) : Int)) = (Lt.bytesI nm).map V.int := by
        rw [List.take_of_length_le (by simp), sb_cps, List.map_map]
        unfold Lt.bytesI
        rw [List.map_map]
        rfl
      rw [ed] at hd4
      refine ⟨l, D, _, _, rfl, rfl, s4 _ _ hl2, hd4, ?_, fun q hq => ?_⟩
      · unfold Lt.bytesI
        rw [List.length_map, List.length_map]
        exact Nat.le_of_lt (small (by show 1 + _ ≤ _; omega))
      · refine k _ q ((s2.trans s4).put ((s2.trans s4).free hq)) ⟨(s2.trans s4).free hq, ?_⟩
        show (upd _ q _) q = _
        rw [upd_same]
        rfl
end
end Py
end
section
set_option Elab.async false
set_option linter.all false
set_option maxRecDepth 100000
set_option maxHeartbeats 4000000
namespace Py
open PySem PySem.Spec PyProof.Rows L2
open Bn (Rhythm Phase)
/-! ### what is answered, by texts -/
def firstRef : List (List Int) → List Int → List Int
  | [], b => b
  | t :: ts, b => if refI t = [] then firstRef ts b else refI t
def lightC (c : Int) (rs : List Rhythm) : List Int :=
  if c = 1 then (((Lt.textI (Bn.form (rs.headD []))).length : Nat) : Int) :: Lt.textI (Bn.form (rs.headD []))
  else if c = 2 then [if Bn.form (rs.headD []) = Bn.form ((rs.drop 1).headD []) then 1 else 0]
  else if c = 3 then [shiftI (rs.headD []) ((rs.drop 1).headD [])]
  else if c = 6 then [((Bn.period (rs.headD []) : Nat) : Int), (litL (rs.headD [])).sum, (((litL (rs.headD [])).length : Nat) : Int)]
  else (((Bn.character (rs.headD [])).length : Nat) : Int) :: Lt.bytesI (Bn.character (rs.headD []))
def bodyC (c : Int) (zs : List Int) (rs : List Rhythm) : List Int :=
  if c = 0 then [(((rs.headD []).length : Nat) : Int)] else if 0 < zs.length then [timedI c (rs.headD []) (zs.headD 0).toNat] else lightC c rs
theorem ofT_ref (t : List Int) (g : Rhythm → List Int) : Lt.ofT t g = if refI t = [] then g (Lt.rhyI t) else refI t := by
  unfold Lt.ofT refI
  by_cases h : 1024 < t.length
  · rw [if_pos h, if_pos h, if_neg (by simp)]
  · rw [if_neg h, if_neg h]
    cases Lt.faultI t with
    | none => rfl
    | some k => rw [if_neg (by simp)]
theorem lit_sum (r : Rhythm) : (litL r).sum = ((Lt.litOf r : Nat) : Int) := by
  unfold litL Lt.litOf
  generalize (Bn.form r).filter (fun (x : Phase) => x.1 != 0) = l
  induction l with
  | nil => rfl
  | cons x l ih =>
    rw [List.map_cons, List.map_cons, List.sum_cons, List.sum_cons, ih, Int.natCast_add]
theorem lit_len (r : Rhythm) : (litL r).length = Wqatdx.flashes r := by
  unfold litL Wqatdx.flashes
  rw [List.length_map]
theorem ans_body {c : Int} {zs : List Int} {ts : List (List Int)} (h : Lt.CallIs ((c :: zs) :: ts)) : Lt.ans1 ((c :: zs) :: ts) = firstRef ts (bodyC c zs (ts.map Lt.rhyI)) := by
  cases h with
  | one p t hp hb =>
    show _ = (if refI t = [] then bodyC c [] [Lt.rhyI t] else refI t)
    rcases hp with rfl | rfl | rfl | rfl
    · rw [Lt.ans_judge hb, ofT_ref]
      rfl
    · rw [Lt.ans_form hb, ofT_ref]
      have e : (((Bn.Rhythm.text (Bn.form (Lt.rhyI t))).length : Nat) : Int) = (((Lt.textI (Bn.form (Lt.rhyI t))).length : Nat) : Int) := by
        unfold Lt.textI Lt.bytesI
        rw [List.length_map]
      rw [e]
      rfl
    · rw [Lt.ans_period hb, ofT_ref, ← lit_sum, ← lit_len]
      rfl
    · rw [Lt.ans_character hb, ofT_ref]
      rfl
  | two p t u hp hb hu =>
    show _ = (if refI t = [] then (if refI u = [] then bodyC c [] [Lt.rhyI t, Lt.rhyI u] else refI u) else refI t)
    rcases hp with rfl | rfl
    · rw [Lt.ans_same hb hu, ofT_ref, ofT_ref]
      rfl
    · rw [Lt.ans_shift hb hu, ofT_ref, ofT_ref]
      have e : bodyC 3 [] [Lt.rhyI t, Lt.rhyI u] = [shiftI (Lt.rhyI t) (Lt.rhyI u)] := rfl
      rw [e]
      unfold shiftI
      cases Wqatdx.shiftOf (Lt.rhyI t) (Lt.rhyI u) <;> rfl
  | timed p z t hp h0 h1 hb =>
    show _ = (if refI t = [] then bodyC c [z] [Lt.rhyI t] else refI t)
    rcases hp with rfl | rfl
    · rw [Lt.ans_at hb h0, ofT_ref]
      have e : bodyC 4 [z] [Lt.rhyI t] = [if 1000000 < z then (-1 : Int) else ((Bn.colourAt (Lt.rhyI t) z.toNat : Nat) : Int)] := by
        show [timedI 4 (Lt.rhyI t) z.toNat] = _
        unfold timedI
        by_cases hz : 1000000 < z
        · rw [if_pos hz, if_pos (by omega)]
        · rw [if_neg hz, if_neg (by omega)]
          rfl
      rw [e]
    · rw [Lt.ans_next hb h0, ofT_ref]
      have e : bodyC 5 [z] [Lt.rhyI t] = [if 1000000 < z then (-1 : Int) else nextI (Lt.rhyI t) z.toNat] := by
        show [timedI 5 (Lt.rhyI t) z.toNat] = _
        unfold timedI
        by_cases hz : 1000000 < z
        · rw [if_pos hz, if_pos (by omega)]
        · rw [if_neg hz, if_neg (by omega)]
          rfl
      rw [e]
      rfl
/-- what is to be known of a rhythm that is read -/
structure Good (r : Rhythm) : Prop where
  pos : Lt.Pos r
  ne : r ≠ []
  len : r.length ≤ 32
  tot : Bn.total r ≤ 6000
  col : ∀ x ∈ r, x.1 ≤ 4
theorem ref_fault {t : List Int} (h : refI t = []) : Lt.faultI t = none := by
  unfold refI at h
  split at h
  · cases h
  · cases hf : Lt.faultI t with
    | none => rfl
    | some k => rw [hf] at h; cases h
theorem good_of {t : List Int} (h : refI t = []) : Good (Lt.rhyI t) := by
  have hf := ref_fault h
  obtain ⟨h1, h2⟩ := Lt.rhyI_small hf
  refine ⟨Lt.rhyI_pos t, Lt.rhyI_ne hf, h1, h2, fun x hx => ?_⟩
  unfold Lt.rhyI at hx
  obtain ⟨wd, _, e⟩ := List.mem_filterMap.mp hx
  exact (Lt.phaseOf_some e).1
theorem Good.form {r : Rhythm} (g : Good r) : (Bn.form r).length ≤ 32 ∧ ∀ x ∈ Bn.form r, x.1 ≤ 4 ∧ x.2 < 10000000 := by
  have h1 := Lt.form_length r
  have h2 := (Lt.form_total g.pos g.ne).1
  have h3 := g.len
  have h4 := g.tot
  refine ⟨by omega, fun x hx => ⟨?_, ?_⟩⟩
  · obtain ⟨⟨b, gb⟩, pf, nf⟩ := Lt.form_go g.pos g.ne
    obtain ⟨t, ht, e⟩ := Lt.mem_colourIn pf hx
    have e2 := gb t
    rw [Lt.colourAt_lt ht, e] at e2
    obtain ⟨y, hy, ey⟩ := Lt.colourIn_mem (r := r) (t := (b + t) % Bn.total r) (Nat.mod_lt _ (Lt.total_pos g.pos g.ne))
    have := g.col y hy
    rw [ey] at this
    rw [← e2]
    exact this
  · have := Lt.total_mem hx
    omega
theorem light_len {c : Int} {rs : List Rhythm} (g : Good (rs.headD [])) : (lightC c rs).length ≤ 1000 := by
  unfold lightC
  obtain ⟨f1, f2⟩ := g.form
  split
  · have := Lt.textI_len (Bn.form (rs.headD [])) fun x hx => (f2 x hx).2
    rw [List.length_cons]
    omega
  split
  · exact Nat.le_of_ble_eq_true rfl
  split
  · exact Nat.le_of_ble_eq_true rfl
  split
  · exact Nat.le_of_ble_eq_true rfl
  · have := character_len g.pos g.ne g.tot (by have := g.len; omega)
    have h3 := g.len
    unfold Lt.bytesI
    rw [List.length_cons, List.length_map]
    omega
theorem body_len {c : Int} {zs : List Int} {rs : List Rhythm} (g : Good (rs.headD [])) : (bodyC c zs rs).length ≤ 1000 := by
  unfold bodyC
  split
  · exact Nat.le_of_ble_eq_true rfl
  split
  · exact Nat.le_of_ble_eq_true rfl
  · exact light_len g
theorem ref_len (t : List Int) : (refI t).length ≤ 2 := by
  unfold refI
  split
  · exact Nat.le_of_ble_eq_true rfl
  · cases Lt.faultI t with
    | none => exact Nat.zero_le _
    | some k => exact Nat.le_refl _
theorem first_len {ts : List (List Int)} {b : List Int} (hb : (∀ t ∈ ts, refI t = []) → b.length ≤ 1000) : (firstRef ts b).length ≤ 1000 := by
  induction ts with
  | nil => exact hb fun t h => nomatch h
  | cons t ts ih =>
    show (if refI t = [] then firstRef ts b else refI t).length ≤ 1000
    by_cases h : refI t = []
    · rw [if_pos h]
      refine ih fun q => hb fun u hu => ?_
      rcases List.mem_cons.mp hu with rfl | hu
      · exact h
      · exact q u hu
    · rw [if_neg h]
      have := ref_len t
      omega
theorem first_all {ts : List (List Int)} {b : List Int} (h : ∀ t ∈ ts, refI t = []) : firstRef ts b = b := by
  induction ts with
  | nil => rfl
  | cons t ts ih =>
    show (if refI t = [] then firstRef ts b else refI t) = b
    rw [if_pos (h t (by simp))]
    exact ih fun u hu => h u (by simp [hu])
theorem first_at_ref {b : List Int} : ∀ {ts : List (List Int)} {i : Nat} {t : List Int}, ts[i]? = some t → (∀ u ∈ ts.take i, refI u = []) → refI t ≠ [] → firstRef ts b = refI t
  | [], _, _, h, _, _ => by simp at h
  | u :: ts, 0, t, h, _, hn => by
    have e : u = t := Option.some.inj h
    subst e
    show (if refI u = [] then _ else refI u) = refI u
    rw [if_neg hn]
  | u :: ts, i + 1, t, h, hall, hn => by
    show (if refI u = [] then firstRef ts b else refI u) = refI t
    rw [if_pos (hall u (by simp))]
    exact first_at_ref (i := i) h (fun z hz => hall z (by simp [hz])) hn
theorem call_texts {c : Int} {zs : List Int} {ts : List (List Int)} (h : Lt.CallIs ((c :: zs) :: ts)) : ts ≠ [] ∧ (c = 0 → ts.length = 1) ∧ (0 < zs.length → (c = 4 ∨ c = 5) ∧ ts.length = 1 ∧ ∃ z, zs = [z] ∧ 0 ≤ z) ∧ (zs.length = 0 → c ≠ 0 → (((c = 1 ∨ c = 6 ∨ c = 7) ∧ ts.length = 1) ∨ ((c = 2 ∨ c = 3) ∧ ts.length = 2))) ∧ (zs.length = 0 ∨ zs.length = 1) ∧ 0 ≤ c ∧ c < 8 := by
  cases h with
  | one p t hp hb => exact ⟨by simp, fun _ => rfl, fun q => by simp at q, fun _ hc => .inl ⟨by omega, rfl⟩, .inl rfl, by omega, by omega⟩
  | two p t u hp hb hu => exact ⟨by simp, fun q => by omega, fun q => by simp at q, fun _ _ => .inr ⟨hp, rfl⟩, .inl rfl, by omega, by omega⟩
  | timed p z t hp h0 h1 hb => exact ⟨by simp, fun q => by omega, fun _ => ⟨hp, rfl, z, rfl, h0⟩, fun q => by simp at q, .inr rfl, by omega, by omega⟩
theorem ans_len {c : Int} {zs : List Int} {ts : List (List Int)} (h : Lt.CallIs ((c :: zs) :: ts)) : (Lt.ans1 ((c :: zs) :: ts)).length ≤ 1000 := by
  rw [ans_body h]
  refine first_len fun hall => body_len ?_
  have hne := (call_texts h).1
  cases ts with
  | nil => exact absurd rfl hne
  | cons t ts => exact good_of (hall t (by simp))
theorem SqL_ne {K : PySem.W.Frag} {H : Hp} {q D : Addr} {us : List V} {o : HO} (h : SqL K H q us) (hn : q ≠ D) : SqL K (upd H D o) q us := by
  rcases h with (h | ⟨u, h⟩) | h
  · exact .inl (.inl (by rw [upd_ne hn]; exact h))
  · exact .inl (.inr ⟨u, by rw [upd_ne hn]; exact h⟩)
  · exact .inr h
section
variable {P : Program} {w : World} {K : PySem.W.Frag} {mg : Str → Option Value} {base : Heap} {C : Addr}
/-! ### light_answer -/
abbrev s_light_answer : Stmt := top 70
theorem sc_light_answer : FnScope ["call", "lights"] ["call", "lights"] (defScope s_light_answer) := ⟨rfl, rfl, rfl, by decide +kernel, rfl, by decide +kernel, by decide +kernel⟩
def spLA (C : Addr) (K : PySem.W.Frag) : Sp := fun vs H Q _ => ∃ c b ps rs, vs = [.int c, .ref b] ∧ SqL K H b (ps.map V.ref) ∧ Paired (fun p r => ∃ n, LightAt C K H p r n) ps rs ∧ (∀ r ∈ rs, Good r) ∧
  (((c = 1 ∨ c = 6 ∨ c = 7) ∧ rs.length = 1) ∨ ((c = 2 ∨ c = 3) ∧ rs.length = 2)) ∧ ∀ H' p, Same H H' → LstI H H' p (lightC c rs) → Q (.ref p) H'
theorem ok_light_answer {f : Addr} {fd : FuncData} (F : Fun K "light_answer" "light_answer" s_light_answer f fd) (T : Txt K mg) (G_form_answer : Has P w K mg base 2 "form_answer" ["light"] (spFormA C K)) (G_same_light : Has P w K mg base 1 "same_light" ["one", "other"] (spSame C K)) (G_shift_answer : Has P w K mg base 2 "shift_answer" ["one", "other"] (spShiftA C K)) (G_period_answer : Has P w K mg base 1 "period_answer" ["light"] (spPerA C K)) (G_character_answer : Has P w K mg base 7 "character_answer" ["light"] (spChar C K)) : FnOk P w K mg base CX0 8 f fd ["call", "lights"] (spLA C K) := by
  refine F.ok sc_light_answer (fun vs H Q E h => ?_) (fun cdv A outer s H vs Q E hr h => ?_)
  · obtain ⟨c, b, ps, rs, rfl, _⟩ := h
    rfl
  · obtain ⟨c, b, ps, rs, rfl, hS, hP, hG, hsh, k⟩ := h
    refine ⟨_, ((pss_cons (ps_if (pt_cmpR op_eq (pv 0) (pe_gi (by rfl) T.g_FORM) (nomark _)) (pss_one (ps_ret (pe_has G_form_answer (hr.mono (by decide)) (by rfl) (pa_cons (pe_ix ix_list (pv 1) pe_int (fun _ _ => rfl)) pa_nil)))) pss_nil)
      (pss_cons (ps_if (pt_cmpR op_eq (pv 0) (pe_gi (by rfl) T.g_SAME) (nomark _)) (pss_one (ps_ret (pe_lst (pa_cons (pe_ifExp (pt_val (pe_has G_same_light (hr.mono (by decide)) (by rfl) (pa_cons (pe_ix ix_list (pv 1) pe_int (fun _ _ => rfl)) (pa_cons (pe_ix ix_list (pv 1) pe_int (fun _ _ => rfl)) pa_nil)))) pe_int pe_int) pa_nil)))) pss_nil)
      (pss_cons (ps_if (pt_cmpR op_eq (pv 0) (pe_gi (by rfl) T.g_SHIFT) (nomark _)) (pss_one (ps_ret (pe_has G_shift_answer (hr.mono (by decide)) (by rfl) (pa_cons (pe_ix ix_list (pv 1) pe_int (fun _ _ => rfl)) (pa_cons (pe_ix ix_list (pv 1) pe_int (fun _ _ => rfl)) pa_nil))))) pss_nil)
      (pss_cons (ps_if (pt_cmpR op_eq (pv 0) (pe_gi (by rfl) T.g_PERIOD) (nomark _)) (pss_one (ps_ret (pe_has G_period_answer (hr.mono (by decide)) (by rfl) (pa_cons (pe_ix ix_list (pv 1) pe_int (fun _ _ => rfl)) pa_nil)))) pss_nil)
      (pss_one (ps_ret (pe_has G_character_answer (hr.mono (by decide)) (by rfl) (pa_cons (pe_ix ix_list (pv 1) pe_int (fun _ _ => rfl)) pa_nil))))))))), ?_⟩
    obtain ⟨r, rs', rfl⟩ : ∃ r rs', rs = r :: rs' := by
      cases rs with
      | nil => rcases hsh with ⟨_, q⟩ | ⟨_, q⟩ <;> simp at q
      | cons r rs' => exact ⟨r, rs', rfl⟩
    cases hP with
    | cons hp hP' =>
      rename_i p ps'
      obtain ⟨n, hLt⟩ := hp
      have g := hG r (by simp)
      obtain ⟨f1, f2⟩ := g.form
      have glen := g.len
      unfold lightC at k
      refine ⟨_, rfl, rfl, _, rfl, ?_⟩
      by_cases c1 : c = 1
      · refine iteP (decide_eq_true (by rw [c1])) ?_
        rw [if_pos c1] at k
        exact ⟨_, rfl, b, _, _, _, rfl, rfl, hS, atI_nat (j := 0) rfl, p, r, n, rfl, hLt, by omega, f2, k⟩
      refine iteQ (decide_eq_false (fun e => c1 (by injection e))) ?_
      rw [if_neg c1] at k
      refine ⟨_, rfl, rfl, _, rfl, ?_⟩
      by_cases c2 : c = 2
      · refine iteP (decide_eq_true (by rw [c2])) ?_
        rw [if_pos c2] at k
        obtain ⟨r2, rfl⟩ : ∃ r2, rs' = [r2] := by
          rcases hsh with ⟨q, _⟩ | ⟨_, q⟩
          · omega
          · exact List.length_eq_one_iff.mp (by simpa using q)
        cases hP' with
        | cons hp2 hn =>
          cases hn
          rename_i p2
          obtain ⟨n2, hLt2⟩ := hp2
          refine ⟨_, rfl, b, _, _, _, rfl, rfl, hS, atI_nat (j := 0) rfl, _, rfl, b, _, _, _, rfl, rfl, hS, atI_nat (j := 1) rfl, p, p2, r, r2, n, n2, rfl, hLt, hLt2, _, rfl, ?_⟩
          change ∀ H' p, Same H H' → LstI H H' p [if Bn.form r = Bn.form r2 then 1 else 0] → Q (.ref p) H' at k
          by_cases he : Bn.form r = Bn.form r2
          · refine iteP (decide_eq_true he) ?_
            rw [if_pos he] at k
            exact ⟨(by show 1 ≤ sizeLine; decide), fun l hl => k _ l (Same.new hl) ⟨hl, upd_same⟩⟩
          · refine iteQ (decide_eq_false he) ?_
            rw [if_neg he] at k
            exact ⟨(by show 1 ≤ sizeLine; decide), fun l hl => k _ l (Same.new hl) ⟨hl, upd_same⟩⟩
      refine iteQ (decide_eq_false (fun e => c2 (by injection e))) ?_
      rw [if_neg c2] at k
      refine ⟨_, rfl, rfl, _, rfl, ?_⟩
      by_cases c3 : c = 3
      · refine iteP (decide_eq_true (by rw [c3])) ?_
        rw [if_pos c3] at k
        obtain ⟨r2, rfl⟩ : ∃ r2, rs' = [r2] := by
          rcases hsh with ⟨q, _⟩ | ⟨_, q⟩
          · omega
          · exact List.length_eq_one_iff.mp (by simpa using q)
        cases hP' with
        | cons hp2 hn =>
          cases hn
          rename_i p2
          obtain ⟨n2, hLt2⟩ := hp2
          have g2 := hG r2 (by simp)
          exact ⟨_, rfl, b, _, _, _, rfl, rfl, hS, atI_nat (j := 0) rfl, _, rfl, b, _, _, _, rfl, rfl, hS, atI_nat (j := 1) rfl, p, p2, r, r2, n, n2, rfl, hLt, hLt2, g.pos, g.ne, g2.pos, g2.ne, k⟩
      refine iteQ (decide_eq_false (fun e => c3 (by injection e))) ?_
      rw [if_neg c3] at k
      refine ⟨_, rfl, rfl, _, rfl, ?_⟩
      by_cases c6 : c = 6
      · refine iteP (decide_eq_true (by rw [c6])) ?_
        rw [if_pos c6] at k
        exact ⟨_, rfl, b, _, _, _, rfl, rfl, hS, atI_nat (j := 0) rfl, p, r, n, rfl, hLt, by omega, k⟩
      refine iteQ (decide_eq_false (fun e => c6 (by injection e))) ?_
      rw [if_neg c6] at k
      exact ⟨_, rfl, b, _, _, _, rfl, rfl, hS, atI_nat (j := 0) rfl, p, r, n, rfl, hLt, g.pos, g.ne, by omega, g.tot, k⟩
/-! ### answer -/
abbrev s_answer : Stmt := top 71
theorem sc_answer : FnScope ["call", "times", "texts", "text", "rhythms", "refusal", "phases"] ["call", "times", "texts"] (defScope s_answer) := ⟨rfl, rfl, rfl, by decide +kernel, rfl, by decide +kernel, by decide +kernel⟩
def spAnswer (K : PySem.W.Frag) : Sp := fun vs H Q _ => ∃ c a b zs ts as, vs = [.int c, .ref a, .ref b] ∧ SqL K H a (zs.map V.int) ∧ SqL K H b (as.map V.ref) ∧ Paired (fun q (t : List Int) => SqL K H q (t.map V.int)) as ts ∧ Lt.CallIs ((c :: zs) :: ts) ∧ (∀ t ∈ ts, t.length ≤ 100000) ∧
  ∀ H' p, Same H H' → LstI H H' p (Lt.ans1 ((c :: zs) :: ts)) → Q (.ref p) H'
theorem ok_answer {f : Addr} {fd : FuncData} (F : Fun K "answer" "answer" s_answer f fd) (T : Txt K mg) (G_refusal_of : Has P w K mg base 4 "refusal_of" ["text"] (spRefusal K)) (G_phases_of : Has P w K mg base 3 "phases_of" ["text"] (spPhases K)) (G_timed_answer : Has P w K mg base 5 "timed_answer" ["call", "phases", "time"] (spTimed K)) (G_light_of : Has P w K mg base 3 "light_of" ["phases"] (spLight C K)) (G_light_answer : Has P w K mg base 8 "light_answer" ["call", "lights"] (spLA C K)) : FnOk P w K mg base CX0 9 f fd ["call", "times", "texts"] (spAnswer K) := by
  refine F.ok sc_answer (fun vs H Q E h => ?_) (fun cdv A outer s H vs Q E hr h => ?_)
  · obtain ⟨c, a, b, zs, ts, as, rfl, _⟩ := h
    rfl
  · obtain ⟨c, a, b, zs, ts, as, rfl, hSa, hSb, hP, hC, hlen, k⟩ := h
    refine ⟨_, ((pss_cons (ps_for PassesOwn.never rfl (pi_list (pv 2)) (pg_name (i := 3) sc_answer.nd rfl (Or.inl rfl))
      (pss_cons (ps_set (i := 5) sc_answer.nd rfl (Or.inl rfl) (pe_has G_refusal_of (hr.mono (by decide)) (by rfl) (pa_cons (pv 3) pa_nil)))
      (pss_one (ps_if (pt_cmpR op_gt (pe_callB call_len_seq (by rfl) T.n_len PySem.boot_len (pa_cons (pv 5) pa_nil)) pe_int (nomark _)) (pss_one (ps_ret (pv 5))) pss_nil))))
      (pss_cons (ps_setLc (i := 4) rfl sc_answer.nd rfl rfl (sw_true rfl rfl rfl (by decide +kernel)) (pi_list (pv 2)) (blkOk_by (own := [("text", 3)]) (by kernel_rfl)) (fun _ _ _ _ _ => (pg_name (i := 3) sc_answer.nd rfl (Or.inl rfl))) (fun _ _ _ _ _ => pts_nil) (fun _ _ _ _ _ => (pe_has G_phases_of (hr.mono (by decide)) (by rfl) (pa_cons (pv 3) pa_nil))))
      (pss_cons (ps_if (pt_cmpR op_eq (pv 0) (pe_gi (by rfl) T.g_JUDGE) (nomark _)) (pss_one (ps_ret (pe_lst (pa_cons (pe_callB call_len_seq (by rfl) T.n_len PySem.boot_len (pa_cons (pe_ix ix_list (pv 4) pe_int (fun _ _ => rfl)) pa_nil)) pa_nil)))) pss_nil)
      (pss_cons (ps_if (pt_cmpR op_gt (pe_callB call_len_seq (by rfl) T.n_len PySem.boot_len (pa_cons (pv 1) pa_nil)) pe_int (nomark _)) (pss_one (ps_ret (pe_has G_timed_answer (hr.mono (by decide)) (by rfl) (pa_cons (pv 0) (pa_cons (pe_ix ix_list (pv 4) pe_int (fun _ _ => rfl)) (pa_cons (pe_ix ix_list (pv 1) pe_int (fun _ _ => rfl)) pa_nil)))))) pss_nil)
      (pss_one (ps_ret (pe_has G_light_answer (hr.mono (by decide)) (by rfl) (pa_cons (pv 0) (pa_cons (pe_lc rfl sc_answer.nd (pi_list (pv 4)) (blkOk_by (own := [("phases", 6)]) (by kernel_rfl)) (fun _ _ _ _ _ => (pg_name (i := 6) sc_answer.nd rfl (Or.inl rfl))) (fun _ _ _ _ _ => pts_nil) (fun _ _ _ _ _ => (pe_has G_light_of (hr.mono (by decide)) (by rfl) (pa_cons (pv 6) pa_nil)))) pa_nil)))))))))), ?_⟩
    obtain ⟨hts, hj, htm, hlt, hz01, _, _⟩ := call_texts hC
    rw [ans_body hC] at k
    have hal : as.length = ts.length := hP.length
    have htl : ts.length ≤ 2 := by
      cases hC with
      | one => exact Nat.le_of_ble_eq_true rfl
      | two => exact Nat.le_of_ble_eq_true rfl
      | timed => exact Nat.le_of_ble_eq_true rfl
    refine ⟨_, rfl, b, rfl, ⟨_, hSb⟩, for_list (K := K) (a := b) (xs := as.map V.ref) (fun i σ H' => ∃ (v3 v5 : Option V), σ = [some (.int c), some (.ref a), some (.ref b), v3, none, v5, none] ∧ Same H H' ∧ ∀ t ∈ ts.take i, refI t = [])
      ⟨none, none, rfl, Same.refl H, by simp⟩ (fun i σ H' _ ⟨_, _, _, s1, _⟩ => s1.seq hSb) ?_ ?_⟩
    · rintro i x σ H' hx ⟨v3, v5, rfl, s1, hall⟩
      rw [List.getElem?_map] at hx
      obtain ⟨q, hq, rfl⟩ := Option.map_eq_some_iff.mp hx
      obtain ⟨t, ht, hSt⟩ := pr_get hP hq
      refine ⟨_, rfl, q, t, rfl, s1.seq hSt, hlen t (List.mem_of_getElem? ht), fun H2 p2 s2 hp0 hp2 => ?_⟩
      refine ⟨_, rfl, p2, _, rfl, .inl (SqL.of hp2), _, _, rfl, rfl, _, rfl, ?_⟩
      by_cases hr0 : refI t = []
      · refine iteQ (decide_eq_false (by rw [hr0]; decide)) ?_
        refine ⟨_, _, rfl, s1.trans s2, fun u hu => ?_⟩
        rw [take_snoc ht] at hu
        rcases List.mem_append.mp hu with m | m
        · exact hall u m
        · rw [List.mem_singleton.mp m]
          exact hr0
      · refine iteP (decide_eq_true (by rw [List.length_map]; have := List.length_pos_iff.mpr hr0; omega)) ?_
        refine ⟨_, rfl, k H2 p2 (s1.trans s2) ⟨s1.free hp0, ?_⟩⟩
        rw [first_at_ref ht hall hr0]
        exact hp2
    · rintro σ H1 ⟨v3, v5, rfl, s1, hall⟩
      rw [List.length_map, hal, List.take_length] at hall
      rw [first_all hall] at k
      refine ⟨_, rfl, b, rfl, ⟨_, s1.seq hSb⟩, fun D hD => ?_⟩
      refine lc_list (K := K) (a := b) (xs := as.map V.ref) (fun i H' => Same H1 H' ∧ ∃ ps : List Addr, H' D = some (.lst (ps.map V.ref)) ∧ ps.length = i ∧ Paired (fun p r => p ≠ D ∧ ∃ us, H' p = some (.lst us) ∧ RhyV K H' us r) ps ((ts.take i).map Lt.rhyI)) ⟨Same.new hD, [], upd_same, rfl, .nil⟩ (fun i H' _ h => h.1.seq (s1.seq hSb)) ?_ ?_
      · rintro i x H' hx ⟨s2, ps, hd, hpl, hW⟩
        rw [List.getElem?_map] at hx
        obtain ⟨q, hq, rfl⟩ := Option.map_eq_some_iff.mp hx
        obtain ⟨t, ht, hSt⟩ := pr_get hP hq
        obtain ⟨hi, _⟩ := List.getElem?_eq_some_iff.mp ht
        have hrt := hall t (List.mem_of_getElem? ht)
        refine ⟨rfl, ?_⟩
        refine ⟨_, rfl, q, t, rfl, (s1.trans s2).seq hSt, hlen t (List.mem_of_getElem? ht), ref_fault hrt, fun H3 p3 us3 s3 hp30 hp3 hV3 => ?_⟩
        have hd3 := s3 _ _ hd
        have np : p3 ≠ D := fun e => by rw [e, hd] at hp30; cases hp30
        refine ⟨_, hd3, small (by rw [List.length_map]; omega), (s2.trans s3).put hD, ps ++ [p3], ?_, by rw [List.length_append]; show ps.length + 1 = i + 1; omega, ?_⟩
        · rw [upd_same, List.map_append]
          rfl
        · rw [take_snoc ht, List.map_append]
          refine pr_append (pr_imp (fun p r ⟨n1, us, e, v⟩ => ⟨n1, us, by rw [upd_ne n1]; exact s3 _ _ e, RhyV_lst (RhyV.same v s3) hd3⟩) hW) (.cons ⟨np, us3, by rw [upd_ne np]; exact hp3, RhyV_lst hV3 hd3⟩ .nil)
      · rintro H2 ⟨s2, ps, hd, hpl, hW⟩
        rw [List.length_map, hal, List.take_length] at hW
        rw [List.length_map, hal] at hpl
        have s12 := s1.trans s2
        obtain ⟨t0, ts', rfl⟩ : ∃ t0 ts', ts = t0 :: ts' := by
          cases ts with
          | nil => exact absurd rfl hts
          | cons t0 ts' => exact ⟨t0, ts', rfl⟩
        have g0 := good_of (hall t0 (by simp))
        obtain ⟨p0, ps', rfl⟩ : ∃ p0 ps', ps = p0 :: ps' := by
          cases ps with
          | nil => simp at hpl
          | cons p0 ps' => exact ⟨p0, ps', rfl⟩
        obtain ⟨us0, e0, v0⟩ : ∃ us, H2 p0 = some (.lst us) ∧ RhyV K H2 us (Lt.rhyI t0) := by
          cases hW with
          | cons q _ => exact q.2
        have hul0 : us0.length = (Lt.rhyI t0).length := v0.length
        have g0l := g0.len
        refine ⟨_, rfl, rfl, _, rfl, ?_⟩
        unfold bodyC at k
        by_cases c0 : c = 0
        · refine iteP (decide_eq_true (by rw [c0])) ?_
          rw [if_pos c0] at k
          refine ⟨_, rfl, D, _, _, _, rfl, rfl, SqL.of hd, atI_nat (j := 0) rfl, p0, _, rfl, .inl (SqL.of e0), (by show 1 ≤ sizeLine; decide), fun l hl => ?_⟩
          refine k _ l (s12.put (s12.free hl)) ⟨s12.free hl, ?_⟩
          show (upd _ l _) l = _
          rw [upd_same, hul0]
          rfl
        refine iteQ (decide_eq_false (fun e => c0 (by injection e))) ?_
        rw [if_neg c0] at k
        refine ⟨_, rfl, a, _, rfl, .inl (s12.seq hSa), _, _, rfl, rfl, _, rfl, ?_⟩
        by_cases hz : 0 < zs.length
        · refine iteP (decide_eq_true (by rw [List.length_map]; omega)) ?_
          rw [if_pos hz] at k
          obtain ⟨_, _, z, rfl, hz0⟩ := htm hz
          refine ⟨_, rfl, _, rfl, D, _, _, _, rfl, rfl, SqL.of hd, atI_nat (j := 0) rfl, _, rfl, a, _, _, _, rfl, rfl, s12.seq hSa, atI_nat (j := 0) rfl, c, p0, Lt.rhyI t0, z.toNat, ?_, ⟨us0, SqL.of e0, v0⟩, g0.pos, g0.ne, by omega, fun H3 p3 s3 l3 => ?_⟩
          · rw [Int.toNat_of_nonneg hz0]
            rfl
          · exact k H3 p3 (s12.trans s3) ⟨s12.free l3.1, l3.2⟩
        · refine iteQ (decide_eq_false (by rw [List.length_map]; omega)) ?_
          rw [if_neg hz] at k
          have hsh := hlt (by omega) c0
          refine ⟨_, rfl, _, rfl, D, rfl, ⟨_, SqL.of hd⟩, fun D2 hD2 => ?_⟩
          refine lc_list (K := K) (a := D) (xs := (p0 :: ps').map V.ref) (fun i H' => Same H2 H' ∧ ∃ ls : List Addr, H' D2 = some (.lst (ls.map V.ref)) ∧ ls.length = i ∧ Paired (fun p r => p ≠ D2 ∧ ∃ q n, q ≠ D2 ∧ LightAtQ C K H' p q r n) ls (((t0 :: ts').map Lt.rhyI).take i)) ⟨Same.new hD2, [], upd_same, rfl, .nil⟩ (fun i H' _ h => SqL.of (h.1 _ _ hd)) ?_ ?_
          · rintro i x H' hx ⟨s3, ls, hd3, hll, hX⟩
            rw [List.getElem?_map] at hx
            obtain ⟨pp, hpp, rfl⟩ := Option.map_eq_some_iff.mp hx
            obtain ⟨r, hr, ⟨_, us, e, v⟩⟩ := pr_get hW hpp
            obtain ⟨hi, _⟩ := List.getElem?_eq_some_iff.mp hr
            rw [List.length_map] at hi
            have gr : Good r := by
              rw [List.getElem?_map] at hr
              obtain ⟨t, ht, rfl⟩ := Option.map_eq_some_iff.mp hr
              exact good_of (hall t (List.mem_of_getElem? ht))
            have grl := gr.len
            refine ⟨rfl, ?_⟩
            refine ⟨_, rfl, pp, r, rfl, ⟨us, SqL.of (s3 _ _ e), RhyV.same v s3⟩, gr.pos, gr.ne, by omega, fun H4 p4 q4 n4 s4 hp4 hq4 hL4 => ?_⟩
            have hd4 := s4 _ _ hd3
            have np : p4 ≠ D2 := fun e => by rw [e, hd3] at hp4; cases hp4
            have nq : q4 ≠ D2 := fun e => by rw [e, hd3] at hq4; cases hq4
            have up : ∀ {p q : Addr} {r : Rhythm} {n : Nat} {o : HO}, p ≠ D2 → q ≠ D2 → LightAtQ C K H4 p q r n → LightAtQ C K (upd H4 D2 o) p q r n := by
              rintro p q r n o n1 n2 ⟨dx, h1, ⟨ws, h2, h3⟩, h4⟩
              exact ⟨dx, by rw [upd_ne n1]; exact h1, ⟨ws, SqL_ne h2 n2, RhyV_lst h3 hd4⟩, h4⟩
            refine ⟨_, hd4, small (by rw [List.length_map]; omega), (s3.trans s4).put hD2, ls ++ [p4], ?_, by rw [List.length_append]; show ls.length + 1 = i + 1; omega, ?_⟩
            · rw [upd_same, List.map_append]
              rfl
            · rw [take_snoc hr]
              refine pr_append (pr_imp (fun p r ⟨n1, q, n, n2, h⟩ => ⟨n1, q, n, n2, up n1 n2 ?_⟩) hX) (.cons ⟨np, q4, n4, nq, up np nq hL4⟩ .nil)
              obtain ⟨dx, h1, h2, h3⟩ := h
              exact ⟨dx, s4 _ _ h1, h2.same s4, h3⟩
          · rintro H3 ⟨s3, ls, hd3, hll, hX⟩
            have e1 : ((p0 :: ps').map V.ref).length = ((t0 :: ts').map Lt.rhyI).length := by
              rw [List.length_map, List.length_map]
              exact hpl
            rw [e1, List.take_length] at hX
            refine ⟨c, D2, ls, _, rfl, SqL.of hd3, pr_imp (fun p r ⟨_, q, n, _, h⟩ => ⟨n, h.at⟩) hX, fun r hr => ?_, ?_, fun H4 p4 s4 l4 => ?_⟩
            · obtain ⟨t, ht, rfl⟩ := List.mem_map.mp hr
              exact good_of (hall t ht)
            · rw [List.length_map]
              exact hsh
            · exact k H4 p4 ((s12.trans s3).trans s4) ⟨(s12.trans s3).free l4.1, l4.2⟩
end
end Py
end
section
set_option Elab.async false
set_option linter.all false
set_option maxRecDepth 100000
set_option maxHeartbeats 4000000
namespace Py
open PySem PySem.Spec PyProof.Rows L2
open Bn (Rhythm Phase)
theorem cut_mid (us : List V) (i j : Nat) (h : i ≤ j) (hj : j ≤ us.length) : cutV us (some (i : Int)) (some (j : Int)) = (us.drop i).take (j - i) := by
  unfold cutV
  rw [HT.sIx_nat, HT.sIx_nat, Nat.min_eq_left hj, Nat.min_eq_left (by omega)]
theorem pr_mem {F G : Addr → List Int → Prop} {R : Addr → Prop} : ∀ {as : List Addr} {ts : List (List Int)}, (∀ z ∈ as, R z) → (∀ z t, R z → F z t → G z t) → Paired F as ts → Paired G as ts
  | _, _, _, _, .nil => .nil
  | _, _, h, g, .cons e t => .cons (g _ _ (h _ List.mem_cons_self) e) (pr_mem (fun z m => h z (List.mem_cons_of_mem _ m)) g t)
theorem mem_sum : ∀ {ts : List (List Int)} {t : List Int}, t ∈ ts → t.length ≤ (ts.map (·.length)).sum
  | [], _, h => nomatch h
  | u :: ts, t, h => by
    rw [List.map_cons, List.sum_cons]
    rcases List.mem_cons.mp h with rfl | h
    · omega
    · have := mem_sum h
      omega
theorem rows_append (a b : List (List Int)) : PyFlat.putRows (a ++ b) = PyFlat.putRows a ++ PyFlat.putRows b := by
  induction a with
  | nil => rfl
  | cons x a ih =>
    show PyFlat.putRow x ++ PyFlat.putRows (a ++ b) = (PyFlat.putRow x ++ PyFlat.putRows a) ++ PyFlat.putRows b
    rw [ih, List.append_assoc]
theorem rows_len (ts : List (List Int)) : (PyFlat.putRows ts).length = ts.length + (ts.map (·.length)).sum := by
  induction ts with
  | nil => rfl
  | cons t ts ih =>
    show (PyFlat.putRow t ++ PyFlat.putRows ts).length = _
    rw [List.length_append, ih]
    show t.length + 1 + _ = _
    rw [List.length_cons, List.map_cons, List.sum_cons]
    omega
section
variable {P : Program} {w : World} {K : PySem.W.Frag} {mg : Str → Option Value} {base : Heap} {C : Addr}
/-! mX# texts_at -/
abbrev s_texts_at : Stmt := top 72
theorem sc_texts_at : FnScope ["calls", "place", "count", "texts", "behind"] ["calls", "place", "count"] (defScope s_texts_at) := ⟨rfl, rfl, rfl, by decide +kernel, rfl, by decide +kernel, by decide +kernel⟩
def spTexts (K : PySem.W.Frag) : Sp := fun vs H Q _ => ∃ (a : Addr) (l : List Int) (pre : Nat) (ts : List (List Int)) (rest : List Int), vs = [.ref a, .int ((pre : Nat) : Int), .int ((ts.length : Nat) : Int)] ∧ SqL K H a (l.map V.int) ∧ l.length ≤ 100000 ∧ pre ≤ l.length ∧ l.drop pre = PyFlat.putRows ts ++ rest ∧
  ∀ H' p as, Same H H' → H p = none → (∀ q ∈ as, H q = none) → H' p = some (.lst (as.map V.ref)) → Paired (fun q (t : List Int) => H' q = some (.lst (t.map V.int))) as ts → Q (.ref p) H'
theorem ok_texts_at {f : Addr} {fd : FuncData} (F : Fun K "texts_at" "texts_at" s_texts_at f fd) (T : Txt K mg) : FnOk P w K mg base CX0 1 f fd ["calls", "place", "count"] (spTexts K) := by
  refine F.ok sc_texts_at (fun vs H Q E h => ?_) (fun cdv A outer s H vs Q E hr h => ?_)
  · obtain ⟨a, l, pre, ts, rest, rfl, _⟩ := h
    rfl
  · obtain ⟨a, l, pre, ts, rest, rfl, hS, hlen, hpre, el, kk⟩ := h
    refine ⟨_, ((pss_cons (ps_set (i := 3) sc_texts_at.nd rfl (Or.inl rfl) (pe_lst pa_nil))
      (pss_cons (ps_while PassesOwn.never (pt_cmpR op_lt (pe_callB call_len_seq (by rfl) T.n_len PySem.boot_len (pa_cons (pv 3) pa_nil)) (pv 2) (nomark _)) (pss_cons (ps_set (i := 4) sc_texts_at.nd rfl (Or.inl rfl) (pe_op op_add (pe_op op_add (pv 1) pe_int) (pe_ix ix_list (pv 0) (pv 1) (fun _ _ => rfl))))
      (pss_cons (ps_expr (pe_bm PySem.F.plainAttrs_list PySem.F.slot_list_append PySem.F.type_list_append mt_append (pv 3) (pa_cons (pe_slice sl_list (pv 0) (po_some (pe_op op_add (pv 1) pe_int)) (po_some (pv 4))) pa_nil)))
      (pss_one (ps_set (i := 1) sc_texts_at.nd rfl (Or.inl rfl) (pv 4))))))
      (pss_one (ps_ret (pv 3)))))), ?_⟩
    refine ⟨Nat.zero_le _, fun p hp0 => ?_⟩
    have hll : pre + (PyFlat.putRows ts).length ≤ l.length := by
      have := congrArg List.length el
      rw [List.length_drop, List.length_append] at this
      omega
    refine while_by (fun σ H' => ∃ (k : Nat) (v4 : Option V) (as : List Addr), σ = [some (.ref a), some (.int ((pre + (PyFlat.putRows (ts.take k)).length : Nat) : Int)), some (.int ((ts.length : Nat) : Int)), some (.ref p), v4] ∧ k ≤ ts.length ∧ Same H H' ∧ H' p = some (.lst (as.map V.ref)) ∧ p ∉ as ∧ (∀ q ∈ as, H q = none) ∧
        Paired (fun q (t : List Int) => H' q = some (.lst (t.map V.int))) as (ts.take k))
      (fun (σ : L2.St) _ => l.length + 1 - slotN σ 1) ⟨0, none, [], ?_, Nat.zero_le _, Same.new hp0, upd_same, by simp, (fun q hq => nomatch hq), .nil⟩ ?_ ?_
    · rfl
    · rintro σ H' ⟨k, v4, as, rfl, hk, s1, hp, hpa, hnw, hP⟩
      have hal : as.length = k := by
        have := hP.length
        rw [List.length_take] at this
        omega
      refine ⟨_, rfl, p, _, rfl, .inl (SqL.of hp), _, rfl, _, _, rfl, rfl, _, rfl, ?_⟩
      rw [List.length_map, hal]
      by_cases hlt : k < ts.length
      · refine iteP (decide_eq_true (by omega)) ?_
        have hx : ts[k]? = some ts[k] := List.getElem?_eq_getElem hlt
        generalize ets : ts[k] = t at hx
        have esplit : PyFlat.putRows ts = PyFlat.putRows (ts.take k) ++ (PyFlat.putRow t ++ PyFlat.putRows (ts.drop (k + 1))) := by
          have : ts = ts.take k ++ t :: ts.drop (k + 1) := by
            rw [← ets, ← List.drop_eq_getElem_cons hlt, List.take_append_drop]
          conv => lhs; rw [this]
          rw [rows_append]
          rfl
        have etake : PyFlat.putRows (ts.take (k + 1)) = PyFlat.putRows (ts.take k) ++ PyFlat.putRow t := by
          rw [take_snoc hx, rows_append]
          show _ ++ (PyFlat.putRow t ++ []) = _
          rw [List.append_nil]
        generalize eP : pre + (PyFlat.putRows (ts.take k)).length = P0
        have eL : l.drop P0 = ((t.length : Nat) : Int) :: (t ++ (PyFlat.putRows (ts.drop (k + 1)) ++ rest)) := by
          rw [← eP, ← List.drop_drop, el, esplit, List.append_assoc, List.drop_left]
          show PyFlat.putRow t ++ PyFlat.putRows (ts.drop (k + 1)) ++ rest = _
          rw [List.append_assoc]
          rfl
        have hP0 : P0 + 1 + t.length ≤ l.length := by
          have := congrArg List.length eL
          rw [List.length_drop, List.length_cons, List.length_append] at this
          omega
        have hat : (l.map V.int)[P0]? = some (V.int ((t.length : Nat) : Int)) := by
          rw [List.getElem?_map]
          have : l[P0]? = (l.drop P0)[0]? := by rw [List.getElem?_drop]; rfl
          rw [this, eL]
          rfl
        have ecut : cutV (l.map V.int) (some (((P0 : Nat) : Int) + 1)) (some (((P0 : Nat) : Int) + 1 + ((t.length : Nat) : Int))) = t.map V.int := by
          have e1 : ((P0 : Nat) : Int) + 1 = ((P0 + 1 : Nat) : Int) := by omega
          have e2 : ((P0 : Nat) : Int) + 1 + ((t.length : Nat) : Int) = ((P0 + 1 + t.length : Nat) : Int) := by omega
          rw [e2, e1, cut_mid _ _ _ (by omega) (by rw [List.length_map]; omega), ← List.map_drop, ← List.map_take]
          congr 1
          rw [← List.drop_drop, eL]
          show ((t ++ _)).take _ = t
          have e3 : P0 + 1 + t.length - (P0 + 1) = t.length := by omega
          rw [e3, List.take_left]
        refine ⟨_, rfl, _, _, rfl, rfl, _, rfl, _, rfl, a, _, _, _, rfl, rfl, s1.seq hS, atI_nat hat, _, _, rfl, rfl, ?_⟩
        refine ⟨_, rfl, .inl ⟨rfl, _, SqL.of hp⟩, _, rfl, _, rfl, _, _, rfl, rfl, _, rfl, _, rfl, _, rfl, a, _, rfl, s1.seq hS, fun q hq => ?_⟩
        have eh : ∀ cut, cut = t.map V.int → upd H' q (.lst cut) = upd H' q (.lst (t.map V.int)) := fun cut e => by rw [e]
        rw [eh _ ecut]
        have hp2 : (upd H' q (.lst (t.map V.int))) p = some (.lst (as.map V.ref)) := by
          rw [upd_ne (ne_of_none hp hq)]
          exact hp
        have npq : p ≠ q := ne_of_none hp hq
        have hqa : q ∉ as := fun m => by
          obtain ⟨i, hi, e⟩ := List.getElem_of_mem m
          obtain ⟨y, _, gy⟩ := pr_get hP (List.getElem?_eq_getElem hi)
          rw [e, hq] at gy
          cases gy
        refine ⟨p, _, _, rfl, rfl, hp2, small (by rw [List.length_map]; have := rows_len ts; omega), ?_⟩
        refine ⟨_, rfl, ⟨k + 1, some (.int (((P0 : Nat) : Int) + 1 + ((t.length : Nat) : Int))), as ++ [q], ?_, hlt, (s1.put (s1.free hq)).put hp0, ?_, ?_, ?_, ?_⟩, ?_⟩
        · have e4 : ((pre + (PyFlat.putRows (ts.take (k + 1))).length : Nat) : Int) = ((P0 : Nat) : Int) + 1 + ((t.length : Nat) : Int) := by
            rw [etake, List.length_append]
            show ((pre + ((PyFlat.putRows (ts.take k)).length + (t.length + 1)) : Nat) : Int) = _
            omega
          rw [e4]
          rfl
        · rw [upd_same, List.map_append]
          rfl
        · intro m
          rcases List.mem_append.mp m with m | m
          · exact hpa m
          · exact npq (List.mem_singleton.mp m)
        · intro z m
          rcases List.mem_append.mp m with m | m
          · exact hnw z m
          · rw [List.mem_singleton.mp m]
            exact s1.free hq
        · rw [take_snoc hx]
          refine pr_append ?_ (.cons ?_ .nil)
          · have go : ∀ {as : List Addr} {ts : List (List Int)}, Paired (fun q (t : List Int) => H' q = some (.lst (t.map V.int))) as ts → p ∉ as → q ∉ as → ∀ {o1 o2 : HO}, Paired (fun q' (t : List Int) => (upd (upd H' q o1) p o2) q' = some (.lst (t.map V.int))) as ts := by
              intro as ts h
              induction h with
              | nil => intros; exact .nil
              | cons e tt ih =>
                intro d1 d2 o1 o2
                refine .cons ?_ (ih (fun m => d1 (List.mem_cons_of_mem _ m)) (fun m => d2 (List.mem_cons_of_mem _ m)))
                rw [upd_ne (fun z => d1 (by rw [z]; exact List.mem_cons_self)), upd_ne (fun z => d2 (by rw [z]; exact List.mem_cons_self))]
                exact e
            exact go hP hpa hqa
          · rw [upd_ne npq.symm]
            exact upd_same
        · show l.length + 1 - ((((P0 : Nat) : Int) + 1 + ((t.length : Nat) : Int))).toNat < l.length + 1 - (((P0 : Nat) : Int)).toNat
          omega
      · refine iteQ (decide_eq_false (by omega)) ?_
        have ek : k = ts.length := by omega
        rw [ek, List.take_length] at hP
        exact ⟨_, rfl, kk H' p as s1 hp0 hnw hp hP⟩
    · rintro σ H0 Q0 Q1 hq ⟨a1, a2, b1, b2, b3, b4, c1, c2, d1, d2, d3, d4, d5, d6, d7⟩
      exact ⟨a1, a2, b1, b2, b3, b4, c1, c2, d1, d2, d3, d4, d5, d6, hq _ _ d7⟩
/-! mX# answers -/
abbrev s_answers : Stmt := top 73
theorem sc_answers : FnScope ["calls", "told", "place", "call", "begin", "texts", "numbers", "text"] ["calls"] (defScope s_answers) := ⟨rfl, rfl, rfl, by decide +kernel, rfl, by decide +kernel, by decide +kernel⟩
def spAns (K : PySem.W.Frag) : Sp := fun vs H Q _ => ∃ a cs, vs = [.ref a] ∧ SqL K H a ((PyFlat.put cs).map V.int) ∧ (PyFlat.put cs).length ≤ 30000 ∧ (∀ c ∈ cs, Lt.CallIs c) ∧ cs.length ≤ 400 ∧
  ∀ H' p, H' p = some (.lst ((PyFlat.told (cs.map Lt.ans1)).map V.int)) → Q (.ref p) H'
theorem told_len : ∀ {cs : List (List (List Int))}, (∀ c ∈ cs, Lt.CallIs c) → (PyFlat.told (cs.map Lt.ans1)).length ≤ 1001 * cs.length
  | [], _ => Nat.le_refl _
  | c :: cs, h => by
    have ih := told_len (cs := cs) fun d hd => h d (by simp [hd])
    have hc := h c (by simp)
    have e : PyFlat.told ((c :: cs).map Lt.ans1) = (((Lt.ans1 c).length : Nat) : Int) :: Lt.ans1 c ++ PyFlat.told (cs.map Lt.ans1) := rfl
    rw [e, List.length_append, List.length_cons, List.length_cons]
    have hl : (Lt.ans1 c).length ≤ 1000 := by
      cases hc with
      | one p t hp hb => exact ans_len (.one p t hp hb)
      | two p t u hp hb hu => exact ans_len (.two p t u hp hb hu)
      | timed p z t hp h0 h1 hb => exact ans_len (.timed p z t hp h0 h1 hb)
    omega
theorem call_form {c : List (List Int)} (h : Lt.CallIs c) : ∃ p zs ts, c = (p :: zs) :: ts ∧ ([0, 0, 0, 0, 1, 1, 0, 0] : List Int)[p.toNat]? = some ((zs.length : Nat) : Int) ∧ ([1, 1, 2, 2, 1, 1, 1, 1] : List Int)[p.toNat]? = some ((ts.length : Nat) : Int) ∧ 0 ≤ p := by
  cases h with
  | one p t hp hb =>
    refine ⟨p, [], [t], rfl, ?_, ?_, by omega⟩
    · rcases hp with rfl | rfl | rfl | rfl <;> rfl
    · rcases hp with rfl | rfl | rfl | rfl <;> rfl
  | two p t u hp hb hu =>
    refine ⟨p, [], [t, u], rfl, ?_, ?_, by omega⟩
    · rcases hp with rfl | rfl <;> rfl
    · rcases hp with rfl | rfl <;> rfl
  | timed p z t hp h0 h1 hb =>
    refine ⟨p, [z], [t], rfl, ?_, ?_, by omega⟩
    · rcases hp with rfl | rfl <;> rfl
    · rcases hp with rfl | rfl <;> rfl
theorem ok_answers {f : Addr} {fd : FuncData} (F : Fun K "answers" "answers" s_answers f fd) (T : Txt K mg) (G_texts_at : Has P w K mg base 1 "texts_at" ["calls", "place", "count"] (spTexts K)) (G_answer : Has P w K mg base 9 "answer" ["call", "times", "texts"] (spAnswer K)) : FnOk P w K mg base CX0 10 f fd ["calls"] (spAns K) := by
  refine F.ok sc_answers (fun vs H Q E h => ?_) (fun cdv A outer s H vs Q E hr h => ?_)
  · obtain ⟨a, cs, rfl, _⟩ := h
    rfl
  · obtain ⟨a, cs, rfl, hS, hlen, hC, h400, kk⟩ := h
    obtain ⟨aT, mT, hT⟩ := T.g_TIMES
    obtain ⟨aX, mX, hX⟩ := T.g_TEXTS
    refine ⟨_, ((pss_cons (ps_set (i := 1) sc_answers.nd rfl (Or.inl rfl) (pe_lst pa_nil))
      (pss_cons (ps_set (i := 2) sc_answers.nd rfl (Or.inl rfl) pe_int)
      (pss_cons (ps_while PassesOwn.never (pt_cmpR op_lt (pv 2) (pe_callB call_len_seq (by rfl) T.n_len PySem.boot_len (pa_cons (pv 0) pa_nil)) (nomark _)) (pss_cons (ps_set (i := 3) sc_answers.nd rfl (Or.inl rfl) (pe_ix ix_list (pv 0) (pv 2) (fun _ _ => rfl)))
      (pss_cons (ps_set (i := 4) sc_answers.nd rfl (Or.inl rfl) (pe_op op_add (pe_op op_add (pv 2) pe_int) (pe_ix ix_tup (pe_gr (by rfl) mT) (pv 3) (fun _ _ => rfl))))
      (pss_cons (ps_set (i := 5) sc_answers.nd rfl (Or.inl rfl) (pe_has G_texts_at (hr.mono (by decide)) (by rfl) (pa_cons (pv 0) (pa_cons (pv 4) (pa_cons (pe_ix ix_tup (pe_gr (by rfl) mX) (pv 3) (fun _ _ => rfl)) pa_nil)))))
      (pss_cons (ps_set (i := 6) sc_answers.nd rfl (Or.inl rfl) (pe_has G_answer (hr.mono (by decide)) (by rfl) (pa_cons (pv 3) (pa_cons (pe_slice sl_list (pv 0) (po_some (pe_op op_add (pv 2) pe_int)) (po_some (pv 4))) (pa_cons (pv 5) pa_nil)))))
      (pss_cons (ps_expr (pe_bm PySem.F.plainAttrs_list PySem.F.slot_list_append PySem.F.type_list_append mt_append (pv 1) (pa_cons (pe_callB call_len_seq (by rfl) T.n_len PySem.boot_len (pa_cons (pv 6) pa_nil)) pa_nil)))
      (pss_cons (ps_expr (pe_bm PySem.F.plainAttrs_list PySem.F.slot_list_extend PySem.F.type_list_extend mt_extend (pv 1) (pa_cons (pv 6) pa_nil)))
      (pss_one (ps_set (i := 2) sc_answers.nd rfl (Or.inl rfl) (pe_op op_add (pe_op op_add (pv 4) (pe_callB call_len_seq (by rfl) T.n_len PySem.boot_len (pa_cons (pv 5) pa_nil))) (pe_callB (cr_sum rfl) (by rfl) T.n_sum boot_sum (pa_cons (pe_lc rfl sc_answers.nd (pi_list (pv 5)) (blkOk_by (own := [("text", 7)]) (by kernel_rfl)) (fun _ _ _ _ _ => (pg_name (i := 7) sc_answers.nd rfl (Or.inl rfl))) (fun _ _ _ _ _ => pts_nil) (fun _ _ _ _ _ => (pe_callB (call_len_seqK (K := K) rfl) (by rfl) T.n_len PySem.boot_len (pa_cons (pv 7) pa_nil)))) pa_nil))))))))))))
      (pss_one (ps_ret (pv 1))))))), ?_⟩
    refine ⟨Nat.zero_le _, fun p hp0 => ?_⟩
    generalize eLl : PyFlat.put cs = L at hS hlen
    refine while_by (fun σ H' => ∃ (done rest : List (List (List Int))) (v3 v4 v5 v6 v7 : Option V), cs = done ++ rest ∧ σ = [some (.ref a), some (.ref p), some (.int (((PyFlat.put done).length : Nat) : Int)), v3, v4, v5, v6, v7] ∧ Same H H' ∧ H' p = some (.lst ((PyFlat.told (done.map Lt.ans1)).map V.int)))
      (fun (σ : L2.St) _ => L.length + 1 - slotN σ 2) ⟨[], cs, none, none, none, none, none, rfl, rfl, Same.new hp0, upd_same⟩ ?_ ?_
    · rintro σ H' ⟨done, rest, v3, v4, v5, v6, v7, ecs, rfl, s1, hp⟩
      have eL : L = PyFlat.put done ++ PyFlat.put rest := by rw [← eLl, ecs, Lt.put_append]
      refine ⟨_, rfl, _, rfl, a, _, rfl, .inl (s1.seq hS), _, _, rfl, rfl, _, rfl, ?_⟩
      rw [List.length_map]
      cases rest with
      | nil =>
        refine iteQ (decide_eq_false (by rw [eL]; show ¬ (_ < (((PyFlat.put done ++ []).length : Nat) : Int)); rw [List.append_nil]; omega)) ?_
        rw [List.append_nil] at ecs
        refine ⟨_, rfl, kk H' p ?_⟩
        rw [ecs]
        exact hp
      | cons c rest =>
        have hc : Lt.CallIs c := hC c (by rw [ecs]; simp)
        obtain ⟨pc, zs, ts, rfl, hz, ht, hpc⟩ := call_form hc
        generalize eN : (PyFlat.put done).length = N
        have eD : L.drop N = pc :: (zs ++ (PyFlat.putRows ts ++ PyFlat.put rest)) := by
          rw [eL, ← eN, List.drop_left]
          show (((pc :: zs) ++ PyFlat.putRows ts) ++ PyFlat.put rest) = _
          rw [List.append_assoc]
          rfl
        have hNl : N + 1 + zs.length + (PyFlat.putRows ts).length + (PyFlat.put rest).length = L.length := by
          have := congrArg List.length eD
          rw [List.length_drop, List.length_cons, List.length_append, List.length_append] at this
          omega
        have hat : (L.map V.int)[N]? = some (V.int pc) := by
          rw [List.getElem?_map]
          have : L[N]? = (L.drop N)[0]? := by rw [List.getElem?_drop]; rfl
          rw [this, eD]
          rfl
        refine iteP (decide_eq_true (by omega)) ?_
        refine ⟨_, rfl, _, rfl, a, _, _, _, rfl, rfl, s1.seq hS, atI_nat hat, ?_⟩
        have hz' : (([0, 0, 0, 0, 1, 1, 0, 0] : List Int).map V.int)[pc.toNat]? = some (V.int ((zs.length : Nat) : Int)) := by
          rw [List.getElem?_map, hz]
          rfl
        have ht' : (([1, 1, 2, 2, 1, 1, 1, 1] : List Int).map V.int)[pc.toNat]? = some (V.int ((ts.length : Nat) : Int)) := by
          rw [List.getElem?_map, ht]
          rfl
        have ix : ∀ {xs : List V} {v : V}, xs[pc.toNat]? = some v → atI xs pc = some v := fun {xs v} h => by
          have := atI_nat h
          rw [Int.toNat_of_nonneg hpc] at this
          exact this
        refine ⟨_, rfl, _, _, rfl, rfl, _, rfl, aT, _, _, _, rfl, rfl, SqT_kt hT, ix hz', _, _, rfl, rfl, ?_⟩
        have eB : ((N : Nat) : Int) + 1 + ((zs.length : Nat) : Int) = ((N + 1 + zs.length : Nat) : Int) := by omega
        have hrl := rows_len ts
        refine ⟨_, rfl, _, rfl, _, rfl, aX, _, _, _, rfl, rfl, SqT_kt hX, ix ht', a, L, N + 1 + zs.length, ts, PyFlat.put rest, ?_, s1.seq hS, by omega, by omega, ?_, fun H2 p2 as s2 hp20 hnw2 hp2 hP2 => ?_⟩
        · show [V.ref a, V.int (((N : Nat) : Int) + 1 + ((zs.length : Nat) : Int)), V.int ((ts.length : Nat) : Int)] = _
          rw [eB]
        · rw [Nat.add_assoc, ← List.drop_drop, eD]
          show (pc :: (zs ++ (PyFlat.putRows ts ++ PyFlat.put rest))).drop (1 + zs.length) = _
          rw [Nat.add_comm 1, List.drop_succ_cons, List.drop_left]
        have s12 := s1.trans s2
        have hp' := s2 _ _ hp
        refine ⟨_, rfl, _, rfl, _, rfl, _, _, rfl, rfl, _, rfl, _, rfl, _, rfl, a, _, rfl, s12.seq hS, fun q hq => ?_⟩
        have ecut : cutV (L.map V.int) (some (((N : Nat) : Int) + 1)) (some (((N : Nat) : Int) + 1 + ((zs.length : Nat) : Int))) = zs.map V.int := by
          have e1 : ((N : Nat) : Int) + 1 = ((N + 1 : Nat) : Int) := by omega
          rw [eB, e1, cut_mid _ _ _ (by omega) (by rw [List.length_map]; omega), ← List.map_drop, ← List.map_take]
          congr 1
          rw [← List.drop_drop, eD]
          show ((zs ++ _)).take _ = zs
          have e3 : N + 1 + zs.length - (N + 1) = zs.length := by omega
          rw [e3, List.take_left]
        have eh : ∀ cut, cut = zs.map V.int → upd H2 q (.lst cut) = upd H2 q (.lst (zs.map V.int)) := fun cut e => by rw [e]
        rw [eh _ ecut]
        have s3 := s12.put (s12.free hq) (o := .lst (zs.map V.int))
        have s23 : Same H2 (upd H2 q (.lst (zs.map V.int))) := Same.new hq
        have hq3 : (upd H2 q (.lst (zs.map V.int))) q = some (.lst (zs.map V.int)) := upd_same
        generalize (upd H2 q (.lst (zs.map V.int))) = H3 at s3 s23 hq3
        have hP3 := pr_imp (G := fun q (t : List Int) => H3 q = some (.lst (t.map V.int))) (fun q t e => s23 _ _ e) hP2
        have htb : ∀ t ∈ ts, t.length ≤ 100000 := fun t htm => by
          have h5 := mem_sum htm
          omega
        refine ⟨_, rfl, pc, q, p2, zs, ts, as, rfl, SqL.of hq3, SqL.of (s23 _ _ hp2), pr_imp (fun q t e => SqL.of e) hP3, hc, htb, fun H4 p4 s4 l4 => ?_⟩
        have hp4 := s4 _ _ (s23 _ _ hp')
        have np : p ≠ p4 := fun e => by
          have := s23 _ _ hp'
          rw [e, l4.1] at this
          cases this
        have hdc : ∀ d ∈ done, Lt.CallIs d := fun d hd => hC d (by rw [ecs]; simp [hd])
        have tl := told_len hdc
        have hdl : done.length < 400 := by
          have := congrArg List.length ecs
          rw [List.length_append, List.length_cons] at this
          omega
        have al := ans_len hc
        generalize eA : Lt.ans1 ((pc :: zs) :: ts) = A1 at l4 al
        refine ⟨_, rfl, .inl ⟨rfl, _, SqL.of hp4⟩, _, rfl, p4, _, rfl, .inl (SqL.of l4.2), p, _, _, rfl, rfl, hp4, small (by rw [List.length_map]; omega), ?_⟩
        rw [List.length_map]
        have s14 : Same H H4 := s3.trans s4
        generalize eTD : (PyFlat.told (done.map Lt.ans1)).map V.int = TD at hp4
        have tdl : TD.length ≤ 1001 * done.length := by
          rw [← eTD, List.length_map]
          exact tl
        generalize eH5 : upd H4 p (.lst (TD ++ [V.int ((A1.length : Nat) : Int)])) = H5
        have s15 : Same H H5 := by
          rw [← eH5]
          exact s14.put hp0
        have k5 : ∀ z, z ≠ p → H5 z = H4 z := fun z hz => by
          rw [← eH5]
          exact upd_ne hz
        have hp5 : H5 p = some (.lst (TD ++ [V.int ((A1.length : Nat) : Int)])) := by
          rw [← eH5]
          exact upd_same
        clear eH5
        refine ⟨_, rfl, .inl ⟨rfl, _, SqL.of hp5⟩, _, rfl, p, p4, _, _, rfl, rfl, hp5, (k5 p4 np.symm).trans l4.2, ?_, ?_⟩
        · rw [List.length_append, List.length_map]
          exact Nat.le_of_lt (small (by show _ + 1 + _ ≤ _; omega))
        have np2 : p2 ≠ p := fun e => by rw [e, hp] at hp20; cases hp20
        have hasp : ∀ z ∈ as, z ≠ p := fun z hz e => by
          have := hnw2 z hz
          rw [e, hp] at this
          cases this
        generalize eH7 : upd H5 p (.lst (TD ++ [V.int ((A1.length : Nat) : Int)] ++ A1.map V.int)) = H7
        have s17 : Same H H7 := by
          rw [← eH7]
          exact s15.put hp0
        have k7 : ∀ z, z ≠ p → H7 z = H4 z := fun z hz => by
          rw [← eH7, upd_ne hz]
          exact k5 z hz
        have h7p : H7 p = some (.lst (TD ++ [V.int ((A1.length : Nat) : Int)] ++ A1.map V.int)) := by
          rw [← eH7]
          exact upd_same
        clear eH7
        have hP7 : Paired (fun q (t : List Int) => H7 q = some (.lst (t.map V.int))) as ts := pr_mem hasp (fun z t hz e => (k7 z hz).trans (s4 _ _ e)) hP3
        have h72 : H7 p2 = some (.lst (as.map V.ref)) := (k7 p2 np2).trans (s4 _ _ (s23 _ _ hp2))
        have hasl : as.length = ts.length := hP7.length
        refine ⟨_, rfl, _, rfl, p2, _, rfl, .inl (SqL.of h72), _, _, rfl, rfl, _, rfl, p2, rfl, ⟨_, SqL.of h72⟩, fun D hD => ?_⟩
        refine lc_list (K := K) (a := p2) (xs := as.map V.ref) (fun i H' => Same H7 H' ∧ H' D = some (.lst (((ts.take i).map fun t => ((t.length : Nat) : Int)).map V.int))) ⟨Same.new hD, upd_same⟩ (fun i H' _ h => SqL.of (h.1 _ _ h72)) ?_ ?_
        · rintro i x H' hx ⟨s8, hd8⟩
          rw [List.getElem?_map] at hx
          obtain ⟨z, hzz, rfl⟩ := Option.map_eq_some_iff.mp hx
          obtain ⟨t, htt, hzt⟩ := pr_get hP7 hzz
          obtain ⟨hi, _⟩ := List.getElem?_eq_some_iff.mp htt
          refine ⟨rfl, ?_⟩
          refine ⟨_, rfl, z, _, rfl, .inl (SqL.of (s8 _ _ hzt)), _, hd8, small (by rw [List.length_map, List.length_map, List.length_take]; omega), s8.put hD, ?_⟩
          rw [upd_same, take_snoc htt, List.map_append, List.map_append, List.length_map]
          rfl
        · rintro H8 ⟨s8, hd8⟩
          rw [List.length_map, hasl, List.take_length] at hd8
          refine ⟨D, ts.map (fun t => ((t.length : Nat) : Int)), rfl, SqL.of hd8, _, _, rfl, rfl, ?_⟩
          have esum : ∀ us : List (List Int), (us.map fun t => ((t.length : Nat) : Int)).sum = (((us.map (·.length)).sum : Nat) : Int) := by
            intro us
            induction us with
            | nil => rfl
            | cons u us ih => rw [List.map_cons, List.map_cons, List.sum_cons, List.sum_cons, ih, Int.natCast_add]
          have eput : (PyFlat.put (done ++ [(pc :: zs) :: ts])).length = N + 1 + zs.length + (PyFlat.putRows ts).length := by
            rw [Lt.put_append, List.length_append, eN]
            show N + (((pc :: zs) ++ PyFlat.putRows ts) ++ []).length = _
            rw [List.append_nil, List.length_append, List.length_cons]
            omega
          have eplace : ((N : Nat) : Int) + 1 + ((zs.length : Nat) : Int) + (((as.map V.ref).length : Nat) : Int) + (ts.map fun t => ((t.length : Nat) : Int)).sum = (((PyFlat.put (done ++ [(pc :: zs) :: ts])).length : Nat) : Int) := by
            rw [esum, eput, List.length_map, hasl, hrl]
            omega
          refine ⟨⟨done ++ [(pc :: zs) :: ts], rest, some (.int pc), some (.int (((N : Nat) : Int) + 1 + ((zs.length : Nat) : Int))), some (.ref p2), some (.ref p4), v7, by rw [ecs, List.append_assoc]; rfl, ?_, s17.trans s8, ?_⟩, ?_⟩
          · rw [← eplace]
            rfl
          · rw [s8 _ _ h7p]
            have et : PyFlat.told ((done ++ [(pc :: zs) :: ts]).map Lt.ans1) = PyFlat.told (done.map Lt.ans1) ++ ((((A1.length : Nat) : Int) :: A1)) := by
              rw [List.map_append, Lt.told_append, ← eA]
              show _ ++ (((_ :: _) ++ []) : List Int) = _
              rw [List.append_nil]
            rw [et, List.map_append, eTD, List.append_assoc]
            rfl
          · show L.length + 1 - (((N : Nat) : Int) + 1 + ((zs.length : Nat) : Int) + (((as.map V.ref).length : Nat) : Int) + (ts.map fun t => ((t.length : Nat) : Int)).sum).toNat < L.length + 1 - (((N : Nat) : Int)).toNat
            rw [eplace, eput, Int.toNat_natCast, Int.toNat_natCast]
            omega
    · rintro σ H0 Q0 Q1 hq ⟨a1, a2, b1, b2, c1, c2, c3, c4, d1, d2, d3, d4, d5, d6, d7⟩
      exact ⟨a1, a2, b1, b2, c1, c2, c3, c4, d1, d2, d3, d4, d5, d6, hq _ _ d7⟩
end
end Py
end
section
set_option Elab.async false
set_option linter.all false
set_option maxRecDepth 100000
set_option maxHeartbeats 4000000
namespace Py
open PySem PySem.Spec PyProof.Rows L2
open Bn (Rhythm Phase)
/-! ### what the top has written -/
def DefIn (K : PySem.W.Frag) (x : Str) (st : Stmt) : Prop := ∃ f fd, PySem.W.nsIn K mainGlobals x = some (some (.ref f)) ∧ Fun K x x st f fd
theorem def_mk {K : PySem.W.Frag} {x : Str} {st : Stmt} {f : Addr} {oc : Value} {od an : Option Addr} {osl : Array (Option Value)} {kV doc pm cdv ct : Value} (a : PySem.W.nsIn K mainGlobals x = some (some (.ref f)))
    (l : K.lookup f = some ⟨oc, od, .func (PySem.W.fnOf x x (defArgs st) (defBody st) (defScope st) .none kV doc pm an cdv ct), osl⟩) (c : PySem.W.codeIn K cdv x = true) (k : PySem.W.keepIn K (.ref f) = true) : DefIn K x st := ⟨f, _, a, fun_mk l c k⟩
def IntIn (K : PySem.W.Frag) (x : Str) (i : Int) : Prop := ∃ t, PySem.W.nsIn K mainGlobals x = some (some (.int i t))
theorem int_mk {K : PySem.W.Frag} {x : Str} {i : Int} {t : Tok} (a : PySem.W.nsIn K mainGlobals x = some (some (.int i t))) : IntIn K x i := ⟨t, a⟩
def StrIn (K : PySem.W.Frag) (x s : Str) : Prop := ∃ t, PySem.W.nsIn K mainGlobals x = some (some (.str s t))
theorem str_mk {K : PySem.W.Frag} {x s : Str} {t : Tok} (a : PySem.W.nsIn K mainGlobals x = some (some (.str s t))) : StrIn K x s := ⟨t, a⟩
def TupIn (K : PySem.W.Frag) (x : Str) (ns : List Int) : Prop := ∃ a, PySem.W.nsIn K mainGlobals x = some (some (.ref a)) ∧ KT K a (ns.map V.int)
theorem tup5_mk {K : PySem.W.Frag} {x : Str} {a : Addr} {i0 i1 i2 i3 i4 : Int} {t0 t1 t2 t3 t4 : Tok} {n : Nat} {sl : Array (Option Value)} (h : PySem.W.nsIn K mainGlobals x = some (some (.ref a)))
    (l : K.lookup a = some ⟨.type "tuple", none, .seq #[.int i0 t0, .int i1 t1, .int i2 t2, .int i3 t3, .int i4 t4] n, sl⟩) : TupIn K x [i0, i1, i2, i3, i4] :=
  ⟨a, h, _, l, rfl, rfl, fun H => .inr ⟨_, _, _, l, rfl, rfl, (by show 5 ≤ sizeLine; decide), .cons ⟨_, rfl⟩ (.cons ⟨_, rfl⟩ (.cons ⟨_, rfl⟩ (.cons ⟨_, rfl⟩ (.cons ⟨_, rfl⟩ .nil))))⟩⟩
theorem tup8_mk {K : PySem.W.Frag} {x : Str} {a : Addr} {i0 i1 i2 i3 i4 i5 i6 i7 : Int} {t0 t1 t2 t3 t4 t5 t6 t7 : Tok} {n : Nat} {sl : Array (Option Value)} (h : PySem.W.nsIn K mainGlobals x = some (some (.ref a)))
    (l : K.lookup a = some ⟨.type "tuple", none, .seq #[.int i0 t0, .int i1 t1, .int i2 t2, .int i3 t3, .int i4 t4, .int i5 t5, .int i6 t6, .int i7 t7] n, sl⟩) : TupIn K x [i0, i1, i2, i3, i4, i5, i6, i7] :=
  ⟨a, h, _, l, rfl, rfl, fun H => .inr ⟨_, _, _, l, rfl, rfl, (by show 8 ≤ sizeLine; decide), .cons ⟨_, rfl⟩ (.cons ⟨_, rfl⟩ (.cons ⟨_, rfl⟩ (.cons ⟨_, rfl⟩ (.cons ⟨_, rfl⟩ (.cons ⟨_, rfl⟩ (.cons ⟨_, rfl⟩ (.cons ⟨_, rfl⟩ .nil)))))))⟩⟩
def LetIn (K : PySem.W.Frag) : Prop := ∃ a as, PySem.W.nsIn K mainGlobals "LETTERS" = some (some (.ref a)) ∧ KT K a (as.map V.ref) ∧ Paired (fun b (l : Int × Str) => KT K b [.int l.1, .str l.2]) as [(1, "W"), (2, "R"), (3, "G"), (4, "Y")]
theorem kt2 {K : PySem.W.Frag} {a : Addr} {i : Int} {s : Str} {t u : Tok} {n : Nat} {sl : Array (Option Value)} (l : K.lookup a = some ⟨.type "tuple", none, .seq #[.int i t, .str s u] n, sl⟩) : KT K a [.int i, .str s] :=
  ⟨_, l, rfl, rfl, fun H => .inr ⟨_, _, _, l, rfl, rfl, (by show 2 ≤ sizeLine; decide), .cons ⟨_, rfl⟩ (.cons ⟨_, rfl⟩ .nil)⟩⟩
theorem let_mk {K : PySem.W.Frag} {a b1 b2 b3 b4 : Addr} {t1 u1 t2 u2 t3 u3 t4 u4 : Tok} {n n1 n2 n3 n4 : Nat} {sl s1 s2 s3 s4 : Array (Option Value)} (h : PySem.W.nsIn K mainGlobals "LETTERS" = some (some (.ref a)))
    (l : K.lookup a = some ⟨.type "tuple", none, .seq #[.ref b1, .ref b2, .ref b3, .ref b4] n, sl⟩) (l1 : K.lookup b1 = some ⟨.type "tuple", none, .seq #[.int 1 t1, .str "W" u1] n1, s1⟩) (l2 : K.lookup b2 = some ⟨.type "tuple", none, .seq #[.int 2 t2, .str "R" u2] n2, s2⟩)
    (l3 : K.lookup b3 = some ⟨.type "tuple", none, .seq #[.int 3 t3, .str "G" u3] n3, s3⟩) (l4 : K.lookup b4 = some ⟨.type "tuple", none, .seq #[.int 4 t4, .str "Y" u4] n4, s4⟩) : LetIn K :=
  ⟨a, [b1, b2, b3, b4], h, ⟨_, l, rfl, rfl, fun H => .inr ⟨_, _, _, l, rfl, rfl, (by show 4 ≤ sizeLine; decide), .cons rfl (.cons rfl (.cons rfl (.cons rfl .nil)))⟩⟩, .cons (kt2 l1) (.cons (kt2 l2) (.cons (kt2 l3) (.cons (kt2 l4) .nil)))⟩
abbrev Ent := Str × Tok × Str × Tok
def mkE (w : World) (e : Ent) : DictEntry := ⟨PyData.keyHash w.params e.1, .str e.1 e.2.1, .str e.2.2.1 e.2.2.2⟩
def mkV (e : Ent) : Key × Value := (Sum.inr e.1, .str e.2.2.1 e.2.2.2)
theorem ents_keys (P : Program) (w : World) (es : List Ent) : PySem.KeysOf (mixKind P w) (es.map (mkE w)).toArray := by
  intro e he
  have : e ∈ es.map (mkE w) := by simpa using he
  obtain ⟨x, _, rfl⟩ := List.mem_map.mp this
  exact ⟨Sum.inr x.1, mixKind_str P w x.1 x.2.1, rfl⟩
theorem ents_pairs (P : Program) (w : World) : ∀ es : List Ent, PySem.Pairs (mixKind P w) (es.map (mkE w)) (es.map mkV)
  | [] => .nil
  | e :: es => .cons (mixKind_str P w e.1 e.2.1) rfl (ents_pairs P w es)
theorem ents_kv : ∀ {es : List Ent} {ps : List (Str × Str)}, es.map (fun e => (e.1, e.2.2.1)) = ps → KV (ps.map fun p => ((Sum.inr p.1 : Key), V.str p.2)) (es.map mkV)
  | [], _, h => by
    subst h
    exact .nil
  | e :: es, _, h => by
    subst h
    exact .cons ⟨rfl, _, rfl⟩ (ents_kv rfl)
theorem mor_nd : (morseV.map (·.1)).Nodup := by decide +kernel
def MorIn (P : Program) (w : World) (K : PySem.W.Frag) : Prop := ∃ a, PySem.W.nsIn K mainGlobals "MORSE" = some (some (.ref a)) ∧ MorIs P w K a
theorem mor_mk {P : Program} {w : World} {K : PySem.W.Frag} {a : Addr} {t0 u0 t1 u1 t2 u2 t3 u3 t4 u4 t5 u5 t6 u6 t7 u7 t8 u8 t9 u9 t10 u10 t11 u11 t12 u12 t13 u13 t14 u14 t15 u15 t16 u16 t17 u17 t18 u18 t19 u19 t20 u20 t21 u21 t22 u22 t23 u23 t24 u24 t25 u25 : Tok} {ep : Nat} (h : PySem.W.nsIn K mainGlobals "MORSE" = some (some (.ref a))) (hs : (a == sysModules) = false)
    (l : K.lookup a = some ⟨.type "dict", none, .dict #[⟨PyData.keyHash w.params ".-", .str ".-" t0, .str "A" u0⟩, ⟨PyData.keyHash w.params "-...", .str "-..." t1, .str "B" u1⟩, ⟨PyData.keyHash w.params "-.-.", .str "-.-." t2, .str "C" u2⟩, ⟨PyData.keyHash w.params "-..", .str "-.." t3, .str "D" u3⟩, ⟨PyData.keyHash w.params ".", .str "." t4, .str "E" u4⟩, ⟨PyData.keyHash w.params "..-.", .str "..-." t5, .str "F" u5⟩, ⟨PyData.keyHash w.params "--.", .str "--." t6, .str "G" u6⟩, ⟨PyData.keyHash w.params "....", .str "...." t7, .str "H" u7⟩, ⟨PyData.keyHash w.params "..", .str ".." t8, .str "I" u8⟩, ⟨PyData.keyHash w.params ".---", .str ".---" t9, .str "J" u9⟩, ⟨PyData.keyHash w.params "-.-", .str "-.-" t10, .str "K" u10⟩, ⟨PyData.keyHash w.params ".-..", .str ".-.." t11, .str "L" u11⟩, ⟨PyData.keyHash w.params "--", .str "--" t12, .str "M" u12⟩, ⟨PyData.keyHash w.params "-.", .str "-." t13, .str "N" u13⟩, ⟨PyData.keyHash w.params "---", .str "---" t14, .str "O" u14⟩, ⟨PyData.keyHash w.params ".--.", .str ".--." t15, .str "P" u15⟩, ⟨PyData.keyHash w.params "--.-", .str "--.-" t16, .str "Q" u16⟩, ⟨PyData.keyHash w.params ".-.", .str ".-." t17, .str "R" u17⟩, ⟨PyData.keyHash w.params "...", .str "..." t18, .str "S" u18⟩, ⟨PyData.keyHash w.params "-", .str "-" t19, .str "T" u19⟩, ⟨PyData.keyHash w.params "..-", .str "..-" t20, .str "U" u20⟩, ⟨PyData.keyHash w.params "...-", .str "...-" t21, .str "V" u21⟩, ⟨PyData.keyHash w.params ".--", .str ".--" t22, .str "W" u22⟩, ⟨PyData.keyHash w.params "-..-", .str "-..-" t23, .str "X" u23⟩, ⟨PyData.keyHash w.params "-.--", .str "-.--" t24, .str "Y" u24⟩, ⟨PyData.keyHash w.params "--..", .str "--.." t25, .str "Z" u25⟩] ep, #[]⟩) : MorIn P w K := by
  refine ⟨a, h, hs, ([(".-", t0, "A", u0), ("-...", t1, "B", u1), ("-.-.", t2, "C", u2), ("-..", t3, "D", u3), (".", t4, "E", u4), ("..-.", t5, "F", u5), ("--.", t6, "G", u6), ("....", t7, "H", u7), ("..", t8, "I", u8), (".---", t9, "J", u9), ("-.-", t10, "K", u10), (".-..", t11, "L", u11), ("--", t12, "M", u12), ("-.", t13, "N", u13), ("---", t14, "O", u14), (".--.", t15, "P", u15), ("--.-", t16, "Q", u16), (".-.", t17, "R", u17), ("...", t18, "S", u18), ("-", t19, "T", u19), ("..-", t20, "U", u20), ("...-", t21, "V", u21), (".--", t22, "W", u22), ("-..-", t23, "X", u23), ("-.--", t24, "Y", u24), ("--..", t25, "Z", u25)] : List Ent).map mkV, ents_kv rfl, fun hp X => ?_⟩
  refine ⟨_, (([(".-", t0, "A", u0), ("-...", t1, "B", u1), ("-.-.", t2, "C", u2), ("-..", t3, "D", u3), (".", t4, "E", u4), ("..-.", t5, "F", u5), ("--.", t6, "G", u6), ("....", t7, "H", u7), ("..", t8, "I", u8), (".---", t9, "J", u9), ("-.-", t10, "K", u10), (".-..", t11, "L", u11), ("--", t12, "M", u12), ("-.", t13, "N", u13), ("---", t14, "O", u14), (".--.", t15, "P", u15), ("--.-", t16, "Q", u16), (".-.", t17, "R", u17), ("...", t18, "S", u18), ("-", t19, "T", u19), ("..-", t20, "U", u20), ("...-", t21, "V", u21), (".--", t22, "W", u22), ("-..-", t23, "X", u23), ("-.--", t24, "Y", u24), ("--..", t25, "Z", u25)] : List Ent).map (mkE w)).toArray, ep, X a _ l, ⟨rfl, rfl, rfl⟩, rfl, ents_keys P w _, ents_pairs P w _, ?_⟩
  exact mor_nd
def ClsAt (K : PySem.W.Frag) : Prop := ∃ C f fd, PySem.W.nsIn K mainGlobals "Light" = some (some (.ref C)) ∧ Cls K C ∧ NoAttr K C "form" ∧ NoAttr K C "period" ∧ NoAttr K C "begins" ∧ Mk K C f ∧ Fun K "__init__" "Light.__init__" s_Light_init f fd
theorem cls_mk {K : PySem.W.Frag} {C f : Addr} {oc : Value} {od an : Option Addr} {osl : Array (Option Value)} {kV doc pm cdv ct : Value} (aC : PySem.W.nsIn K mainGlobals "Light" = some (some (.ref C)))
    (a1 : PySem.W.findIn K (.ref C) "__init__" = some (some (.ref f))) (i1 : PySem.W.isFn K (.ref f) = true) (l1 : K.lookup f = some ⟨oc, od, .func (PySem.W.fnOf "__init__" "Light.__init__" (defArgs s_Light_init) (defBody s_Light_init) (defScope s_Light_init) .none kV doc pm an cdv ct), osl⟩)
    (c1 : PySem.W.codeIn K cdv "Light.__init__" = true) (k1 : PySem.W.keepIn K (.ref f) = true)
    (pg : PySem.W.plainGet K C Str.empty = true) (hd : PySem.W.hasDictIn K C = true) (po : PySem.W.plainOver K C = true) (sa : PySem.W.findIn K (.ref C) "__setattr__" = some (some (.builtin "object.__setattr__"))) (mk : PySem.W.makesIn K C = true) (kc : PySem.W.keepIn K (.ref C) = true)
    (nf : PySem.W.findIn K (.ref C) "form" = some none) (np : PySem.W.findIn K (.ref C) "period" = some none) (nb : PySem.W.findIn K (.ref C) "begins" = some none) : ClsAt K :=
  ⟨C, f, _, aC, ⟨pg, hd, po, sa⟩, nf, np, nb, ⟨mk, a1, i1, kc⟩, fun_mk l1 c1 k1⟩
theorem bl1 {us : List Value} (h : us.length = 1) : ∃ a, us = [a] := List.length_eq_one_iff.mp h
theorem bl2 {us : List Value} (h : us.length = 2) : ∃ a b, us = [a, b] := match us, h with | [a, b], _ => ⟨a, b, rfl⟩
theorem bl3 {us : List Value} (h : us.length = 3) : ∃ a b c, us = [a, b, c] := match us, h with | [a, b, c], _ => ⟨a, b, c, rfl⟩
theorem bl4 {us : List Value} (h : us.length = 4) : ∃ a b c d, us = [a, b, c, d] := match us, h with | [a, b, c, d], _ => ⟨a, b, c, d, rfl⟩
structure AllIn (P : Program) (w : World) (K : PySem.W.Frag) : Prop where
  cls : ClsAt K
  mor : MorIn P w K
  lets : LetIn K
  d_span_of : DefIn K "span_of" s_span_of
  d_joined : DefIn K "joined" s_joined
  d_closed_behind : DefIn K "closed_behind" s_closed_behind
  d_one_round : DefIn K "one_round" s_one_round
  d_beginnings_of : DefIn K "beginnings_of" s_beginnings_of
  d_light_of : DefIn K "light_of" s_light_of
  d_same_light : DefIn K "same_light" s_same_light
  d_shift_between : DefIn K "shift_between" s_shift_between
  d_words_of : DefIn K "words_of" s_words_of
  d_length_of : DefIn K "length_of" s_length_of
  d_phase_of : DefIn K "phase_of" s_phase_of
  d_fault_of : DefIn K "fault_of" s_fault_of
  d_refusal_of : DefIn K "refusal_of" s_refusal_of
  d_phases_of : DefIn K "phases_of" s_phases_of
  d_text_of : DefIn K "text_of" s_text_of
  d_flash_name : DefIn K "flash_name" s_flash_name
  d_kind_of_one : DefIn K "kind_of_one" s_kind_of_one
  d_sizes_of : DefIn K "sizes_of" s_sizes_of
  d_groups_of : DefIn K "groups_of" s_groups_of
  d_grouped : DefIn K "grouped" s_grouped
  d_letter_of : DefIn K "letter_of" s_letter_of
  d_kind_of_more : DefIn K "kind_of_more" s_kind_of_more
  d_kind_of : DefIn K "kind_of" s_kind_of
  d_kind_with_colours : DefIn K "kind_with_colours" s_kind_with_colours
  d_letters_of : DefIn K "letters_of" s_letters_of
  d_seconds_of : DefIn K "seconds_of" s_seconds_of
  d_name_of : DefIn K "name_of" s_name_of
  d_phases_from : DefIn K "phases_from" s_phases_from
  d_colour_at : DefIn K "colour_at" s_colour_at
  d_change_behind : DefIn K "change_behind" s_change_behind
  d_form_answer : DefIn K "form_answer" s_form_answer
  d_shift_answer : DefIn K "shift_answer" s_shift_answer
  d_next_answer : DefIn K "next_answer" s_next_answer
  d_timed_answer : DefIn K "timed_answer" s_timed_answer
  d_period_answer : DefIn K "period_answer" s_period_answer
  d_character_answer : DefIn K "character_answer" s_character_answer
  d_light_answer : DefIn K "light_answer" s_light_answer
  d_answer : DefIn K "answer" s_answer
  d_texts_at : DefIn K "texts_at" s_texts_at
  d_answers : DefIn K "answers" s_answers
  i_DARK : IntIn K "DARK" 0
  i_LIT : IntIn K "LIT" 1
  i_LONG_FLASH : IntIn K "LONG_FLASH" 20
  i_JUDGE : IntIn K "JUDGE" 0
  i_FORM : IntIn K "FORM" 1
  i_SAME : IntIn K "SAME" 2
  i_SHIFT : IntIn K "SHIFT" 3
  i_AT : IntIn K "AT" 4
  i_PERIOD : IntIn K "PERIOD" 6
  i_LATEST : IntIn K "LATEST" 1000000
  i_TOO_LATE : IntIn K "TOO_LATE" (-1)
  i_THERE_IS_NONE : IntIn K "THERE_IS_NONE" (-3)
  i_BLANK : IntIn K "BLANK" 32
  i_NOUGHT : IntIn K "NOUGHT" 48
  i_NINE : IntIn K "NINE" 57
  i_MOST_BYTES : IntIn K "MOST_BYTES" 1024
  i_MOST_PHASES : IntIn K "MOST_PHASES" 32
  i_LONGEST_PHASE : IntIn K "LONGEST_PHASE" 600
  i_LONGEST_RHYTHM : IntIn K "LONGEST_RHYTHM" 6000
  i_TOO_MANY_BYTES : IntIn K "TOO_MANY_BYTES" (-2)
  i_AT_FAULT : IntIn K "AT_FAULT" (-6)
  i_FIXED : StrIn K "FIXED" "F"
  i_OCCULTING : StrIn K "OCCULTING" "Oc"
  i_COLOUR_BYTES : TupIn K "COLOUR_BYTES" [45, 87, 82, 71, 89]
  i_TIMES : TupIn K "TIMES" [0, 0, 0, 0, 1, 1, 0, 0]
  i_TEXTS : TupIn K "TEXTS" [1, 1, 2, 2, 1, 1, 1, 1]
  n_max : PySem.W.nsIn K mainGlobals "max" = some none
  n_set : PySem.W.nsIn K mainGlobals "set" = some none
  n_all : PySem.W.nsIn K mainGlobals "all" = some none
  n_len : PySem.W.nsIn K mainGlobals "len" = some none
  n_sum : PySem.W.nsIn K mainGlobals "sum" = some none
  n_min : PySem.W.nsIn K mainGlobals "min" = some none
  n_range : PySem.W.nsIn K mainGlobals "range" = some none
  n_enumerate : PySem.W.nsIn K mainGlobals "enumerate" = some none
  n_str : PySem.W.nsIn K mainGlobals "str" = some none
  n_ord : PySem.W.nsIn K mainGlobals "ord" = some none
theorem all_ok {P : Program} {w : World} {K : PySem.W.Frag} {h : Heap} {mg : Str → Option Value} {fa : Addr} (X : K.In h) (G : h.Ns mainGlobals mg) (A : AllIn P w K) (hfa : mg "answers" = some (.ref fa)) :
    ∃ fd : FuncData, (∀ (s : Shared) (us : List Value), us.length = (["calls"] : List Str).length → BindsTo s fd ⟨us, []⟩ ((["calls"] : List Str).zip us)) ∧ ∀ base : Heap, K.In base → base.Ns mainGlobals mg → FnOk P w K mg base CX0 10 fa fd ["calls"] (spAns K) := by
  have gi : ∀ {x : Str} {i : Int}, IntIn K x i → GI mg x i := fun ⟨t, e⟩ => ⟨t, PySem.W.mg_of X G e⟩
  have gs : ∀ {x s : Str}, StrIn K x s → GS mg x s := fun ⟨t, e⟩ => ⟨t, PySem.W.mg_of X G e⟩
  have gt : ∀ {x : Str} {ns : List Int}, TupIn K x ns → GT K mg x ns := fun ⟨a, e, q⟩ => ⟨a, PySem.W.mg_of X G e, q⟩
  have T : Txt K mg := {
    n_max := PySem.W.mg_none_of X G A.n_max
    n_set := PySem.W.mg_none_of X G A.n_set
    n_all := PySem.W.mg_none_of X G A.n_all
    n_len := PySem.W.mg_none_of X G A.n_len
    n_sum := PySem.W.mg_none_of X G A.n_sum
    n_min := PySem.W.mg_none_of X G A.n_min
    n_range := PySem.W.mg_none_of X G A.n_range
    n_enumerate := PySem.W.mg_none_of X G A.n_enumerate
    n_str := PySem.W.mg_none_of X G A.n_str
    n_ord := PySem.W.mg_none_of X G A.n_ord
    g_DARK := gi A.i_DARK
    g_LIT := gi A.i_LIT
    g_LONG_FLASH := gi A.i_LONG_FLASH
    g_JUDGE := gi A.i_JUDGE
    g_FORM := gi A.i_FORM
    g_SAME := gi A.i_SAME
    g_SHIFT := gi A.i_SHIFT
    g_AT := gi A.i_AT
    g_PERIOD := gi A.i_PERIOD
    g_LATEST := gi A.i_LATEST
    g_TOO_LATE := gi A.i_TOO_LATE
    g_THERE_IS_NONE := gi A.i_THERE_IS_NONE
    g_BLANK := gi A.i_BLANK
    g_NOUGHT := gi A.i_NOUGHT
    g_NINE := gi A.i_NINE
    g_MOST_BYTES := gi A.i_MOST_BYTES
    g_MOST_PHASES := gi A.i_MOST_PHASES
    g_LONGEST_PHASE := gi A.i_LONGEST_PHASE
    g_LONGEST_RHYTHM := gi A.i_LONGEST_RHYTHM
    g_TOO_MANY_BYTES := gi A.i_TOO_MANY_BYTES
    g_AT_FAULT := gi A.i_AT_FAULT
    g_FIXED := gs A.i_FIXED
    g_OCCULTING := gs A.i_OCCULTING
    g_COLOUR_BYTES := gt A.i_COLOUR_BYTES
    g_TIMES := gt A.i_TIMES
    g_TEXTS := gt A.i_TEXTS
    g_LETTERS := by
      obtain ⟨a, as, e, q, r⟩ := A.lets
      exact ⟨a, as, PySem.W.mg_of X G e, q, r⟩ }
  have GM : GMor P w K mg := by
    obtain ⟨a, e, q⟩ := A.mor
    exact ⟨a, PySem.W.mg_of X G e, q⟩
  obtain ⟨C, fI, fdI, eC, hcl, hnf, hnp, hnb, hMk, FI⟩ := A.cls
  have L : Lcls K mg C := ⟨hcl, hnf, hnp, hnb⟩
  obtain ⟨f0, fd0, e0, F0⟩ := A.d_answers
  have e1 := hfa.symm.trans (PySem.W.mg_of X G e0)
  cases e1
  have b0 : ∀ (s : Shared) (us : List Value), us.length = (["calls"] : List Str).length → BindsTo s fd0 ⟨us, []⟩ ((["calls"] : List Str).zip us) := by
    obtain ⟨oc, od, kV, doc, pm, an, cdv, ct, osl, rfl, lk, hcd⟩ := F0.ex
    exact fun s us hu => match us, hu with | [_], _ => .of_eq rfl
  refine ⟨fd0, b0, fun base hK hN => ?_⟩
  have G_Light : MakL P w K mg base C := ⟨fI, fdI, hMk, PySem.W.mg_of X G eC, FI.binds (ps := psL) (fun _ _ _ _ _ _ us hl => by obtain ⟨_, _, _, _, rfl⟩ := bl4 hl; rfl), ok_Light_init FI L⟩
  have G_span_of : Has P w K mg base 1 "span_of" ["phases"] (spSpan K) := by
    obtain ⟨f, fd, e, F⟩ := A.d_span_of
    exact ⟨f, fd, PySem.W.mg_of X G e, F.kp, F.binds (ps := ["phases"]) (fun _ _ _ _ _ _ us hl => by obtain ⟨_, rfl⟩ := bl1 hl; rfl), ok_span_of F T⟩
  have G_joined : Has P w K mg base 1 "joined" ["phases"] (spJoined K) := by
    obtain ⟨f, fd, e, F⟩ := A.d_joined
    exact ⟨f, fd, PySem.W.mg_of X G e, F.kp, F.binds (ps := ["phases"]) (fun _ _ _ _ _ _ us hl => by obtain ⟨_, rfl⟩ := bl1 hl; rfl), ok_joined F T⟩
  have G_closed_behind : Has P w K mg base 1 "closed_behind" ["runs"] (spLead K) := by
    obtain ⟨f, fd, e, F⟩ := A.d_closed_behind
    exact ⟨f, fd, PySem.W.mg_of X G e, F.kp, F.binds (ps := ["runs"]) (fun _ _ _ _ _ _ us hl => by obtain ⟨_, rfl⟩ := bl1 hl; rfl), ok_closed_behind F T⟩
  have G_one_round : Has P w K mg base 1 "one_round" ["runs"] (spRound K) := by
    obtain ⟨f, fd, e, F⟩ := A.d_one_round
    exact ⟨f, fd, PySem.W.mg_of X G e, F.kp, F.binds (ps := ["runs"]) (fun _ _ _ _ _ _ us hl => by obtain ⟨_, rfl⟩ := bl1 hl; rfl), ok_one_round F T⟩
  have G_beginnings_of : Has P w K mg base 1 "beginnings_of" ["row"] (spBeg K) := by
    obtain ⟨f, fd, e, F⟩ := A.d_beginnings_of
    exact ⟨f, fd, PySem.W.mg_of X G e, F.kp, F.binds (ps := ["row"]) (fun _ _ _ _ _ _ us hl => by obtain ⟨_, rfl⟩ := bl1 hl; rfl), ok_beginnings_of F T⟩
  have G_light_of : Has P w K mg base 3 "light_of" ["phases"] (spLight C K) := by
    obtain ⟨f, fd, e, F⟩ := A.d_light_of
    exact ⟨f, fd, PySem.W.mg_of X G e, F.kp, F.binds (ps := ["phases"]) (fun _ _ _ _ _ _ us hl => by obtain ⟨_, rfl⟩ := bl1 hl; rfl), ok_light_of F T G_Light G_joined G_closed_behind G_one_round G_span_of G_beginnings_of⟩
  have G_same_light : Has P w K mg base 1 "same_light" ["one", "other"] (spSame C K) := by
    obtain ⟨f, fd, e, F⟩ := A.d_same_light
    exact ⟨f, fd, PySem.W.mg_of X G e, F.kp, F.binds (ps := ["one", "other"]) (fun _ _ _ _ _ _ us hl => by obtain ⟨_, _, rfl⟩ := bl2 hl; rfl), ok_same_light F L⟩
  have G_shift_between : Has P w K mg base 1 "shift_between" ["one", "other"] (spShift C K) := by
    obtain ⟨f, fd, e, F⟩ := A.d_shift_between
    exact ⟨f, fd, PySem.W.mg_of X G e, F.kp, F.binds (ps := ["one", "other"]) (fun _ _ _ _ _ _ us hl => by obtain ⟨_, _, rfl⟩ := bl2 hl; rfl), ok_shift_between F L⟩
  have G_words_of : Has P w K mg base 1 "words_of" ["text"] (spWords K) := by
    obtain ⟨f, fd, e, F⟩ := A.d_words_of
    exact ⟨f, fd, PySem.W.mg_of X G e, F.kp, F.binds (ps := ["text"]) (fun _ _ _ _ _ _ us hl => by obtain ⟨_, rfl⟩ := bl1 hl; rfl), ok_words_of F T⟩
  have G_length_of : Has P w K mg base 1 "length_of" ["digits"] (spLen K) := by
    obtain ⟨f, fd, e, F⟩ := A.d_length_of
    exact ⟨f, fd, PySem.W.mg_of X G e, F.kp, F.binds (ps := ["digits"]) (fun _ _ _ _ _ _ us hl => by obtain ⟨_, rfl⟩ := bl1 hl; rfl), ok_length_of F T⟩
  have G_phase_of : Has P w K mg base 2 "phase_of" ["word"] (spPhase K) := by
    obtain ⟨f, fd, e, F⟩ := A.d_phase_of
    exact ⟨f, fd, PySem.W.mg_of X G e, F.kp, F.binds (ps := ["word"]) (fun _ _ _ _ _ _ us hl => by obtain ⟨_, rfl⟩ := bl1 hl; rfl), ok_phase_of F T G_length_of⟩
  have G_fault_of : Has P w K mg base 3 "fault_of" ["text"] (spFault K) := by
    obtain ⟨f, fd, e, F⟩ := A.d_fault_of
    exact ⟨f, fd, PySem.W.mg_of X G e, F.kp, F.binds (ps := ["text"]) (fun _ _ _ _ _ _ us hl => by obtain ⟨_, rfl⟩ := bl1 hl; rfl), ok_fault_of F T G_words_of G_phase_of⟩
  have G_refusal_of : Has P w K mg base 4 "refusal_of" ["text"] (spRefusal K) := by
    obtain ⟨f, fd, e, F⟩ := A.d_refusal_of
    exact ⟨f, fd, PySem.W.mg_of X G e, F.kp, F.binds (ps := ["text"]) (fun _ _ _ _ _ _ us hl => by obtain ⟨_, rfl⟩ := bl1 hl; rfl), ok_refusal_of F T G_fault_of⟩
  have G_phases_of : Has P w K mg base 3 "phases_of" ["text"] (spPhases K) := by
    obtain ⟨f, fd, e, F⟩ := A.d_phases_of
    exact ⟨f, fd, PySem.W.mg_of X G e, F.kp, F.binds (ps := ["text"]) (fun _ _ _ _ _ _ us hl => by obtain ⟨_, rfl⟩ := bl1 hl; rfl), ok_phases_of F T G_words_of G_phase_of⟩
  have G_text_of : Has P w K mg base 1 "text_of" ["phases"] (spText K) := by
    obtain ⟨f, fd, e, F⟩ := A.d_text_of
    exact ⟨f, fd, PySem.W.mg_of X G e, F.kp, F.binds (ps := ["phases"]) (fun _ _ _ _ _ _ us hl => by obtain ⟨_, rfl⟩ := bl1 hl; rfl), ok_text_of F T⟩
  have G_flash_name : Has P w K mg base 1 "flash_name" ["light", "every"] (spFlash) := by
    obtain ⟨f, fd, e, F⟩ := A.d_flash_name
    exact ⟨f, fd, PySem.W.mg_of X G e, F.kp, F.binds (ps := ["light", "every"]) (fun _ _ _ _ _ _ us hl => by obtain ⟨_, _, rfl⟩ := bl2 hl; rfl), ok_flash_name F T⟩
  have G_kind_of_one : Has P w K mg base 2 "kind_of_one" ["light", "dark"] (spOne) := by
    obtain ⟨f, fd, e, F⟩ := A.d_kind_of_one
    exact ⟨f, fd, PySem.W.mg_of X G e, F.kp, F.binds (ps := ["light", "dark"]) (fun _ _ _ _ _ _ us hl => by obtain ⟨_, _, rfl⟩ := bl2 hl; rfl), ok_kind_of_one F T G_flash_name⟩
  have G_sizes_of : Has P w K mg base 1 "sizes_of" ["lengths"] (spSizes K) := by
    obtain ⟨f, fd, e, F⟩ := A.d_sizes_of
    exact ⟨f, fd, PySem.W.mg_of X G e, F.kp, F.binds (ps := ["lengths"]) (fun _ _ _ _ _ _ us hl => by obtain ⟨_, rfl⟩ := bl1 hl; rfl), ok_sizes_of F T⟩
  have G_groups_of : Has P w K mg base 2 "groups_of" ["lengths"] (spGroups K) := by
    obtain ⟨f, fd, e, F⟩ := A.d_groups_of
    exact ⟨f, fd, PySem.W.mg_of X G e, F.kp, F.binds (ps := ["lengths"]) (fun _ _ _ _ _ _ us hl => by obtain ⟨_, rfl⟩ := bl1 hl; rfl), ok_groups_of F T G_beginnings_of⟩
  have G_grouped : Has P w K mg base 3 "grouped" ["name", "lengths"] (spGrouped K) := by
    obtain ⟨f, fd, e, F⟩ := A.d_grouped
    exact ⟨f, fd, PySem.W.mg_of X G e, F.kp, F.binds (ps := ["name", "lengths"]) (fun _ _ _ _ _ _ us hl => by obtain ⟨_, _, rfl⟩ := bl2 hl; rfl), ok_grouped F T G_groups_of⟩
  have G_letter_of : Has P w K mg base 1 "letter_of" ["lights", "darks"] (spLetter K) := by
    obtain ⟨f, fd, e, F⟩ := A.d_letter_of
    exact ⟨f, fd, PySem.W.mg_of X G e, F.kp, F.binds (ps := ["lights", "darks"]) (fun _ _ _ _ _ _ us hl => by obtain ⟨_, _, rfl⟩ := bl2 hl; rfl), ok_letter_of F T GM⟩
  have G_kind_of_more : Has P w K mg base 4 "kind_of_more" ["lights", "darks"] (spMore K) := by
    obtain ⟨f, fd, e, F⟩ := A.d_kind_of_more
    exact ⟨f, fd, PySem.W.mg_of X G e, F.kp, F.binds (ps := ["lights", "darks"]) (fun _ _ _ _ _ _ us hl => by obtain ⟨_, _, rfl⟩ := bl2 hl; rfl), ok_kind_of_more F T G_sizes_of G_grouped G_flash_name G_letter_of⟩
  have G_kind_of : Has P w K mg base 5 "kind_of" ["form"] (spKind K) := by
    obtain ⟨f, fd, e, F⟩ := A.d_kind_of
    exact ⟨f, fd, PySem.W.mg_of X G e, F.kp, F.binds (ps := ["form"]) (fun _ _ _ _ _ _ us hl => by obtain ⟨_, rfl⟩ := bl1 hl; rfl), ok_kind_of F T L G_light_of G_kind_of_one G_kind_of_more⟩
  have G_kind_with_colours : Has P w K mg base 1 "kind_with_colours" ["kind", "letters"] (spKindCol) := by
    obtain ⟨f, fd, e, F⟩ := A.d_kind_with_colours
    exact ⟨f, fd, PySem.W.mg_of X G e, F.kp, F.binds (ps := ["kind", "letters"]) (fun _ _ _ _ _ _ us hl => by obtain ⟨_, _, rfl⟩ := bl2 hl; rfl), ok_kind_with_colours F T⟩
  have G_letters_of : Has P w K mg base 1 "letters_of" ["form"] (spLetters K) := by
    obtain ⟨f, fd, e, F⟩ := A.d_letters_of
    exact ⟨f, fd, PySem.W.mg_of X G e, F.kp, F.binds (ps := ["form"]) (fun _ _ _ _ _ _ us hl => by obtain ⟨_, rfl⟩ := bl1 hl; rfl), ok_letters_of F T⟩
  have G_seconds_of : Has P w K mg base 1 "seconds_of" ["period"] (spSeconds) := by
    obtain ⟨f, fd, e, F⟩ := A.d_seconds_of
    exact ⟨f, fd, PySem.W.mg_of X G e, F.kp, F.binds (ps := ["period"]) (fun _ _ _ _ _ _ us hl => by obtain ⟨_, rfl⟩ := bl1 hl; rfl), ok_seconds_of F T⟩
  have G_name_of : Has P w K mg base 6 "name_of" ["light"] (spName C K) := by
    obtain ⟨f, fd, e, F⟩ := A.d_name_of
    exact ⟨f, fd, PySem.W.mg_of X G e, F.kp, F.binds (ps := ["light"]) (fun _ _ _ _ _ _ us hl => by obtain ⟨_, rfl⟩ := bl1 hl; rfl), ok_name_of F T L G_letters_of G_kind_of G_kind_with_colours G_seconds_of⟩
  have G_phases_from : Has P w K mg base 2 "phases_from" ["phases", "time"] (spFrom K) := by
    obtain ⟨f, fd, e, F⟩ := A.d_phases_from
    exact ⟨f, fd, PySem.W.mg_of X G e, F.kp, F.binds (ps := ["phases", "time"]) (fun _ _ _ _ _ _ us hl => by obtain ⟨_, _, rfl⟩ := bl2 hl; rfl), ok_phases_from F T G_span_of⟩
  have G_colour_at : Has P w K mg base 3 "colour_at" ["phases", "time"] (spColour K) := by
    obtain ⟨f, fd, e, F⟩ := A.d_colour_at
    exact ⟨f, fd, PySem.W.mg_of X G e, F.kp, F.binds (ps := ["phases", "time"]) (fun _ _ _ _ _ _ us hl => by obtain ⟨_, _, rfl⟩ := bl2 hl; rfl), ok_colour_at F G_phases_from⟩
  have G_change_behind : Has P w K mg base 3 "change_behind" ["phases", "time"] (spChange K) := by
    obtain ⟨f, fd, e, F⟩ := A.d_change_behind
    exact ⟨f, fd, PySem.W.mg_of X G e, F.kp, F.binds (ps := ["phases", "time"]) (fun _ _ _ _ _ _ us hl => by obtain ⟨_, _, rfl⟩ := bl2 hl; rfl), ok_change_behind F T G_phases_from G_joined⟩
  have G_form_answer : Has P w K mg base 2 "form_answer" ["light"] (spFormA C K) := by
    obtain ⟨f, fd, e, F⟩ := A.d_form_answer
    exact ⟨f, fd, PySem.W.mg_of X G e, F.kp, F.binds (ps := ["light"]) (fun _ _ _ _ _ _ us hl => by obtain ⟨_, rfl⟩ := bl1 hl; rfl), ok_form_answer F T L G_text_of⟩
  have G_shift_answer : Has P w K mg base 2 "shift_answer" ["one", "other"] (spShiftA C K) := by
    obtain ⟨f, fd, e, F⟩ := A.d_shift_answer
    exact ⟨f, fd, PySem.W.mg_of X G e, F.kp, F.binds (ps := ["one", "other"]) (fun _ _ _ _ _ _ us hl => by obtain ⟨_, _, rfl⟩ := bl2 hl; rfl), ok_shift_answer F T G_same_light G_shift_between⟩
  have G_next_answer : Has P w K mg base 4 "next_answer" ["phases", "time"] (spNext K) := by
    obtain ⟨f, fd, e, F⟩ := A.d_next_answer
    exact ⟨f, fd, PySem.W.mg_of X G e, F.kp, F.binds (ps := ["phases", "time"]) (fun _ _ _ _ _ _ us hl => by obtain ⟨_, _, rfl⟩ := bl2 hl; rfl), ok_next_answer F T G_change_behind⟩
  have G_timed_answer : Has P w K mg base 5 "timed_answer" ["call", "phases", "time"] (spTimed K) := by
    obtain ⟨f, fd, e, F⟩ := A.d_timed_answer
    exact ⟨f, fd, PySem.W.mg_of X G e, F.kp, F.binds (ps := ["call", "phases", "time"]) (fun _ _ _ _ _ _ us hl => by obtain ⟨_, _, _, rfl⟩ := bl3 hl; rfl), ok_timed_answer F T G_colour_at G_next_answer⟩
  have G_period_answer : Has P w K mg base 1 "period_answer" ["light"] (spPerA C K) := by
    obtain ⟨f, fd, e, F⟩ := A.d_period_answer
    exact ⟨f, fd, PySem.W.mg_of X G e, F.kp, F.binds (ps := ["light"]) (fun _ _ _ _ _ _ us hl => by obtain ⟨_, rfl⟩ := bl1 hl; rfl), ok_period_answer F T L⟩
  have G_character_answer : Has P w K mg base 7 "character_answer" ["light"] (spChar C K) := by
    obtain ⟨f, fd, e, F⟩ := A.d_character_answer
    exact ⟨f, fd, PySem.W.mg_of X G e, F.kp, F.binds (ps := ["light"]) (fun _ _ _ _ _ _ us hl => by obtain ⟨_, rfl⟩ := bl1 hl; rfl), ok_character_answer F T G_name_of⟩
  have G_light_answer : Has P w K mg base 8 "light_answer" ["call", "lights"] (spLA C K) := by
    obtain ⟨f, fd, e, F⟩ := A.d_light_answer
    exact ⟨f, fd, PySem.W.mg_of X G e, F.kp, F.binds (ps := ["call", "lights"]) (fun _ _ _ _ _ _ us hl => by obtain ⟨_, _, rfl⟩ := bl2 hl; rfl), ok_light_answer F T G_form_answer G_same_light G_shift_answer G_period_answer G_character_answer⟩
  have G_answer : Has P w K mg base 9 "answer" ["call", "times", "texts"] (spAnswer K) := by
    obtain ⟨f, fd, e, F⟩ := A.d_answer
    exact ⟨f, fd, PySem.W.mg_of X G e, F.kp, F.binds (ps := ["call", "times", "texts"]) (fun _ _ _ _ _ _ us hl => by obtain ⟨_, _, _, rfl⟩ := bl3 hl; rfl), ok_answer F T G_refusal_of G_phases_of G_timed_answer G_light_of G_light_answer⟩
  have G_texts_at : Has P w K mg base 1 "texts_at" ["calls", "place", "count"] (spTexts K) := by
    obtain ⟨f, fd, e, F⟩ := A.d_texts_at
    exact ⟨f, fd, PySem.W.mg_of X G e, F.kp, F.binds (ps := ["calls", "place", "count"]) (fun _ _ _ _ _ _ us hl => by obtain ⟨_, _, _, rfl⟩ := bl3 hl; rfl), ok_texts_at F T⟩
  exact ok_answers F0 T G_texts_at G_answer
end Py
end
section
theorem PySem.W.Fast.tw3661439837992761250 : True := trivial
theorem PySem.W.Fast.tw4459571871776025884 : True := trivial
theorem PySem.W.Fast.tw10888177894642236541 : True := trivial
theorem PySem.W.Fast.tw18272011511478900592 : True := trivial
theorem PySem.W.Fast.tw16641305592877294336 : True := trivial
theorem PySem.W.Fast.tw12271396308181712562 : True := trivial
theorem PySem.W.Fast.tw10628359874520307856 : True := trivial
set_option Elab.async false
open PySem PySem.W PyProof.Rows
set_option maxRecDepth 100000 in
set_option maxHeartbeats 0 in
theorem PySem.Challenge.cw_lightrhythms_s01_answers_holds : PySem.Challenge.rw_lightrhythms_s01_answers.Holds := by
  w_on; k_headS; (case hw => exact ⟨[.list [.int 0, .int 0]], by decide +kernel, by decide +kernel⟩)
  k_fillS
  refine L2.walk_specK (r := PySem.Challenge.rw_lightrhythms_s01_answers) (k := 10) (CX := L2.CX0) (ps := ["calls"]) (sp := Py.spAns) (by decide +kernel) rfl rfl ⟨rfl, by decide, by decide⟩ (fun w h Y => PySem.W.kIn_of Y) ?F ?S (fun _ _ _ _ z => z)
  case F =>
    intro w mg fa h Y KX G hmg
    refine Py.all_ok KX G ?A hmg
    clear G hmg Y
    constructor
    case cls =>
      refine' Py.cls_mk ?aC ?a1 ?i1 ?l1 ?c1 ?k1 ?pg ?hd ?po ?sa ?mk ?kc ?nf ?np ?nb
      (case aC => k_is); (case a1 => k_is); (case i1 => k_is); (case l1 => k_is); (case c1 => k_is); (case k1 => k_is); (case pg => k_is); (case hd => k_is); (case po => k_is); (case sa => k_is); (case mk => k_is); (case kc => k_is); (case nf => k_is); (case np => k_is); (case nb => k_is)
    case mor =>
      refine' Py.mor_mk ?h ?hs ?l
      (case h => k_is); (case hs => decide); (case l => k_is)
    case lets =>
      refine' Py.let_mk ?h ?l ?l1 ?l2 ?l3 ?l4
      (case h => k_is); (case l => k_is); (case l1 => k_is); (case l2 => k_is); (case l3 => k_is); (case l4 => k_is)
    case d_span_of =>
      refine' Py.def_mk ?a ?l ?c ?k
      (case a => k_is); (case l => k_is); (case c => k_is); (case k => k_is)
    case d_joined =>
      refine' Py.def_mk ?a ?l ?c ?k
      (case a => k_is); (case l => k_is); (case c => k_is); (case k => k_is)
    case d_closed_behind =>
      refine' Py.def_mk ?a ?l ?c ?k
      (case a => k_is); (case l => k_is); (case c => k_is); (case k => k_is)
    case d_one_round =>
      refine' Py.def_mk ?a ?l ?c ?k
      (case a => k_is); (case l => k_is); (case c => k_is); (case k => k_is)
    case d_beginnings_of =>
      refine' Py.def_mk ?a ?l ?c ?k
      (case a => k_is); (case l => k_is); (case c => k_is); (case k => k_is)
    case d_light_of =>
      refine' Py.def_mk ?a ?l ?c ?k
      (case a => k_is); (case l => k_is); (case c => k_is); (case k => k_is)
    case d_same_light =>
      refine' Py.def_mk ?a ?l ?c ?k
      (case a => k_is); (case l => k_is); (case c => k_is); (case k => k_is)
    case d_shift_between =>
      refine' Py.def_mk ?a ?l ?c ?k
      (case a => k_is); (case l => k_is); (case c => k_is); (case k => k_is)
    case d_words_of =>
      refine' Py.def_mk ?a ?l ?c ?k
      (case a => k_is); (case l => k_is); (case c => k_is); (case k => k_is)
    case d_length_of =>
      refine' Py.def_mk ?a ?l ?c ?k
      (case a => k_is); (case l => k_is); (case c => k_is); (case k => k_is)
    case d_phase_of =>
      refine' Py.def_mk ?a ?l ?c ?k
      (case a => k_is); (case l => k_is); (case c => k_is); (case k => k_is)
    case d_fault_of =>
      refine' Py.def_mk ?a ?l ?c ?k
      (case a => k_is); (case l => k_is); (case c => k_is); (case k => k_is)
    case d_refusal_of =>
      refine' Py.def_mk ?a ?l ?c ?k
      (case a => k_is); (case l => k_is); (case c => k_is); (case k => k_is)
    case d_phases_of =>
      refine' Py.def_mk ?a ?l ?c ?k
      (case a => k_is); (case l => k_is); (case c => k_is); (case k => k_is)
    case d_text_of =>
      refine' Py.def_mk ?a ?l ?c ?k
      (case a => k_is); (case l => k_is); (case c => k_is); (case k => k_is)
    case d_flash_name =>
      refine' Py.def_mk ?a ?l ?c ?k
      (case a => k_is); (case l => k_is); (case c => k_is); (case k => k_is)
    case d_kind_of_one =>
      refine' Py.def_mk ?a ?l ?c ?k
      (case a => k_is); (case l => k_is); (case c => k_is); (case k => k_is)
    case d_sizes_of =>
      refine' Py.def_mk ?a ?l ?c ?k
      (case a => k_is); (case l => k_is); (case c => k_is); (case k => k_is)
    case d_groups_of =>
      refine' Py.def_mk ?a ?l ?c ?k
      (case a => k_is); (case l => k_is); (case c => k_is); (case k => k_is)
    case d_grouped =>
      refine' Py.def_mk ?a ?l ?c ?k
      (case a => k_is); (case l => k_is); (case c => k_is); (case k => k_is)
    case d_letter_of =>
      refine' Py.def_mk ?a ?l ?c ?k
      (case a => k_is); (case l => k_is); (case c => k_is); (case k => k_is)
    case d_kind_of_more =>
      refine' Py.def_mk ?a ?l ?c ?k
      (case a => k_is); (case l => k_is); (case c => k_is); (case k => k_is)
    case d_kind_of =>
      refine' Py.def_mk ?a ?l ?c ?k
      (case a => k_is); (case l => k_is); (case c => k_is); (case k => k_is)
    case d_kind_with_colours =>
      refine' Py.def_mk ?a ?l ?c ?k
      (case a => k_is); (case l => k_is); (case c => k_is); (case k => k_is)
    case d_letters_of =>
      refine' Py.def_mk ?a ?l ?c ?k
      (case a => k_is); (case l => k_is); (case c => k_is); (case k => k_is)
    case d_seconds_of =>
      refine' Py.def_mk ?a ?l ?c ?k
      (case a => k_is); (case l => k_is); (case c => k_is); (case k => k_is)
    case d_name_of =>
      refine' Py.def_mk ?a ?l ?c ?k
      (case a => k_is); (case l => k_is); (case c => k_is); (case k => k_is)
    case d_phases_from =>
      refine' Py.def_mk ?a ?l ?c ?k
      (case a => k_is); (case l => k_is); (case c => k_is); (case k => k_is)
    case d_colour_at =>
      refine' Py.def_mk ?a ?l ?c ?k
      (case a => k_is); (case l => k_is); (case c => k_is); (case k => k_is)
    case d_change_behind =>
      refine' Py.def_mk ?a ?l ?c ?k
      (case a => k_is); (case l => k_is); (case c => k_is); (case k => k_is)
    case d_form_answer =>
      refine' Py.def_mk ?a ?l ?c ?k
      (case a => k_is); (case l => k_is); (case c => k_is); (case k => k_is)
    case d_shift_answer =>
      refine' Py.def_mk ?a ?l ?c ?k
      (case a => k_is); (case l => k_is); (case c => k_is); (case k => k_is)
    case d_next_answer =>
      refine' Py.def_mk ?a ?l ?c ?k
      (case a => k_is); (case l => k_is); (case c => k_is); (case k => k_is)
    case d_timed_answer =>
      refine' Py.def_mk ?a ?l ?c ?k
      (case a => k_is); (case l => k_is); (case c => k_is); (case k => k_is)
    case d_period_answer =>
      refine' Py.def_mk ?a ?l ?c ?k
      (case a => k_is); (case l => k_is); (case c => k_is); (case k => k_is)
    case d_character_answer =>
      refine' Py.def_mk ?a ?l ?c ?k
      (case a => k_is); (case l => k_is); (case c => k_is); (case k => k_is)
    case d_light_answer =>
      refine' Py.def_mk ?a ?l ?c ?k
      (case a => k_is); (case l => k_is); (case c => k_is); (case k => k_is)
    case d_answer =>
      refine' Py.def_mk ?a ?l ?c ?k
      (case a => k_is); (case l => k_is); (case c => k_is); (case k => k_is)
    case d_texts_at =>
      refine' Py.def_mk ?a ?l ?c ?k
      (case a => k_is); (case l => k_is); (case c => k_is); (case k => k_is)
    case d_answers =>
      refine' Py.def_mk ?a ?l ?c ?k
      (case a => k_is); (case l => k_is); (case c => k_is); (case k => k_is)
    case i_DARK =>
      refine' Py.int_mk ?a
      (case a => k_is)
    case i_LIT =>
      refine' Py.int_mk ?a
      (case a => k_is)
    case i_LONG_FLASH =>
      refine' Py.int_mk ?a
      (case a => k_is)
    case i_JUDGE =>
      refine' Py.int_mk ?a
      (case a => k_is)
    case i_FORM =>
      refine' Py.int_mk ?a
      (case a => k_is)
    case i_SAME =>
      refine' Py.int_mk ?a
      (case a => k_is)
    case i_SHIFT =>
      refine' Py.int_mk ?a
      (case a => k_is)
    case i_AT =>
      refine' Py.int_mk ?a
      (case a => k_is)
    case i_PERIOD =>
      refine' Py.int_mk ?a
      (case a => k_is)
    case i_LATEST =>
      refine' Py.int_mk ?a
      (case a => k_is)
    case i_TOO_LATE =>
      refine' Py.int_mk ?a
      (case a => k_is)
    case i_THERE_IS_NONE =>
      refine' Py.int_mk ?a
      (case a => k_is)
    case i_BLANK =>
      refine' Py.int_mk ?a
      (case a => k_is)
    case i_NOUGHT =>
      refine' Py.int_mk ?a
      (case a => k_is)
    case i_NINE =>
      refine' Py.int_mk ?a
      (case a => k_is)
    case i_MOST_BYTES =>
      refine' Py.int_mk ?a
      (case a => k_is)
    case i_MOST_PHASES =>
      refine' Py.int_mk ?a
      (case a => k_is)
    case i_LONGEST_PHASE =>
      refine' Py.int_mk ?a
      (case a => k_is)
    case i_LONGEST_RHYTHM =>
      refine' Py.int_mk ?a
      (case a => k_is)
    case i_TOO_MANY_BYTES =>
      refine' Py.int_mk ?a
      (case a => k_is)
    case i_AT_FAULT =>
      refine' Py.int_mk ?a
      (case a => k_is)
    case i_FIXED =>
      refine' Py.str_mk ?a
      (case a => k_is)
    case i_OCCULTING =>
      refine' Py.str_mk ?a
      (case a => k_is)
    case i_COLOUR_BYTES =>
      refine' Py.tup5_mk ?h ?l
      (case h => k_is); (case l => k_is)
    case i_TIMES =>
      refine' Py.tup8_mk ?h ?l
      (case h => k_is); (case l => k_is)
    case i_TEXTS =>
      refine' Py.tup8_mk ?h ?l
      (case h => k_is); (case l => k_is)
    case n_max => k_is
    case n_set => k_is
    case n_all => k_is
    case n_len => k_is
    case n_sum => k_is
    case n_min => k_is
    case n_range => k_is
    case n_enumerate => k_is
    case n_str => k_is
    case n_ord => k_is
  case S =>
    intro K H xs a hO hwi hask hx
    cases hx with
    | cons h1 h2 =>
      cases h2
      cases h1 with
      | lst hs ha =>
        have e := L2.ints_dw a.1 _ ha
        subst e
        have q : ((Codec.inLen 0 30000 a.1 && a.1.all (Codec.inInt 0 4294967295)) && true) = true := hwi
        rw [Bool.and_eq_true, Bool.and_eq_true] at q
        have hl := (Codec.inNat_iff.mp q.1.1).2
        obtain ⟨cs, e1, e2, e3, e4⟩ := Lt.flat_spec (l := a.1) hask
        refine ⟨_, cs, rfl, by rw [← e1]; exact hs, by rw [← e1]; exact hl, e2, e3, fun H' p hp => ?_⟩
        have : PyWqatdx.answers a.1 = PyFlat.told (cs.map Lt.ans1) := e4
        show L2.Dw _ _ _ ((Codec.list _ _ (Codec.int _ _)).enc (PyWqatdx.answers a.1))
        rw [this]
        exact .lst (L2.SqL.of hp) (L2.dw_ints _)
#print axioms PySem.Challenge.cw_lightrhythms_s01_answers_holds
end
