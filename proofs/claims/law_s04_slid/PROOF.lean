import PyProof.Rows.All
import Wide.All
import OpenK.AllK
import Wide.FinOn
import PyProof.EqAt
import PyProof.EqKinds
import PyProof.TupleCall
import Open.SpecLaws
import KE.OsGo
import HandS.ForSpec
import HandS.TryMany
import HandS.Comp
import HandS.Iter
import HandS.Wide
import HandS.Evl
import HandS.ExcOwn
import HandS.Small
import HandS.Lambda
import HandS.Nested
import HandS.EndTab
import HandS.EndOwn
import HandS.NestedK
import HandS.Spec
import HandS.Conv
import HandS.CallLocal
import PySem.Challenge.RW_recutfigures_s04_slid
section
/-! Plane geometry over the rational numbers: turns, chains, strictly convex rows of corners. Core Lean alone. -/
set_option linter.all false
namespace Geo

@[ext] structure V where
  x : Rat
  y : Rat
deriving DecidableEq

def turn (a b c : V) : Rat := (b.x - a.x) * (c.y - a.y) - (b.y - a.y) * (c.x - a.x)

structure F where
  p : Rat
  q : Rat
  r : Rat
def F.at (f : F) (z : V) : Rat := f.p * z.x + f.q * z.y + f.r
def F.opp (f : F) : F := ⟨-f.p, -f.q, -f.r⟩
def line (a b : V) : F := ⟨-(b.y - a.y), b.x - a.x, (b.y - a.y) * a.x - (b.x - a.x) * a.y⟩
theorem line_at (a b z : V) : (line a b).at z = turn a b z := by
  simp only [line, F.at, turn]; grind
theorem opp_at (f : F) (z : V) : f.opp.at z = - f.at z := by
  simp only [F.opp, F.at]; grind

theorem turn_cyc (a b c : V) : turn a b c = turn b c a := by simp only [turn]; grind
theorem turn_swap (a b c : V) : turn a b c = - turn b a c := by simp only [turn]; grind
theorem turn_swap2 (a b c : V) : turn a b c = - turn a c b := by simp only [turn]; grind
theorem turn_aab (a b : V) : turn a a b = 0 := by simp only [turn]; grind
theorem turn_abb (a b : V) : turn a b b = 0 := by simp only [turn]; grind
theorem turn_aba (a b : V) : turn a b a = 0 := by simp only [turn]; grind

/-- four points: an affine function at them -/
theorem quad (f : F) (a b c d : V) : turn b c d * f.at a + turn a b d * f.at c = turn a c d * f.at b + turn a b c * f.at d := by
  simp only [turn, F.at]; grind
theorem quad_sum (a b c d : V) : turn b c d + turn a b d = turn a c d + turn a b c := by
  simp only [turn]; grind
theorem tri (f : F) (a b c z : V) : turn a b c * f.at z = turn b c z * f.at a + turn c a z * f.at b + turn a b z * f.at c := by
  simp only [turn, F.at]; grind
theorem tri_sum (a b c z : V) : turn a b c = turn b c z + turn c a z + turn a b z := by
  simp only [turn]; grind

/-! ### Lists -/
def T3 : List V → Prop
  | [] => True
  | a :: l => l.Pairwise (fun b c => 0 < turn a b c) ∧ T3 l

theorem T3.sub {l m : List V} (h : T3 l) (s : m.Sublist l) : T3 m := by
  induction s with
  | slnil => trivial
  | cons a s ih => exact ih h.2
  | cons_cons a s ih => exact ⟨h.1.sublist s, ih h.2⟩

theorem T3_append {l m : List V} : T3 (l ++ m) ↔ T3 l ∧ T3 m ∧ (∀ c ∈ m, l.Pairwise (fun a b => 0 < turn a b c)) ∧ (∀ a ∈ l, m.Pairwise (fun b c => 0 < turn a b c)) := by
  induction l with
  | nil => simp [T3]
  | cons x l ih =>
    simp only [List.cons_append, T3, ih, List.pairwise_append, List.pairwise_cons, List.mem_cons]
    constructor
    · rintro ⟨⟨h1, h2, h3⟩, h4, h5, h6, h7⟩
      refine ⟨⟨h1, h4⟩, h5, fun c hc => ⟨fun b hb => h3 b hb c hc, h6 c hc⟩, ?_⟩
      rintro a (rfl | ha)
      · exact h2
      · exact h7 a ha
    · rintro ⟨⟨h1, h4⟩, h5, h6, h7⟩
      exact ⟨⟨h1, h7 x (.inl rfl), fun b hb c hc => (h6 c hc).1 b hb⟩, h4, h5, fun c hc => (h6 c hc).2, fun a ha => h7 a (.inr ha)⟩

theorem T3_rot {l m : List V} (h : T3 (l ++ m)) : T3 (m ++ l) := by
  rw [T3_append] at h ⊢
  refine ⟨h.2.1, h.1, fun c hc => ?_, fun a ha => ?_⟩
  · exact (h.2.2.2 c hc).imp fun {a b} x => by rw [turn_cyc c] at x; exact x
  · exact (h.2.2.1 a ha).imp fun {b c} x => by rw [turn_cyc]; exact x

/-! ### Rows that go round: the same row begun elsewhere -/
def Rot {α : Type} (l m : List α) : Prop := ∃ a b, l = a ++ b ∧ m = b ++ a
theorem Rot.refl {α : Type} (l : List α) : Rot l l := ⟨[], l, rfl, by simp⟩
theorem Rot.symm {α : Type} {l m : List α} (h : Rot l m) : Rot m l := by
  obtain ⟨a, b, h1, h2⟩ := h
  exact ⟨b, a, h2, h1⟩
theorem Rot.trans {α : Type} {l m n : List α} (h : Rot l m) (g : Rot m n) : Rot l n := by
  obtain ⟨a, b, rfl, rfl⟩ := h
  obtain ⟨c, d, e, rfl⟩ := g
  rcases List.append_eq_append_iff.1 e with ⟨u, rfl, rfl⟩ | ⟨u, rfl, rfl⟩
  · exact ⟨u, d ++ b, by simp, by simp⟩
  · exact ⟨a ++ c, u, by simp, by simp⟩
theorem Rot.mem {α : Type} {l m : List α} (h : Rot l m) {x : α} : x ∈ l ↔ x ∈ m := by
  obtain ⟨a, b, rfl, rfl⟩ := h
  simp [or_comm]
theorem Rot.length {α : Type} {l m : List α} (h : Rot l m) : l.length = m.length := by
  obtain ⟨a, b, rfl, rfl⟩ := h
  simp [Nat.add_comm]
theorem Rot.map {α β : Type} {l m : List α} (f : α → β) (h : Rot l m) : Rot (l.map f) (m.map f) := by
  obtain ⟨a, b, rfl, rfl⟩ := h
  exact ⟨a.map f, b.map f, by simp, by simp⟩
theorem Rot.flatMap {α β : Type} {l m : List α} (f : α → List β) (h : Rot l m) : Rot (l.flatMap f) (m.flatMap f) := by
  obtain ⟨a, b, rfl, rfl⟩ := h
  exact ⟨a.flatMap f, b.flatMap f, by simp, by simp⟩
theorem Rot.filter {α : Type} {l m : List α} (f : α → Bool) (h : Rot l m) : Rot (l.filter f) (m.filter f) := by
  obtain ⟨a, b, rfl, rfl⟩ := h
  exact ⟨a.filter f, b.filter f, by simp, by simp⟩
theorem Rot.perm {α : Type} {l m : List α} (h : Rot l m) : l.Perm m := by
  obtain ⟨a, b, rfl, rfl⟩ := h
  exact List.perm_append_comm
theorem Rot.t3 {l m : List V} (h : Rot l m) (t : T3 l) : T3 m := by
  obtain ⟨a, b, rfl, rfl⟩ := h
  exact T3_rot t
theorem Rot.ofMem {α : Type} {l : List α} {x : α} (h : x ∈ l) : ∃ r, Rot l (x :: r) := by
  obtain ⟨a, b, rfl⟩ := List.append_of_mem h
  exact ⟨b ++ a, a, x :: b, rfl, by simp⟩

/-- neighbours -/
def path {α : Type} : List α → List (α × α)
  | a :: b :: r => (a, b) :: path (b :: r)
  | _ => []
/-- neighbours round -/
def cyc {α : Type} : List α → List (α × α)
  | [] => []
  | a :: r => path (a :: r ++ [a])

theorem path_app {α : Type} (l : List α) (a : α) (r : List α) : path (l ++ a :: r) = path (l ++ [a]) ++ path (a :: r) := by
  induction l with
  | nil => simp [path]
  | cons x l ih =>
    cases l with
    | nil => simp [path]
    | cons y l => simpa [path] using ih
theorem path_two {α : Type} (l : List α) (a b : α) (r : List α) : path (l ++ a :: b :: r) = path (l ++ [a]) ++ (a, b) :: path (b :: r) := by
  rw [path_app]; rfl
theorem cyc_app {α : Type} (a : α) (l : List α) (b : α) (r : List α) : cyc (a :: l ++ b :: r) = path (a :: l ++ [b]) ++ path (b :: r ++ [a]) := by
  show path (a :: (l ++ b :: r) ++ [a]) = _
  have : a :: (l ++ b :: r) ++ [a] = (a :: l) ++ b :: (r ++ [a]) := by simp
  rw [this, path_app]; rfl
theorem Rot.cyc {α : Type} {l m : List α} (h : Rot l m) : Rot (cyc l) (cyc m) := by
  obtain ⟨a, b, rfl, rfl⟩ := h
  cases a with
  | nil => simp; exact Rot.refl _
  | cons x a =>
    cases b with
    | nil => simp; exact Rot.refl _
    | cons y b =>
      rw [cyc_app, cyc_app]
      exact ⟨_, _, rfl, rfl⟩
theorem path_mem {α : Type} {l : List α} {a b : α} (h : (a, b) ∈ path l) : ∃ u v, l = u ++ a :: b :: v := by
  induction l with
  | nil => simp [path] at h
  | cons x l ih =>
    cases l with
    | nil => simp [path] at h
    | cons y l =>
      simp only [path, List.mem_cons, Prod.mk.injEq] at h
      rcases h with ⟨rfl, rfl⟩ | h
      · exact ⟨[], l, rfl⟩
      · obtain ⟨u, v, e⟩ := ih h
        exact ⟨x :: u, v, by rw [e]; rfl⟩
theorem mem_path {α : Type} (u : List α) (a b : α) (v : List α) : (a, b) ∈ path (u ++ a :: b :: v) := by
  rw [path_two]; simp
/-- two neighbours round: the row begun so that they are the last and the first -/
theorem cyc_mem {α : Type} {l : List α} {a b : α} (h : (a, b) ∈ Geo.cyc l) : (l = [a] ∧ a = b) ∨ ∃ r, Rot l (a :: b :: r) := by
  cases l with
  | nil => simp [Geo.cyc] at h
  | cons x l =>
    obtain ⟨u, v, e⟩ := path_mem h
    rcases List.eq_nil_or_concat v with rfl | ⟨v, y, rfl⟩
    · -- the last edge
      have e2 : (x :: l) ++ [x] = (u ++ [a]) ++ [b] := by simpa using e
      obtain ⟨e3, e4⟩ := List.append_inj' e2 rfl
      simp at e4; subst e4
      cases u with
      | nil => simp at e3; exact .inl ⟨by simp [e3], e3.1.symm⟩
      | cons z u =>
        simp at e3
        refine .inr ⟨u, ⟨x :: u, [a], by simp [e3], by simp⟩⟩
    · have e2 : (x :: l) ++ [x] = (u ++ a :: b :: v) ++ [y] := by simpa using e
      obtain ⟨e3, e4⟩ := List.append_inj' e2 rfl
      exact .inr ⟨v ++ u, ⟨u, a :: b :: v, e3, by simp⟩⟩
theorem mem_cyc {α : Type} {l r : List α} {a b : α} (h : Rot l (a :: b :: r)) : (a, b) ∈ Geo.cyc l := by
  rw [h.cyc.mem]
  show (a, b) ∈ path (a :: b :: (r ++ [a]))
  simp [path]

/-! ### Points between -/
def mix (t : Rat) (a b : V) : V := ⟨(1 - t) * a.x + t * b.x, (1 - t) * a.y + t * b.y⟩
theorem at_mix (f : F) (t : Rat) (a b : V) : f.at (mix t a b) = (1 - t) * f.at a + t * f.at b := by
  simp only [mix, F.at]; grind
theorem turn_mix1 (t : Rat) (a b c d : V) : turn (mix t a b) c d = (1 - t) * turn a c d + t * turn b c d := by
  simp only [mix, turn]; grind
theorem turn_mix2 (t : Rat) (a b c d : V) : turn c (mix t a b) d = (1 - t) * turn c a d + t * turn c b d := by
  simp only [mix, turn]; grind
theorem turn_mix3 (t : Rat) (a b c d : V) : turn c d (mix t a b) = (1 - t) * turn c d a + t * turn c d b := by
  simp only [mix, turn]; grind
theorem pos_mix {t u v : Rat} (h0 : 0 < t) (h1 : t < 1) (hu : 0 ≤ u) (hv : 0 < v) : 0 < (1 - t) * u + t * v := by
  have := Rat.mul_nonneg (show 0 ≤ 1 - t by grind) hu
  have := Rat.mul_pos h0 hv
  grind
theorem pos_mix' {t u v : Rat} (h0 : 0 < t) (h1 : t < 1) (hu : 0 < u) (hv : 0 ≤ v) : 0 < (1 - t) * u + t * v := by
  have := Rat.mul_pos (show 0 < 1 - t by grind) hu
  have := Rat.mul_nonneg (show 0 ≤ t by grind) hv
  grind
theorem nonneg_mix {t u v : Rat} (h0 : 0 ≤ t) (h1 : t ≤ 1) (hu : 0 ≤ u) (hv : 0 ≤ v) : 0 ≤ (1 - t) * u + t * v := by
  have := Rat.mul_nonneg (show 0 ≤ 1 - t by grind) hu
  have := Rat.mul_nonneg h0 hv
  grind

/-- a corner moved towards the one ahead of it -/
theorem T3_move {A B : List V} {p n : V} {t : Rat} (h0 : 0 < t) (h1 : t < 1) (h : T3 (A ++ p :: n :: B)) : T3 (A ++ p :: mix t p n :: B) := by
  rw [T3_append] at h ⊢
  obtain ⟨hA, ⟨hp, hn, hB⟩, hAA, hAB⟩ := h
  rw [List.pairwise_cons] at hp
  refine ⟨hA, ⟨?_, ?_, hB⟩, ?_, ?_⟩
  · rw [List.pairwise_cons]
    refine ⟨fun c hc => ?_, hp.2⟩
    rw [turn_mix2, turn_aab]
    exact pos_mix h0 h1 (Rat.le_refl) (hp.1 c hc)
  · refine List.Pairwise.imp_of_mem ?_ (List.Pairwise.and hn hp.2)
    intro b c hb hc ⟨h2, h3⟩
    rw [turn_mix1]
    exact pos_mix h0 h1 (by grind) h2
  · intro c hc
    simp only [List.mem_cons] at hc
    rcases hc with rfl | rfl | hc
    · exact hAA c (by simp)
    · refine List.Pairwise.imp ?_ (List.Pairwise.and (hAA p (by simp)) (hAA n (by simp)))
      intro a b ⟨h2, h3⟩
      rw [turn_mix3]
      exact pos_mix h0 h1 (by grind) h3
    · exact hAA c (by simp [hc])
  · intro a ha
    have h2 := hAB a ha
    rw [List.pairwise_cons, List.pairwise_cons] at h2 ⊢
    refine ⟨fun c hc => ?_, fun c hc => ?_, h2.2.2⟩
    · simp only [List.mem_cons] at hc
      rcases hc with rfl | hc
      · rw [turn_mix3, turn_abb]
        exact pos_mix h0 h1 (Rat.le_refl) (h2.1 n (by simp))
      · exact h2.1 c (by simp [hc])
    · rw [turn_mix2]
      exact pos_mix h0 h1 (by have := h2.1 c (by simp [hc]); grind) (h2.2.1 c hc)

/-- a corner moved towards the one behind it -/
theorem T3_move' {A B : List V} {p n : V} {t : Rat} (h0 : 0 < t) (h1 : t < 1) (h : T3 (A ++ n :: p :: B)) : T3 (A ++ mix t n p :: p :: B) := by
  rw [T3_append] at h ⊢
  obtain ⟨hA, ⟨hn, hp, hB⟩, hAA, hAB⟩ := h
  rw [List.pairwise_cons] at hn
  refine ⟨hA, ⟨?_, hp, hB⟩, ?_, ?_⟩
  · rw [List.pairwise_cons]
    refine ⟨fun c hc => ?_, ?_⟩
    · rw [turn_mix1, turn_aab]
      exact pos_mix' h0 h1 (hn.1 c hc) (Rat.le_refl)
    · refine List.Pairwise.imp ?_ (List.Pairwise.and hn.2 hp)
      intro b c ⟨h2, h3⟩
      rw [turn_mix1]
      exact pos_mix h0 h1 (by grind) h3
  · intro c hc
    simp only [List.mem_cons] at hc
    rcases hc with rfl | rfl | hc
    · refine List.Pairwise.imp ?_ (List.Pairwise.and (hAA p (by simp)) (hAA n (by simp)))
      intro a b ⟨h2, h3⟩
      rw [turn_mix3]
      exact pos_mix h0 h1 (by grind) h2
    · exact hAA _ (by simp)
    · exact hAA c (by simp [hc])
  · intro a ha
    have h2 := hAB a ha
    rw [List.pairwise_cons, List.pairwise_cons] at h2 ⊢
    refine ⟨fun c hc => ?_, h2.2.1, h2.2.2⟩
    simp only [List.mem_cons] at hc
    rcases hc with rfl | hc
    · rw [turn_mix2, turn_abb]
      exact pos_mix' h0 h1 (h2.1 c (by simp)) (Rat.le_refl)
    · rw [turn_mix2]
      exact pos_mix' h0 h1 (h2.1 c (by simp [hc])) (by have := h2.2.1 c hc; grind)

/-- a row of four or more that are given in their order -/
theorem T3_quad {a b c d : V} (f : F) (h : T3 [a, b, c, d]) (ha : 0 < f.at a) (hb : f.at b ≤ 0) (hc : 0 ≤ f.at c) (hd : f.at d ≤ 0) : False := by
  simp only [T3, List.pairwise_cons, List.mem_cons, forall_eq_or_imp, List.not_mem_nil, false_imp_iff, implies_true, List.Pairwise.nil, and_true] at h
  obtain ⟨⟨⟨h1, h2⟩, h3⟩, h4⟩ := h
  have q := quad f a b c d
  have := Rat.mul_pos h4 ha
  have := Rat.mul_nonneg (show 0 ≤ turn a b d by grind) hc
  have := Rat.mul_nonneg (show 0 ≤ turn a c d by grind) (show 0 ≤ - f.at b by grind)
  have := Rat.mul_nonneg (show 0 ≤ turn a b c by grind) (show 0 ≤ - f.at d by grind)
  grind

theorem split_by {α : Type} (p : α → Prop) [DecidablePred p] (l : List α) : ∃ A B, l = A ++ B ∧ (∀ a ∈ A, p a) ∧ (B = [] ∨ ∃ b C, B = b :: C ∧ ¬ p b) := by
  induction l with
  | nil => exact ⟨[], [], rfl, by simp, .inl rfl⟩
  | cons x l ih =>
    by_cases hx : p x
    · obtain ⟨A, B, e, hA, hB⟩ := ih
      exact ⟨x :: A, B, by simp [e], by simpa [hx] using hA, hB⟩
    · exact ⟨[], x :: l, rfl, by simp, .inr ⟨x, l, rfl, hx⟩⟩

/-- none, or one at which f is 0 -/
def Zero (f : F) (Z : List V) : Prop := Z = [] ∨ ∃ z, Z = [z] ∧ f.at z = 0

theorem T3.sub4 {l : List V} (h : T3 l) {a b c d : V} (s : [a, b, c, d].Sublist l) : T3 [a, b, c, d] := h.sub s

theorem parted {f : F} {l : List V} (h : T3 l) (hp : ∃ x ∈ l, 0 < f.at x) (hn : ∃ x ∈ l, f.at x < 0) :
    ∃ P Z N W, Rot l (P ++ (Z ++ (N ++ W))) ∧ P ≠ [] ∧ N ≠ [] ∧ (∀ p ∈ P, 0 < f.at p) ∧ (∀ n ∈ N, f.at n < 0) ∧ Zero f Z ∧ Zero f W := by
  obtain ⟨x0, hx0, hx1⟩ := hp
  obtain ⟨y, hy0, hy⟩ := hn
  obtain ⟨r, hr⟩ := Rot.ofMem hy0
  -- the first at which f is more than 0
  obtain ⟨A, B, rfl, hA, hB⟩ := split_by (fun z => f.at z ≤ 0) r
  have hm : x0 ∈ y :: (A ++ B) := hr.mem.1 hx0
  rcases hB with rfl | ⟨x, C, rfl, hx⟩
  · simp at hm
    rcases hm with rfl | hm
    · grind
    · have := hA _ hm; grind
  have hx : 0 < f.at x := by grind
  have hr2 : Rot l (x :: C ++ y :: A) := hr.trans ⟨y :: A, x :: C, by simp, rfl⟩
  have t2 := hr2.t3 h
  obtain ⟨P, R, rfl, hP, hR⟩ := split_by (fun z => 0 < f.at z) C
  -- behind them none is more than 0
  have hR2 : ∀ z ∈ R, f.at z ≤ 0 := by
    intro z hz
    rcases hR with rfl | ⟨b, R, rfl, hb⟩
    · simp at hz
    · simp at hz
      rcases hz with rfl | hz
      · grind
      · false_or_by_contra
        have : [x, b, z, y].Sublist (x :: (P ++ b :: R) ++ y :: A) := by
          have e1 : [z].Sublist R := List.singleton_sublist.2 hz
          have e2 : [y].Sublist (y :: A) := by simp
          have e3 : [b, z].Sublist (b :: R) := e1.cons_cons b
          have e4 : [b, z].Sublist (P ++ b :: R) := e3.trans (List.sublist_append_right _ _)
          exact List.Sublist.append (e4.cons_cons x) e2
        exact T3_quad f (t2.sub this) hx (by grind) (by grind) (by grind)
  have hQ : ∀ z ∈ R ++ y :: A, f.at z ≤ 0 := by
    intro z hz
    simp at hz
    rcases hz with hz | rfl | hz
    · exact hR2 z hz
    · grind
    · exact hA z hz
  have hr3 : Rot l ((x :: P) ++ (R ++ y :: A)) := by simpa using hr2
  have hy2 : y ∈ R ++ y :: A := by simp
  generalize R ++ y :: A = Q at hQ hr3 hy2
  have t3 := hr3.t3 h
  obtain ⟨Z, Q2, rfl, hZ, hQ2⟩ := split_by (fun z => f.at z = 0) Q
  rcases hQ2 with rfl | ⟨n0, Q3, rfl, hn0⟩
  · simp at hy2
    have := hZ y hy2; grind
  have hn0 : f.at n0 < 0 := by have := hQ n0 (by simp); grind
  obtain ⟨N, W, rfl, hN, hW⟩ := split_by (fun z => f.at z < 0) Q3
  have hx2 : [x].Sublist (x :: P) := by simp
  have hZ1 : Zero f Z := by
    match Z, hZ, hr3, t3 with
    | [], _, _, _ => exact .inl rfl
    | [z], hZ, _, _ => exact .inr ⟨z, rfl, hZ z (by simp)⟩
    | z1 :: z2 :: Z, hZ, _, t3 =>
      exfalso
      have : [x, z1, z2, n0].Sublist ((x :: P) ++ ((z1 :: z2 :: Z) ++ n0 :: (N ++ W))) := by
        refine List.Sublist.append hx2 (show ([z1, z2] ++ [n0]).Sublist _ from List.Sublist.append ?_ ?_)
        · simp
        · simp
      have q1 := hZ z1 (by simp)
      have q2 := hZ z2 (by simp)
      exact T3_quad f (t3.sub this) hx (by grind) (by grind) (by grind)
  have hW1 : Zero f W := by
    rcases hW with rfl | ⟨w, W, rfl, hw⟩
    · exact .inl rfl
    · have hw0 : f.at w = 0 := by have := hQ w (by simp); grind
      cases W with
      | nil => exact .inr ⟨w, rfl, hw0⟩
      | cons w2 W =>
        exfalso
        have : [x, n0, w, w2].Sublist ((x :: P) ++ (Z ++ n0 :: (N ++ w :: w2 :: W))) := by
          refine List.Sublist.append hx2 (List.Sublist.trans ?_ (List.sublist_append_right _ _))
          refine List.Sublist.cons_cons n0 (List.Sublist.trans ?_ (List.sublist_append_right _ _))
          simp
        have q2 := hQ w2 (by simp)
        exact T3_quad f (t3.sub this) hx (by grind) (by grind) (by grind)
  refine ⟨x :: P, Z, n0 :: N, W, by simpa using hr3, by simp, by simp, ?_, ?_, hZ1, hW1⟩
  · intro p hp
    simp at hp
    rcases hp with rfl | hp
    · exact hx
    · exact hP p hp
  · intro p hp
    simp at hp
    rcases hp with rfl | hp
    · exact hn0
    · exact hN p hp

/-! ### What lies on the left of a line -/
def crossing (f : F) (a b : V) : V := mix (f.at a / (f.at a - f.at b)) a b
def parts (f : F) (a b : V) : Bool := decide ((0 < f.at a ∧ f.at b < 0) ∨ (f.at a < 0 ∧ 0 < f.at b))
def edge (f : F) (s : V × V) : List V := (if f.at s.1 < 0 then [] else [s.1]) ++ (if parts f s.1 s.2 then [crossing f s.1 s.2] else [])
def clip (f : F) (l : List V) : List V := (cyc l).flatMap (edge f)
theorem Rot.clip {l m : List V} (f : F) (h : Rot l m) : Rot (clip f l) (clip f m) := h.cyc.flatMap _

theorem div_pos' {a b : Rat} (ha : 0 < a) (hb : 0 < b) : 0 < a / b := by
  rw [Rat.lt_div_iff hb]; grind
theorem crossing_t {u v : Rat} (h : (0 < u ∧ v < 0) ∨ (u < 0 ∧ 0 < v)) : 0 < u / (u - v) ∧ u / (u - v) < 1 := by
  rcases h with ⟨h1, h2⟩ | ⟨h1, h2⟩
  · have h3 : 0 < u - v := by grind
    constructor
    · exact div_pos' h1 h3
    · rw [Rat.div_lt_iff h3]; grind
  · have h3 : 0 < v - u := by grind
    have e : u / (u - v) = (-u) / (v - u) := by grind
    rw [e]
    constructor
    · exact div_pos' (by grind) h3
    · rw [Rat.div_lt_iff h3]; grind
theorem crossing_at {f : F} {a b : V} (h : f.at a - f.at b ≠ 0) : f.at (crossing f a b) = 0 := by
  rw [crossing, at_mix]; grind

/-- x stands between p and n, where they stand on two sides of the line -/
def Bridge (f : F) (p : V) (Z : List V) (n x : V) : Prop := f.at x = 0 ∧ (Z = [x] ∨ (Z = [] ∧ ∃ t, 0 < t ∧ t < 1 ∧ x = mix t p n))
theorem Bridge.symm {f : F} {p n x : V} {Z : List V} (h : Bridge f p Z n x) : Bridge f.opp n Z p x := by
  obtain ⟨h0, h⟩ := h
  refine ⟨by rw [opp_at]; grind, ?_⟩
  rcases h with h | ⟨h, t, h1, h2, h3⟩
  · exact .inl h
  · refine .inr ⟨h, 1 - t, by grind, by grind, ?_⟩
    rw [h3]; simp only [mix]; ext <;> grind
/-- leaving: from p with f above 0 to n with f below 0 -/
theorem bridge_out {f : F} {p n : V} {Z : List V} (hp : 0 < f.at p) (hn : f.at n < 0) (hZ : Zero f Z) :
    ∃ x, Bridge f p Z n x ∧ (path (p :: (Z ++ [n]))).flatMap (edge f) = [p, x] ∧ (path (p :: (Z ++ [n]))).flatMap (edge f.opp) = [x] := by
  rcases hZ with rfl | ⟨z, rfl, hz⟩
  · refine ⟨crossing f p n, ⟨crossing_at (by grind), .inr ⟨rfl, f.at p / (f.at p - f.at n), (crossing_t (.inl ⟨hp, hn⟩)).1, (crossing_t (.inl ⟨hp, hn⟩)).2, rfl⟩⟩, ?_, ?_⟩
    · have h1 : ¬ f.at p < 0 := by grind
      simp [path, edge, parts, hp, hn, h1]
    · have h1 : f.opp.at p < 0 := by rw [opp_at]; grind
      have h2 : 0 < f.opp.at n := by rw [opp_at]; grind
      have h3 : crossing f.opp p n = crossing f p n := by
        simp only [crossing, opp_at]
        congr 1
        grind
      simp [path, edge, parts, h1, h2, h3]
  · refine ⟨z, ⟨hz, .inl rfl⟩, ?_, ?_⟩
    · have h1 : ¬ f.at p < 0 := by grind
      simp [path, edge, parts, hz, h1]
    · have h1 : f.opp.at p < 0 := by rw [opp_at]; grind
      have h2 : f.opp.at z = 0 := by rw [opp_at]; grind
      simp [path, edge, parts, h2, h1]
theorem opp_opp (f : F) : f.opp.opp = f := by
  simp [F.opp]
theorem Zero.opp {f : F} {Z : List V} (h : Zero f Z) : Zero f.opp Z := by
  rcases h with h | ⟨z, h1, h2⟩
  · exact .inl h
  · exact .inr ⟨z, h1, by rw [opp_at]; grind⟩
theorem walk_pos {f : F} : ∀ {A : List V} {p : V}, (∀ a ∈ A ++ [p], 0 < f.at a) → (path (A ++ [p])).flatMap (edge f) = A
  | [], p, _ => by simp [path]
  | [a], p, h => by
    have h1 := h a (by simp); have h2 := h p (by simp)
    have h3 : ¬ f.at a < 0 := by grind
    have h4 : ¬ f.at p < 0 := by grind
    simp [path, edge, parts, h3, h4]
  | a :: b :: A, p, h => by
    have h1 := h a (by simp); have h2 := h b (by simp)
    have h3 : ¬ f.at a < 0 := by grind
    have h4 : ¬ f.at b < 0 := by grind
    have := walk_pos (A := b :: A) (p := p) (fun x hx => h x (by simp at hx ⊢; grind))
    simp only [List.cons_append] at this ⊢
    simp only [path, List.flatMap_cons]
    rw [this]
    simp [edge, parts, h3, h4]
theorem walk_neg {f : F} : ∀ {A : List V}, (∀ a ∈ A, f.at a < 0) → (path A).flatMap (edge f) = []
  | [], _ => by simp [path]
  | [a], _ => by simp [path]
  | a :: b :: A, h => by
    have h1 := h a (by simp); have h2 := h b (by simp)
    have h3 : ¬ 0 < f.at a := by grind
    have h4 : ¬ 0 < f.at b := by grind
    have := walk_neg (A := b :: A) (fun x hx => h x (by simp at hx ⊢; grind))
    simp only [path, List.flatMap_cons]
    rw [this]
    simp [edge, parts, h1, h3, h4]

theorem path_app_last {α : Type} (A : List α) (p : α) (R : List α) : path (A ++ [p] ++ R) = path (A ++ [p]) ++ path (p :: R) := by
  have : A ++ [p] ++ R = A ++ p :: R := by simp
  rw [this, path_app]

/-- the row round, from pf on to pl, over Z, from nf on to nl, over W, in four stretches -/
theorem cyc_four {pf : V} {P : List V} {A : List V} {pl : V} {N B : List V} {nf nl : V} {Z W : List V}
    (hP : P = A ++ [pl]) (hP2 : ∃ A', P = pf :: A') (hN : N = B ++ [nl]) (hN2 : ∃ B', N = nf :: B') :
    cyc (P ++ (Z ++ (N ++ W))) = path P ++ (path (pl :: (Z ++ [nf])) ++ (path N ++ path (nl :: (W ++ [pf])))) := by
  obtain ⟨A', hA'⟩ := hP2
  obtain ⟨B', hB'⟩ := hN2
  have e1 : cyc (P ++ (Z ++ (N ++ W))) = path (P ++ (Z ++ (N ++ W)) ++ [pf]) := by
    rw [hA']; rfl
  rw [e1]
  have e2 : P ++ (Z ++ (N ++ W)) ++ [pf] = A ++ [pl] ++ (Z ++ (N ++ (W ++ [pf]))) := by rw [hP]; simp
  rw [e2, path_app_last, ← hP]
  congr 1
  have e3 : pl :: (Z ++ (N ++ (W ++ [pf]))) = (pl :: Z) ++ nf :: (B' ++ (W ++ [pf])) := by rw [hB']; simp
  rw [e3, path_app]
  congr 1
  have e4 : nf :: (B' ++ (W ++ [pf])) = B ++ [nl] ++ (W ++ [pf]) := by
    rw [← hN, hB']; simp
  rw [e4, path_app_last, ← hN]

def cross (a b : V) : Rat := a.x * b.y - a.y * b.x
def psum (l : List (V × V)) : Rat := l.foldr (fun s r => cross s.1 s.2 + r) 0
theorem psum_nil : psum [] = 0 := rfl
theorem psum_cons (s : V × V) (l : List (V × V)) : psum (s :: l) = cross s.1 s.2 + psum l := rfl
theorem psum_append (l m : List (V × V)) : psum (l ++ m) = psum l + psum m := by
  induction l with
  | nil => simp only [List.nil_append, psum_nil]; grind
  | cons s l ih => simp only [List.cons_append, psum_cons, ih]; grind
theorem psum_perm {l m : List (V × V)} (h : l.Perm m) : psum l = psum m := by
  induction h with
  | nil => rfl
  | cons x _ ih => simp only [psum_cons, ih]
  | swap x y l => simp only [psum_cons]; grind
  | trans _ _ ih1 ih2 => rw [ih1, ih2]
/-- twice the size -/
def S (l : List V) : Rat := psum (cyc l)
theorem Rot.S {l m : List V} (h : Rot l m) : S l = S m := psum_perm h.cyc.perm
theorem bridge_sum {f : F} {p n x : V} {Z : List V} (h : Bridge f p Z n x) : psum (path (p :: (Z ++ [n]))) = cross p x + cross x n := by
  rcases h.2 with rfl | ⟨rfl, t, _, _, rfl⟩
  · simp [path, psum_cons, psum_nil, cross]; grind
  · simp [path, psum_cons, psum_nil, cross, mix]; grind

/-- not to the right of any side -/
def Inside (l : List V) (z : V) : Prop := ∀ s ∈ cyc l, 0 ≤ turn s.1 s.2 z
theorem Rot.inside {l m : List V} (h : Rot l m) {z : V} (i : Inside l z) : Inside m z := fun s hs => i s (h.cyc.mem.2 hs)

theorem T3.edge_pos {l : List V} (h : T3 l) {a b : V} {r : List V} (e : Rot l (a :: b :: r)) : ∀ v ∈ r, 0 < turn a b v := by
  have := (e.t3 h).1
  rw [List.pairwise_cons] at this
  exact this.1
theorem T3.inside {l : List V} (h : T3 l) {v : V} (hv : v ∈ l) : Inside l v := by
  intro s hs
  obtain ⟨a, b⟩ := s
  rcases cyc_mem hs with ⟨rfl, rfl⟩ | ⟨r, hr⟩
  · simp at hv; subst hv; rw [turn_aab]; exact Rat.le_refl
  · have := hr.mem.1 hv
    simp only [List.mem_cons] at this
    rcases this with rfl | rfl | hv
    · simp only; rw [turn_aba]; exact Rat.le_refl
    · simp only; rw [turn_abb]; exact Rat.le_refl
    · exact Rat.le_of_lt (h.edge_pos hr v hv)

theorem Inside.mix {l : List V} {u v : V} {t : Rat} (h0 : 0 ≤ t) (h1 : t ≤ 1) (hu : Inside l u) (hv : Inside l v) : Inside l (mix t u v) := by
  intro s hs
  rw [turn_mix3]
  exact nonneg_mix h0 h1 (hu s hs) (hv s hs)
theorem Bridge.inside {f : F} {l : List V} {p n x : V} {Z : List V} (h : Bridge f p Z n x) (hp : Inside l p) (hn : Inside l n) (hZ : ∀ z ∈ Z, Inside l z) : Inside l x := by
  rcases h.2 with rfl | ⟨rfl, t, t0, t1, rfl⟩
  · exact hZ x (by simp)
  · exact hp.mix (Rat.le_of_lt t0) (Rat.le_of_lt t1) hn

/-- A strictly convex row cut by a line in two. -/
structure Cut (f : F) (l P N : List V) (x1 x2 : V) : Prop where
  pos : ∀ p ∈ P, 0 < f.at p
  neg : ∀ n ∈ N, f.at n < 0
  hP : P ≠ []
  hN : N ≠ []
  z1 : f.at x1 = 0
  z2 : f.at x2 = 0
  left : T3 (P ++ [x1, x2])
  right : T3 (N ++ [x2, x1])
  mid1 : ∀ p ∈ P, ∀ n ∈ N, 0 ≤ turn p x1 n
  mid2 : ∀ p ∈ P, ∀ n ∈ N, 0 ≤ turn p n x2
  clipL : Rot (clip f l) (P ++ [x1, x2])
  clipR : Rot (clip f.opp l) (N ++ [x2, x1])
  area : S l = S (P ++ [x1, x2]) + S (N ++ [x2, x1])
  mem : ∀ v ∈ l, v ∈ P ∨ v ∈ N ∨ v = x1 ∨ v = x2
  memP : ∀ v ∈ P, v ∈ l
  memN : ∀ v ∈ N, v ∈ l
  insL : ∀ z, Inside l z → 0 ≤ f.at z → Inside (P ++ [x1, x2]) z
  insR : ∀ z, Inside l z → f.at z ≤ 0 → Inside (N ++ [x2, x1]) z
  in1 : Inside l x1
  in2 : Inside l x2

/-- the corners left of the line, and the two where it's crossed -/
theorem cut_t3 {f : F} {P Z N W : List V} {pf pl nf nl x1 x2 : V} {A A' B B' : List V} (h : T3 (P ++ (Z ++ (N ++ W))))
    (hl : 3 ≤ (P ++ (Z ++ (N ++ W))).length)
    (hP : P = A ++ [pl]) (hP2 : P = pf :: A') (hN : N = B ++ [nl]) (hN2 : N = nf :: B')
    (h1 : Bridge f pl Z nf x1) (h2 : Bridge f nl W pf x2) : T3 (P ++ [x1, x2]) := by
  rcases h1.2 with rfl | ⟨rfl, t, t0, t1, rfl⟩
  · rcases h2.2 with rfl | ⟨rfl, t, t0, t1, rfl⟩
    · exact h.sub (List.Sublist.append_left (List.Sublist.cons_cons _ (List.sublist_append_right _ _)) _)
    · subst hN
      have h3 : T3 (nl :: (P ++ (x1 :: B))) := by
        have : P ++ ([x1] ++ (B ++ [nl] ++ [])) = (P ++ (x1 :: B)) ++ [nl] := by simp
        rw [this] at h
        exact T3_rot h
      rw [hP2] at h3 ⊢
      have h4 := T3_move' (A := []) t0 t1 (show T3 ([] ++ nl :: pf :: (A' ++ x1 :: B)) from h3)
      have h5 : T3 ((pf :: (A' ++ x1 :: B)) ++ [mix t nl pf]) := T3_rot (l := [mix t nl pf]) h4
      refine h5.sub ?_
      simp
  · rcases h2.2 with rfl | ⟨rfl, t', t0', t1', rfl⟩
    · rw [hN2] at h
      have h3 : T3 (A ++ pl :: nf :: (B' ++ [x2])) := by
        rw [hP] at h; simpa using h
      have h4 := T3_move t0 t1 h3
      rw [hP]
      refine h4.sub ?_
      simp
    · cases B' with
      | cons b B' =>
        have hB : ∃ C, B = nf :: C := by
          cases B with
          | nil => rw [hN2] at hN; simp at hN
          | cons c C => rw [hN2] at hN; simp at hN; exact ⟨C, by rw [hN.1]⟩
        obtain ⟨C, rfl⟩ := hB
        have h3 : T3 (A ++ pl :: nf :: (C ++ [nl])) := by
          rw [hP, hN] at h; simpa using h
        have h4 := T3_move t0 t1 h3
        have h5 : T3 (nl :: (P ++ mix t pl nf :: C)) := by
          have : A ++ pl :: mix t pl nf :: (C ++ [nl]) = (P ++ mix t pl nf :: C) ++ [nl] := by rw [hP]; simp
          rw [this] at h4
          exact T3_rot h4
        rw [hP2] at h5 ⊢
        have h6 := T3_move' (A := []) t0' t1' (show T3 ([] ++ nl :: pf :: (A' ++ mix t pl nf :: C)) from h5)
        have h7 : T3 ((pf :: (A' ++ mix t pl nf :: C)) ++ [mix t' nl pf]) := T3_rot (l := [mix t' nl pf]) h6
        refine h7.sub ?_
        simp
      | nil =>
        -- one corner alone lies beyond
        have hB : B = [] ∧ nl = nf := by
          rw [hN2] at hN
          cases B with
          | nil => simp at hN; exact ⟨rfl, hN.symm⟩
          | cons c C => simp at hN
        obtain ⟨rfl, rfl⟩ := hB
        subst hN2
        have hPn : T3 (P ++ [nl]) := by simpa using h
        have hne : ∃ A'', A' = A'' ++ [pl] := by
          rw [hP2] at hl
          rcases List.eq_nil_or_concat A' with rfl | ⟨A'', z, rfl⟩
          · simp at hl
          · rw [hP] at hP2
            have : A ++ [pl] = (pf :: A'') ++ [z] := by simpa using hP2
            obtain ⟨_, e⟩ := List.append_inj' this rfl
            simp at e; subst e
            exact ⟨A'', by simp⟩
        obtain ⟨A'', rfl⟩ := hne
        have hPT := (T3_append.1 hPn).1
        have hPp := (T3_append.1 hPn).2.2.1 nl (by simp)
        have a1 : T3 (P ++ [mix t pl nl]) := by
          rw [hP] at hPn ⊢
          simpa using T3_move t0 t1 (A := A) (B := []) (by simpa using hPn)
        have a2 : T3 (P ++ [mix t' nl pf]) := by
          have h5 : T3 (nl :: pf :: (A'' ++ [pl])) := by
            rw [hP2] at hPn
            exact T3_rot (l := pf :: (A'' ++ [pl])) (m := [nl]) hPn
          have h6 := T3_move' (A := []) t0' t1' (show T3 ([] ++ nl :: pf :: (A'' ++ [pl])) from h5)
          rw [hP2]
          exact T3_rot (l := [mix t' nl pf]) h6
        rw [T3_append]
        refine ⟨hPT, by simp [T3], ?_, ?_⟩
        · intro c hc
          simp at hc
          rcases hc with rfl | rfl
          · exact (T3_append.1 a1).2.2.1 _ (by simp)
          · exact (T3_append.1 a2).2.2.1 _ (by simp)
        · intro a ha
          simp only [List.pairwise_cons, List.mem_cons, List.not_mem_nil, or_false, forall_eq, false_imp_iff, implies_true, List.Pairwise.nil, and_true]
          have e : turn a (mix t pl nl) (mix t' nl pf) = ((1 - t) * (1 - t')) * turn a pl nl + ((1 - t) * t') * turn a pl pf + (t * t') * turn a nl pf := by
            simp only [turn, mix]; grind
          rw [e]
          have c1 := Rat.mul_pos (show 0 < 1 - t by grind) (show 0 < 1 - t' by grind)
          have c2 := Rat.mul_pos (show 0 < 1 - t by grind) t0'
          have c3 := Rat.mul_pos t0 t0'
          rw [hP2] at ha hPp hPT
          rw [List.pairwise_cons] at hPp
          have k1 := hPp.1 pl (by simp)
          rw [T3] at hPT
          simp only [List.mem_cons, List.mem_append, List.not_mem_nil, or_false] at ha
          rcases ha with rfl | ha | rfl
          · rw [turn_aba, turn_aba]
            have := Rat.mul_pos c1 k1
            grind
          · have k2 : 0 < turn a pl nl := by
              have := hPp.2
              rw [List.pairwise_append] at this
              exact this.2.2 a ha pl (by simp)
            have k3 : 0 < turn pf a pl := by
              have := hPT.1
              rw [List.pairwise_append] at this
              exact this.2.2 a ha pl (by simp)
            have k4 : 0 < turn pf a nl := hPp.1 a (by simp [ha])
            have k5 : turn a pl pf = turn pf a pl := by simp only [turn]; grind
            have k6 : turn a nl pf = turn pf a nl := by simp only [turn]; grind
            rw [k5, k6]
            have := Rat.mul_pos c1 k2
            have := Rat.mul_pos c2 k3
            have := Rat.mul_pos c3 k4
            grind
          · rw [turn_aab, turn_aab]
            have k6 : turn a nl pf = turn pf a nl := by simp only [turn]; grind
            rw [k6]
            have := Rat.mul_pos c3 k1
            grind

theorem T3_three {a b c : V} : T3 [a, b, c] ↔ 0 < turn a b c := by
  simp [T3]
theorem T3.turn3 {l : List V} (h : T3 l) {a b c : V} (s : [a, b, c].Sublist l) : 0 < turn a b c := T3_three.1 (h.sub s)

theorem cut_mid {f : F} {P Z N W : List V} {pl nf x1 : V} {A B' : List V} (h : T3 (P ++ (Z ++ (N ++ W))))
    (hP : P = A ++ [pl]) (hN2 : N = nf :: B') (h1 : Bridge f pl Z nf x1) : ∀ p ∈ P, ∀ n ∈ N, 0 ≤ turn p x1 n := by
  intro p hp n hn
  have sp : [p].Sublist P := List.singleton_sublist.2 hp
  have sn : [n].Sublist (N ++ W) := (List.singleton_sublist.2 hn).trans (List.sublist_append_left _ _)
  rcases h1.2 with rfl | ⟨rfl, t, t0, t1, rfl⟩
  · exact Rat.le_of_lt (h.turn3 (show ([p] ++ ([x1] ++ [n])).Sublist _ from List.Sublist.append sp (List.Sublist.append (by simp) sn)))
  · rw [turn_mix2]
    have q1 : 0 ≤ turn p pl n := by
      rw [hP] at hp
      simp only [List.mem_append, List.mem_cons, List.not_mem_nil, or_false] at hp
      rcases hp with hp | rfl
      · refine Rat.le_of_lt (h.turn3 (show ([p, pl] ++ [n]).Sublist _ from List.Sublist.append ?_ (by simpa using sn)))
        rw [hP]
        exact List.Sublist.append (List.singleton_sublist.2 hp) (by simp)
      · rw [turn_aab]; exact Rat.le_refl
    have q2 : 0 ≤ turn p nf n := by
      rw [hN2] at hn
      simp only [List.mem_cons] at hn
      rcases hn with rfl | hn
      · rw [turn_abb]; exact Rat.le_refl
      · refine Rat.le_of_lt (h.turn3 (show ([p] ++ [nf, n]).Sublist _ from List.Sublist.append sp ?_))
        rw [hN2]
        simp only [List.nil_append, List.cons_append]
        exact ((List.singleton_sublist.2 hn).trans (List.sublist_append_left _ _)).cons_cons _
    exact nonneg_mix (Rat.le_of_lt t0) (Rat.le_of_lt t1) q1 q2

theorem zero_mem {f : F} {p n x : V} {Z : List V} (h : Bridge f p Z n x) : ∀ z ∈ Z, z = x := by
  rcases h.2 with rfl | ⟨rfl, _⟩
  · simp
  · simp

theorem ends {α : Type} {l : List α} (h : l ≠ []) : ∃ a r, l = a :: r := by
  cases l with
  | nil => exact absurd rfl h
  | cons a r => exact ⟨a, r, rfl⟩
theorem ends' {α : Type} {l : List α} (h : l ≠ []) : ∃ r a, l = r ++ [a] := by
  rcases List.eq_nil_or_concat l with h1 | ⟨r, a, h1⟩
  · exact absurd h1 h
  · exact ⟨r, a, by simpa using h1⟩

theorem same_line {f : F} {a b c z : V} (ha : f.at a = 0) (hb : f.at b = 0) : turn a b c * f.at z = turn a b z * f.at c := by
  have := tri f a b c z
  rw [ha, hb] at this
  grind

theorem bridge_inside1 {f : F} {p n x : V} {Z : List V} (h : Bridge f p Z n x) {z : V} (i : ∀ s ∈ path (p :: (Z ++ [n])), 0 ≤ turn s.1 s.2 z) :
    0 ≤ turn p x z ∧ 0 ≤ turn x n z := by
  rcases h.2 with rfl | ⟨rfl, t, t0, t1, rfl⟩
  · exact ⟨i (p, x) (by simp [path]), i (x, n) (by simp [path])⟩
  · have := i (p, n) (by simp [path])
    simp only at this
    rw [turn_mix2, turn_mix1, turn_aab, turn_aab]
    have h1 := Rat.mul_nonneg (Rat.le_of_lt t0) this
    have h2 := Rat.mul_nonneg (show 0 ≤ 1 - t by grind) this
    constructor <;> grind
theorem cut_inside {f : F} {P N : List V} {A A' : List V} {pf pl x1 x2 z : V} (hP1 : P = A ++ [pl]) (hP2 : P = pf :: A')
    (i1 : ∀ s ∈ path P, 0 ≤ turn s.1 s.2 z) (i2 : 0 ≤ turn pl x1 z) (i3 : 0 ≤ turn x2 pf z)
    (pos : ∀ p ∈ P, 0 < f.at p) (z1 : f.at x1 = 0) (z2 : f.at x2 = 0) (t : T3 (P ++ [x1, x2])) (hz : 0 ≤ f.at z) : Inside (P ++ [x1, x2]) z := by
  have : cyc (P ++ [x1, x2]) = path (A ++ [pl] ++ [x1, x2, pf]) := by
    rw [← hP1]; rw [hP2]; simp [cyc]
  intro s hs
  rw [this, path_app_last, ← hP1] at hs
  simp only [path, List.mem_append, List.mem_cons, List.not_mem_nil, or_false] at hs
  rcases hs with h | rfl | rfl | rfl
  · exact i1 s h
  · exact i2
  · simp only
    have k1 : 0 < turn x1 x2 pf := by
      have := t.turn3 (a := pf) (b := x1) (c := x2) (by rw [hP2]; simp)
      rw [turn_cyc] at this; exact this
    have k2 := pos pf (by rw [hP2]; simp)
    have k3 := same_line (c := pf) (z := z) z1 z2
    have k4 := Rat.mul_nonneg (Rat.le_of_lt k1) hz
    rw [k3] at k4
    false_or_by_contra
    have k5 := Rat.mul_pos (show 0 < - turn x1 x2 z by grind) k2
    grind
  · exact i3

theorem cut {f : F} {l : List V} (h : T3 l) (hl : 3 ≤ l.length) (hp : ∃ x ∈ l, 0 < f.at x) (hn : ∃ x ∈ l, f.at x < 0) :
    ∃ P N x1 x2, Cut f l P N x1 x2 := by
  obtain ⟨P, Z, N, W, hr, hP, hN, pos, neg, hZ, hW⟩ := parted h hp hn
  have t := hr.t3 h
  have hl2 := hr.length ▸ hl
  obtain ⟨pf, A', hP2⟩ := ends hP
  obtain ⟨A, pl, hP1⟩ := ends' hP
  obtain ⟨nf, B', hN2⟩ := ends hN
  obtain ⟨B, nl, hN1⟩ := ends' hN
  have ppl : 0 < f.at pl := pos pl (by rw [hP1]; simp)
  have ppf : 0 < f.at pf := pos pf (by rw [hP2]; simp)
  have nnl : f.at nl < 0 := neg nl (by rw [hN1]; simp)
  have nnf : f.at nf < 0 := neg nf (by rw [hN2]; simp)
  obtain ⟨x1, b1, o1, o1'⟩ := bridge_out ppl nnf hZ
  have ho : ∀ z, f.opp.at z = - f.at z := opp_at f
  obtain ⟨x2, b2, o2, o2'⟩ := bridge_out (f := f.opp) (p := nl) (n := pf) (Z := W) (by rw [ho]; grind) (by rw [ho]; grind) hW.opp
  rw [opp_opp] at o2'
  have b2' : Bridge f nl W pf x2 := by
    exact ⟨by have := b2.1; rw [ho] at this; grind, b2.2⟩
  have hc := cyc_four (Z := Z) (W := W) hP1 ⟨A', hP2⟩ hN1 ⟨B', hN2⟩
  -- round the other way about: N first
  have tN : T3 (N ++ (W ++ (P ++ Z))) := by
    have : T3 ((P ++ Z) ++ (N ++ W)) := by simpa using t
    simpa using T3_rot this
  have hl3 : 3 ≤ (N ++ (W ++ (P ++ Z))).length := by
    simp only [List.length_append] at hl2 ⊢; omega
  have tL : T3 (P ++ [x1, x2]) := cut_t3 t hl2 hP1 hP2 hN1 hN2 b1 b2'
  have b1' : Bridge f.opp pl Z nf x1 := ⟨by rw [ho, b1.1]; grind, b1.2⟩
  have tR : T3 (N ++ [x2, x1]) := cut_t3 (f := f.opp) tN hl3 hN1 hN2 hP1 hP2 b2 b1'
  refine ⟨P, N, x1, x2, pos, neg, hP, hN, b1.1, b2'.1, tL, tR, ?_, ?_, ?_, ?_, ?_, ?_, ?_, ?_, ?_, ?_, ?_, ?_⟩
  · exact cut_mid t hP1 hN2 b1
  · intro p hp n hn
    rw [turn_cyc]
    exact cut_mid tN hN1 hP2 b2' n hn p hp
  · refine (hr.clip f).trans ?_
    rw [clip, hc, List.flatMap_append, List.flatMap_append, List.flatMap_append, o1, o2', walk_neg neg]
    rw [hP1] at pos ⊢
    rw [walk_pos pos]
    simpa using Rot.refl _
  · refine (hr.clip f.opp).trans ?_
    rw [clip, hc, List.flatMap_append, List.flatMap_append, List.flatMap_append, o1', o2]
    rw [walk_neg (f := f.opp) (A := P) (fun a ha => by rw [ho]; have := pos a ha; grind)]
    rw [hN1] at neg ⊢
    rw [walk_pos (f := f.opp) (fun a ha => by rw [ho]; have := neg a ha; grind)]
    exact ⟨[x1], B ++ [nl, x2], by simp, by simp⟩
  · rw [hr.S, S, hc, psum_append, psum_append, psum_append, bridge_sum b1, bridge_sum b2]
    have e1 : S (P ++ [x1, x2]) = psum (path P) + (cross pl x1 + cross x1 x2 + cross x2 pf) := by
      have : cyc (P ++ [x1, x2]) = path (A ++ [pl] ++ [x1, x2, pf]) := by
        rw [← hP1]; rw [hP2]; simp [cyc]
      rw [S, this, path_app_last, psum_append, ← hP1]
      simp only [path, psum_cons, psum_nil]; grind
    have e2 : S (N ++ [x2, x1]) = psum (path N) + (cross nl x2 + cross x2 x1 + cross x1 nf) := by
      have : cyc (N ++ [x2, x1]) = path (B ++ [nl] ++ [x2, x1, nf]) := by
        rw [← hN1]; rw [hN2]; simp [cyc]
      rw [S, this, path_app_last, psum_append, ← hN1]
      simp only [path, psum_cons, psum_nil]; grind
    rw [e1, e2]
    simp only [cross]; grind
  · intro v hv
    have := hr.mem.1 hv
    simp only [List.mem_append] at this
    rcases this with h | h | h | h
    · exact .inl h
    · exact .inr (.inr (.inl (zero_mem b1 v h)))
    · exact .inr (.inl h)
    · exact .inr (.inr (.inr (zero_mem b2 v h)))
  · intro v hv
    exact hr.mem.2 (by simp [hv])
  · intro v hv
    exact hr.mem.2 (by simp [hv])
  · intro z hz hf
    have i : ∀ s ∈ cyc (P ++ (Z ++ (N ++ W))), 0 ≤ turn s.1 s.2 z := hr.inside hz
    rw [hc] at i
    simp only [List.mem_append] at i
    exact cut_inside (N := N) hP1 hP2 (fun s hs => i s (.inl hs)) (bridge_inside1 b1 (fun s hs => i s (.inr (.inl hs)))).1
      (bridge_inside1 b2' (fun s hs => i s (.inr (.inr (.inr hs))))).2 pos b1.1 b2'.1 tL hf
  · intro z hz hf
    have i : ∀ s ∈ cyc (P ++ (Z ++ (N ++ W))), 0 ≤ turn s.1 s.2 z := hr.inside hz
    rw [hc] at i
    simp only [List.mem_append] at i
    exact cut_inside (f := f.opp) (N := P) hN1 hN2 (fun s hs => i s (.inr (.inr (.inl hs)))) (bridge_inside1 b2' (fun s hs => i s (.inr (.inr (.inr hs))))).1
      (bridge_inside1 b1 (fun s hs => i s (.inr (.inl hs)))).2 (fun a ha => by rw [ho]; have := neg a ha; grind) b2.1 b1'.1 tR (by rw [ho]; grind)
  · have m : ∀ v, v ∈ P ++ (Z ++ (N ++ W)) → Inside l v := fun v hv => h.inside (hr.mem.2 hv)
    exact b1.inside (m pl (by rw [hP1]; simp)) (m nf (by rw [hN2]; simp)) (fun z hz => m z (by simp [hz]))
  · have m : ∀ v, v ∈ P ++ (Z ++ (N ++ W)) → Inside l v := fun v hv => h.inside (hr.mem.2 hv)
    exact b2'.inside (m nl (by rw [hN1]; simp)) (m pf (by rw [hP2]; simp)) (fun z hz => m z (by simp [hz]))
end Geo
end

section
set_option linter.all false
namespace Geo

/-! ### Convex rows, what's inside, sizes -/
/-- in a triangle of corners -/
def InTri (a b c z : V) : Prop := 0 < turn a b c ∧ 0 ≤ turn a b z ∧ 0 ≤ turn b c z ∧ 0 ≤ turn c a z
theorem InTri.nonneg {f : F} {a b c z : V} (h : InTri a b c z) (ha : 0 ≤ f.at a) (hb : 0 ≤ f.at b) (hc : 0 ≤ f.at c) : 0 ≤ f.at z := by
  obtain ⟨h0, h1, h2, h3⟩ := h
  have q := tri f a b c z
  have := Rat.mul_nonneg h2 ha
  have := Rat.mul_nonneg h3 hb
  have := Rat.mul_nonneg h1 hc
  false_or_by_contra
  have := Rat.mul_pos h0 (show 0 < - f.at z by grind)
  grind

theorem fan {b0 z : V} : ∀ {r : List V} {b : V} {last : V}, r ≠ [] → T3 (b0 :: b :: r) → (b :: r).getLast? = some last →
    0 ≤ turn b0 b z → turn b0 last z ≤ 0 → (∀ s ∈ path (b :: r), 0 ≤ turn s.1 s.2 z) → ∃ c d, c ∈ b :: r ∧ d ∈ b :: r ∧ InTri b0 c d z
  | [], _, _, h, _, _, _, _, _ => absurd rfl h
  | c :: r, b, last, _, t, hl, h1, h2, hp => by
    have hbc : 0 < turn b0 b c := t.turn3 (by simp)
    have e1 := hp (b, c) (by simp [path])
    by_cases hc : turn b0 c z ≤ 0
    · refine ⟨b, c, by simp, by simp, hbc, h1, e1, ?_⟩
      have : turn c b0 z = - turn b0 c z := turn_swap _ _ _
      grind
    · cases r with
      | nil => simp at hl; subst hl; exact absurd h2 hc
      | cons d r =>
        obtain ⟨c', d', m1, m2, m3⟩ := fan (r := d :: r) (b := c) (last := last) (by simp) (t.sub (by simp)) (by simpa using hl) (by grind) h2
          (fun s hs => hp s (show s ∈ (b, c) :: path (c :: d :: r) from List.mem_cons_of_mem _ hs))
        exact ⟨c', d', List.mem_cons_of_mem _ m1, List.mem_cons_of_mem _ m2, m3⟩

theorem Inside.tri {l : List V} (h : T3 l) (hl : 3 ≤ l.length) {z : V} (hz : Inside l z) : ∃ a b c, a ∈ l ∧ b ∈ l ∧ c ∈ l ∧ InTri a b c z := by
  match l, hl with
  | b0 :: b :: c :: r, _ =>
    obtain ⟨A, last, e⟩ := ends' (show c :: r ≠ [] by simp)
    have hlast : (b :: c :: r).getLast? = some last := by rw [e]; show ((b :: A) ++ [last]).getLast? = some last; exact List.getLast?_concat
    have hcyc : cyc (b0 :: b :: c :: r) = (b0, b) :: path (b :: c :: r) ++ [(last, b0)] := by
      have : cyc (b0 :: b :: c :: r) = path (b0 :: b :: c :: r ++ [b0]) := rfl
      have h2 : b0 :: b :: c :: r ++ [b0] = (b0 :: b :: A) ++ [last] ++ [b0] := by simp [e]
      have h3 : b0 :: b :: c :: r = (b0 :: b :: A) ++ [last] := by simp [e]
      rw [this, h2, path_app_last, ← h3]
      rfl
    have hp : ∀ s ∈ path (b :: c :: r), 0 ≤ turn s.1 s.2 z := fun s hs => hz s (by rw [hcyc]; simp [hs])
    have h1 : 0 ≤ turn b0 b z := hz (b0, b) (by rw [hcyc]; simp)
    have h2 : 0 ≤ turn last b0 z := hz (last, b0) (by rw [hcyc]; simp)
    have h3 : turn b0 last z ≤ 0 := by have := turn_swap last b0 z; grind
    obtain ⟨c', d', m1, m2, m3⟩ := fan (by simp) h hlast h1 h3 hp
    exact ⟨b0, c', d', by simp, List.mem_cons_of_mem _ m1, List.mem_cons_of_mem _ m2, m3⟩

theorem Inside.nonneg {l : List V} (h : T3 l) (hl : 3 ≤ l.length) {z : V} (hz : Inside l z) {f : F} (hf : ∀ v ∈ l, 0 ≤ f.at v) : 0 ≤ f.at z := by
  obtain ⟨a, b, c, ha, hb, hc, t⟩ := hz.tri h hl
  exact t.nonneg (hf a ha) (hf b hb) (hf c hc)
/-- the greatest is at a corner -/
theorem Inside.corner {l : List V} (h : T3 l) (hl : 3 ≤ l.length) {z : V} (hz : Inside l z) (f : F) : ∃ v ∈ l, f.at z ≤ f.at v := by
  obtain ⟨a, b, c, ha, hb, hc, t⟩ := hz.tri h hl
  false_or_by_contra
  rename_i hne
  have h1 : ∀ v ∈ l, f.at v < f.at z := fun v hv => by
    false_or_by_contra
    exact hne ⟨v, hv, by grind⟩
  have ka := h1 a ha
  have kb := h1 b hb
  have kc := h1 c hc
  obtain ⟨t0, t1, t2, t3⟩ := t
  have q := Geo.tri f a b c z
  have q2 := tri_sum a b c z
  have g1 := Rat.mul_nonneg t2 (show 0 ≤ f.at z - f.at a by grind)
  have g2 := Rat.mul_nonneg t3 (show 0 ≤ f.at z - f.at b by grind)
  have g3 := Rat.mul_nonneg t1 (show 0 ≤ f.at z - f.at c by grind)
  have s1 : turn b c z * (f.at z - f.at a) + turn c a z * (f.at z - f.at b) + turn a b z * (f.at z - f.at c) = 0 := by grind
  have p1 : turn b c z * (f.at z - f.at a) = 0 := by grind
  have p2 : turn c a z * (f.at z - f.at b) = 0 := by grind
  have p3 : turn a b z * (f.at z - f.at c) = 0 := by grind
  rw [Rat.mul_eq_zero] at p1 p2 p3
  have : turn b c z = 0 := by grind
  have : turn c a z = 0 := by grind
  have : turn a b z = 0 := by grind
  grind

/-- the size is above 0 -/
theorem S_eq (a : V) (l : List V) : S (a :: l) = ((path l).map fun s => turn a s.1 s.2).foldr (· + ·) 0 := by
  have key : ∀ (l : List V) (b : V), psum (path (b :: l ++ [a])) = ((path (b :: l)).map fun s => turn a s.1 s.2).foldr (· + ·) 0 - cross a b := by
    intro l
    induction l with
    | nil => intro b; simp [path, psum_cons, psum_nil, cross]; grind
    | cons c l ih =>
      intro b
      have := ih c
      simp only [List.cons_append, path, psum_cons, List.map_cons, List.foldr_cons] at this ⊢
      rw [this]
      simp only [turn, cross]; grind
  cases l with
  | nil => simp [S, cyc, path, psum_cons, psum_nil, cross]; grind
  | cons b l =>
    have := key l b
    show psum (path (a :: b :: l ++ [a])) = _
    simp only [List.cons_append] at this ⊢
    rw [path, psum_cons, this]
    grind
theorem foldr_nonneg : ∀ {l : List Rat}, (∀ x ∈ l, 0 < x) → 0 ≤ l.foldr (· + ·) 0
  | [], _ => Rat.le_refl
  | x :: l, h => by
    have := foldr_nonneg (l := l) (fun y hy => h y (by simp [hy]))
    have := h x (by simp)
    simp only [List.foldr_cons]; grind
theorem T3.fan_pos {a : V} {l : List V} (h : T3 (a :: l)) : ∀ s ∈ path l, 0 < turn a s.1 s.2 := by
  intro s hs
  obtain ⟨b, c⟩ := s
  obtain ⟨u, v, rfl⟩ := path_mem hs
  refine h.turn3 (a := a) (b := b) (c := c) (List.Sublist.cons_cons a (List.Sublist.trans ?_ (List.sublist_append_right _ _)))
  simp
theorem T3.size_pos {l : List V} (h : T3 l) (hl : 3 ≤ l.length) : 0 < S l := by
  match l, hl with
  | a :: b :: c :: r, _ =>
    rw [S_eq]
    have hp := h.fan_pos
    have := foldr_nonneg (l := (path (c :: r)).map fun s => turn a s.1 s.2) (by
      intro x hx
      obtain ⟨s, hs, rfl⟩ := List.mem_map.1 hx
      exact hp s (by simp [path, hs]))
    have h1 := hp (b, c) (by simp [path])
    simp only [path, List.map_cons, List.foldr_cons]
    grind

/-! ### The same corners -/
theorem T3.not_mem {a : V} {m : List V} (h : T3 (a :: m)) (hl : 2 ≤ m.length) : a ∉ m := by
  intro ha
  obtain ⟨u, v, rfl⟩ := List.append_of_mem ha
  have hp := h.1
  rw [List.pairwise_append] at hp
  obtain ⟨h1, h2, h3⟩ := hp
  cases v with
  | cons w v =>
    rw [List.pairwise_cons] at h2
    have := h2.1 w (by simp)
    rw [turn_aab] at this; exact Rat.lt_irrefl this
  | nil =>
    cases u with
    | nil => simp at hl
    | cons w u =>
      have := h3 w (by simp) a (by simp)
      rw [turn_aba] at this; exact Rat.lt_irrefl this
theorem pair_uniq {R : V → V → Prop} (as : ∀ a b, R a b → ¬ R b a) : ∀ {l m : List V}, l.Pairwise R → m.Pairwise R → (∀ v, v ∈ l ↔ v ∈ m) → l = m
  | [], [], _, _, _ => rfl
  | [], y :: m, _, _, h => by have := (h y).2 (by simp); simp at this
  | x :: l, [], _, _, h => by have := (h x).1 (by simp); simp at this
  | x :: l, y :: m, hl, hm, h => by
    rw [List.pairwise_cons] at hl hm
    have e : x = y := by
      false_or_by_contra
      rename_i hne
      have h1 : x ∈ m := by
        have := (h x).1 (by simp)
        simp only [List.mem_cons] at this
        exact this.resolve_left hne
      have h2 : y ∈ l := by
        have := (h y).2 (by simp)
        simp only [List.mem_cons] at this
        exact this.resolve_left (fun e => hne e.symm)
      exact as _ _ (hl.1 y h2) (hm.1 x h1)
    subst e
    have : l = m := pair_uniq as hl.2 hm.2 (fun v => by
      have irr : ∀ a, ¬ R a a := fun a ha => as a a ha ha
      constructor
      · intro hv
        have := (h v).1 (by simp [hv])
        simp only [List.mem_cons] at this
        rcases this with rfl | h'
        · exact absurd (hl.1 _ hv) (irr _)
        · exact h'
      · intro hv
        have := (h v).2 (by simp [hv])
        simp only [List.mem_cons] at this
        rcases this with rfl | h'
        · exact absurd (hm.1 _ hv) (irr _)
        · exact h')
    rw [this]
theorem T3.same {A B : List V} (hA : T3 A) (hB : T3 B) (lA : 3 ≤ A.length) (lB : 3 ≤ B.length) (h : ∀ v, v ∈ A ↔ v ∈ B) : Rot A B := by
  match A, lA with
  | a :: m, lA =>
    obtain ⟨m', r⟩ := Rot.ofMem ((h a).1 (by simp))
    have t := r.t3 hB
    have l2 : 2 ≤ m'.length := by
      have := r.length; simp at this; omega
    have h' : ∀ v, v ∈ m ↔ v ∈ m' := by
      intro v
      have na := hA.not_mem (by simpa using lA)
      have nb := t.not_mem l2
      have h1 := h v
      have h2 := r.mem (x := v)
      simp only [List.mem_cons] at h1 h2
      constructor
      · intro hv
        have := h2.1 (h1.1 (.inr hv))
        rcases this with rfl | h3
        · exact absurd hv na
        · exact h3
      · intro hv
        have := h1.2 (h2.2 (.inr hv))
        rcases this with rfl | h3
        · exact absurd hv nb
        · exact h3
    have e : m = m' := pair_uniq (R := fun b c => 0 < turn a b c) (fun b c h1 h2 => by
      have := turn_swap2 a b c; grind) hA.1 t.1 h'
    subst e
    exact r.symm

def Sub (p K : List V) : Prop := ∀ v ∈ p, Inside K v

theorem two_lines {a b c z : V} (h0 : turn a b c ≠ 0) (h1 : turn a b z = 0) (h2 : turn c a z = 0) : z = a := by
  have e1 : turn a b c * (z.x - a.x) = (b.x - a.x) * turn c a z * (-1) * (-1) + (c.x - a.x) * turn a b z := by
    simp only [turn]; grind
  have e2 : turn a b c * (z.y - a.y) = (b.y - a.y) * turn c a z * (-1) * (-1) + (c.y - a.y) * turn a b z := by
    simp only [turn]; grind
  rw [h1, h2] at e1 e2
  have k1 : turn a b c * (z.x - a.x) = 0 := by rw [e1]; grind
  have k2 : turn a b c * (z.y - a.y) = 0 := by rw [e2]; grind
  rw [Rat.mul_eq_zero] at k1 k2
  ext
  · grind
  · grind

theorem Sub.corner {A B : List V} (hA : T3 A) (hB : T3 B) (lA : 3 ≤ A.length) (lB : 3 ≤ B.length) (h1 : Sub A B) (h2 : Sub B A) : ∀ v ∈ A, v ∈ B := by
  intro a ha
  obtain ⟨m, r⟩ := Rot.ofMem ha
  have t := r.t3 hA
  have lm : 2 ≤ m.length := by have := r.length; simp at this; omega
  match m, lm with
  | a1 :: a2 :: m, _ =>
    obtain ⟨U, an, e⟩ := ends' (show a2 :: m ≠ [] by simp)
    have pos : 0 < turn a a1 an := t.turn3 (by rw [e]; simp)
    obtain ⟨b, hb, hf⟩ := (h1 a ha).corner hB lB (line a1 an)
    rw [line_at, line_at] at hf
    have ib := r.inside (h2 b hb)
    have i1 : 0 ≤ turn a a1 b := ib (a, a1) (by simp [cyc, path])
    have i2 : 0 ≤ turn an a b := ib (an, a) (by
      have : cyc (a :: a1 :: a2 :: m) = path ((a :: a1 :: U) ++ an :: a :: []) := by
        show path (a :: a1 :: (a2 :: m) ++ [a]) = _
        rw [e]; simp
      rw [this]
      exact mem_path _ _ _ _)
    have q := tri_sum a a1 an b
    have e0 : turn a1 an a = turn a a1 an := (turn_cyc a a1 an).symm
    have j1 : turn a a1 b = 0 := by grind
    have j2 : turn an a b = 0 := by grind
    have := two_lines (z := b) (show turn a a1 an ≠ 0 by grind) j1 j2
    exact this ▸ hb
theorem Sub.rot {A B : List V} (hA : T3 A) (hB : T3 B) (lA : 3 ≤ A.length) (lB : 3 ≤ B.length) (h1 : Sub A B) (h2 : Sub B A) : Rot A B :=
  hA.same hB lA lB fun v => ⟨Sub.corner hA hB lA lB h1 h2 v, Sub.corner hB hA lB lA h2 h1 v⟩

/-! ### A convex row within another one -/
theorem all_zero {f : F} {l : List V} (h : T3 l) (hl : 3 ≤ l.length) (hf : ∀ v ∈ l, f.at v = 0) (z : V) : f.at z = 0 := by
  match l, hl with
  | a :: b :: c :: r, _ =>
    have := h.turn3 (a := a) (b := b) (c := c) (by simp)
    have q := tri f a b c z
    rw [hf a (by simp), hf b (by simp), hf c (by simp)] at q
    have : turn a b c * f.at z = 0 := by grind
    rw [Rat.mul_eq_zero] at this
    grind
theorem Cut.memL {f : F} {l P N : List V} {x1 x2 : V} (c : Cut f l P N x1 x2) : ∀ v ∈ P ++ [x1, x2], 0 ≤ f.at v := by
  intro v hv
  simp only [List.mem_append, List.mem_cons, List.not_mem_nil, or_false] at hv
  rcases hv with h | rfl | rfl
  · exact Rat.le_of_lt (c.pos v h)
  · rw [c.z1]; exact Rat.le_refl
  · rw [c.z2]; exact Rat.le_refl
theorem Cut.memR {f : F} {l P N : List V} {x1 x2 : V} (c : Cut f l P N x1 x2) : ∀ v ∈ N ++ [x2, x1], f.at v ≤ 0 := by
  intro v hv
  simp only [List.mem_append, List.mem_cons, List.not_mem_nil, or_false] at hv
  rcases hv with h | rfl | rfl
  · exact Rat.le_of_lt (c.neg v h)
  · rw [c.z2]; exact Rat.le_refl
  · rw [c.z1]; exact Rat.le_refl
theorem Cut.lenL {f : F} {l P N : List V} {x1 x2 : V} (c : Cut f l P N x1 x2) : 3 ≤ (P ++ [x1, x2]).length := by
  obtain ⟨a, r, e⟩ := ends c.hP
  rw [e]; simp
theorem Cut.lenR {f : F} {l P N : List V} {x1 x2 : V} (c : Cut f l P N x1 x2) : 3 ≤ (N ++ [x2, x1]).length := by
  obtain ⟨a, r, e⟩ := ends c.hN
  rw [e]; simp

theorem Cut.inL {f : F} {l P N : List V} {x1 x2 : V} (h : T3 l) (c : Cut f l P N x1 x2) : ∀ v ∈ P ++ [x1, x2], Inside l v := by
  intro v hv
  simp only [List.mem_append, List.mem_cons, List.not_mem_nil, or_false] at hv
  rcases hv with hv | rfl | rfl
  · exact h.inside (c.memP v hv)
  · exact c.in1
  · exact c.in2
theorem Sub.trans {A B C : List V} (hB : T3 B) (lB : 3 ≤ B.length) (h1 : Sub A B) (h2 : Sub B C) : Sub A C := by
  intro v hv s hs
  rw [← line_at]
  exact (h1 v hv).nonneg hB lB (f := line s.1 s.2) (fun b hb => by rw [line_at]; exact h2 b hb s hs)

/-- what's left of a convex row when it's cut by lines that leave another one whole -/
theorem shrink {p : List V} (tp : T3 p) (lp : 3 ≤ p.length) : ∀ (fs : List F), (∀ f ∈ fs, ∀ v ∈ p, 0 ≤ f.at v) → ∀ K : List V, T3 K → 3 ≤ K.length → Sub p K →
    ∃ K', T3 K' ∧ 3 ≤ K'.length ∧ Sub p K' ∧ Sub K' K ∧ (∀ f ∈ fs, ∀ v ∈ K', 0 ≤ f.at v) ∧ S K' ≤ S K ∧ (S K' = S K → K' = K)
  | [], _, K, tK, lK, hK => ⟨K, tK, lK, hK, fun v hv => tK.inside hv, by simp, Rat.le_refl, fun _ => rfl⟩
  | f :: fs, hf, K, tK, lK, hK => by
    have hfs : ∀ g ∈ fs, ∀ v ∈ p, 0 ≤ g.at v := fun g hg => hf g (by simp [hg])
    by_cases hn : ∃ x ∈ K, f.at x < 0
    · have hp : ∃ x ∈ K, 0 < f.at x := by
        false_or_by_contra
        rename_i hne
        have h1 : ∀ v ∈ K, f.at v ≤ 0 := fun v hv => by
          false_or_by_contra
          exact hne ⟨v, hv, by grind⟩
        have h2 : ∀ v ∈ p, f.at v = 0 := fun v hv => by
          have a1 := hf f (by simp) v hv
          obtain ⟨w, hw, a2⟩ := (hK v hv).corner tK lK f
          have := h1 w hw
          grind
        obtain ⟨x, hx, hx2⟩ := hn
        have := all_zero tp lp h2 x
        grind
      obtain ⟨P, N, x1, x2, c⟩ := cut tK lK hp hn
      have hs : Sub p (P ++ [x1, x2]) := fun v hv => c.insL v (hK v hv) (hf f (by simp) v hv)
      obtain ⟨K', t', l', s1, s2, s3, s4, s5⟩ := shrink tp lp fs hfs (P ++ [x1, x2]) c.left c.lenL hs
      have hin : Sub (P ++ [x1, x2]) K := c.inL tK
      have ha := c.area
      have hpos := c.right.size_pos c.lenR
      refine ⟨K', t', l', s1, s2.trans c.left c.lenL hin, ?_, by grind, fun e => by grind⟩
      intro g hg v hv
      simp only [List.mem_cons] at hg
      rcases hg with rfl | hg
      · exact (s2 v hv).nonneg c.left c.lenL c.memL
      · exact s3 g hg v hv
    · obtain ⟨K', t', l', s1, s2, s3, s4, s5⟩ := shrink tp lp fs hfs K tK lK hK
      refine ⟨K', t', l', s1, s2, ?_, s4, s5⟩
      intro g hg v hv
      simp only [List.mem_cons] at hg
      rcases hg with rfl | hg
      · refine (s2 v hv).nonneg tK lK (fun w hw => ?_)
        false_or_by_contra
        exact hn ⟨w, hw, by grind⟩
      · exact s3 g hg v hv

theorem Sub.area {p K : List V} (tp : T3 p) (lp : 3 ≤ p.length) (tK : T3 K) (lK : 3 ≤ K.length) (h : Sub p K) : S p ≤ S K ∧ (S p = S K → Rot p K) := by
  obtain ⟨K', t', l', s1, s2, s3, s4, s5⟩ := shrink tp lp ((cyc p).map fun s => line s.1 s.2) (by
    intro f hf v hv
    obtain ⟨s, hs, rfl⟩ := List.mem_map.1 hf
    rw [line_at]
    exact tp.inside hv s hs) K tK lK h
  have s6 : Sub K' p := fun v hv s hs => by
    rw [← line_at]
    exact s3 _ (List.mem_map.2 ⟨s, hs, rfl⟩) v hv
  have r : Rot p K' := Sub.rot tp t' lp l' s1 s6
  have e := r.S
  exact ⟨by grind, fun e2 => s5 (by grind) ▸ r⟩

/-! ### Two convex rows with no convex row in common -/
/-- what's left of K by some lines, one after another -/
def clips : List F → List V → List V
  | [], l => l
  | f :: fs, l => clips fs (clip f l)

/-- cut by the lines, at one of them nothing is left of it -/
inductive Gone : List F → List V → Prop
  | here {f fs l} : (∀ v ∈ l, f.at v ≤ 0) → Gone (f :: fs) l
  | whole {f fs l} : (∀ v ∈ l, 0 ≤ f.at v) → Gone fs l → Gone (f :: fs) l
  | cut {f fs l P N x1 x2} : Cut f l P N x1 x2 → Gone fs (P ++ [x1, x2]) → Gone (f :: fs) l

theorem separated {z0 : V} : ∀ {fs : List F} {C : List V}, T3 C → 3 ≤ C.length → Gone fs C → (∀ f ∈ fs, 0 < f.at z0) →
    ∃ f : F, (∀ v ∈ C, 0 ≤ f.at v) ∧ (∀ z, (∀ g ∈ fs, 0 ≤ g.at z) → f.at z ≤ 0) ∧ f.at z0 < 0
  | _, C, tC, lC, .here (f := f) (fs := fs) h, hz => by
    refine ⟨f.opp, fun v hv => ?_, fun z hg => ?_, ?_⟩
    · rw [opp_at]; have := h v hv; grind
    · rw [opp_at]; have := hg f (by simp); grind
    · rw [opp_at]; have := hz f (by simp); grind
  | _, C, tC, lC, .whole (f := f) (fs := fs) _ g, hz => by
    obtain ⟨f', h1, h2, h3⟩ := separated tC lC g (fun f hf => hz f (by simp [hf]))
    exact ⟨f', h1, fun z hg => h2 z (fun g hg' => hg g (by simp [hg'])), h3⟩
  | _, C, tC, lC, .cut (f := g) (fs := fs) (P := P) (N := N) (x1 := x1) (x2 := x2) c gn, hz => by
    obtain ⟨f', h1, h2, h3⟩ := separated c.left c.lenL gn (fun f hf => hz f (by simp [hf]))
    -- the least of f' over g at the corners that stay
    have least : ∀ (P : List V), P ≠ [] → (∀ p ∈ P, 0 < g.at p) → ∃ w ∈ P, ∀ p ∈ P, f'.at w * g.at p ≤ f'.at p * g.at w := by
      intro P
      induction P with
      | nil => intro h; exact absurd rfl h
      | cons a P ih =>
        intro _ hp
        by_cases hP : P = []
        · subst hP
          exact ⟨a, by simp, by simp⟩
        · obtain ⟨w, hw, hm⟩ := ih hP (fun p hp' => hp p (by simp [hp']))
          by_cases hc : f'.at w * g.at a ≤ f'.at a * g.at w
          · refine ⟨w, by simp [hw], ?_⟩
            intro p hp'
            simp only [List.mem_cons] at hp'
            rcases hp' with rfl | hp'
            · exact hc
            · exact hm p hp'
          · refine ⟨a, by simp, ?_⟩
            intro p hp'
            simp only [List.mem_cons] at hp'
            rcases hp' with rfl | hp'
            · exact Rat.le_refl
            · have m1 := hm p hp'
              have ga := hp a (by simp)
              have gp := hp p (by simp [hp'])
              have gw := hp w (by simp [hw])
              -- a/ga < w/gw <= p/gp
              false_or_by_contra
              have k1 := Rat.mul_pos (show 0 < f'.at w * g.at a - f'.at a * g.at w by grind) gp
              have k2 := Rat.mul_nonneg (show 0 ≤ f'.at p * g.at w - f'.at w * g.at p by grind) (Rat.le_of_lt ga)
              have k3 := Rat.mul_pos (show 0 < f'.at a * g.at p - f'.at p * g.at a by grind) gw
              grind
    obtain ⟨w, hw, hm⟩ := least P c.hP c.pos
    have gw := c.pos w hw
    have fw := h1 w (by simp [hw])
    -- f' times g(w), less g times f'(w)
    let F1 : F := ⟨f'.p * g.at w - g.p * f'.at w, f'.q * g.at w - g.q * f'.at w, f'.r * g.at w - g.r * f'.at w⟩
    have eF : ∀ z, F1.at z = f'.at z * g.at w - g.at z * f'.at w := by
      intro z; simp only [F.at, F1]; grind
    have hx1 : 0 ≤ F1.at x1 := by
      rw [eF, c.z1]; have := Rat.mul_nonneg (h1 x1 (by simp)) (Rat.le_of_lt gw); grind
    have hx2 : 0 ≤ F1.at x2 := by
      rw [eF, c.z2]; have := Rat.mul_nonneg (h1 x2 (by simp)) (Rat.le_of_lt gw); grind
    refine ⟨F1, ?_, ?_, ?_⟩
    · intro v hv
      rcases c.mem v hv with h | h | rfl | rfl
      · rw [eF]; have := hm v h; grind
      · have q := quad F1 w x1 v x2
        have k1 : 0 < turn w x1 x2 := c.left.turn3 (show ([w] ++ [x1, x2]).Sublist _ from List.Sublist.append (List.singleton_sublist.2 hw) (List.Sublist.refl _))
        have k2 := c.mid1 w hw v h
        have k3 := c.mid2 w hw v h
        have k0 : F1.at w = 0 := by rw [eF]; grind
        have := Rat.mul_nonneg k3 hx1
        have := Rat.mul_nonneg k2 hx2
        rw [k0] at q
        false_or_by_contra
        have := Rat.mul_pos k1 (show 0 < - F1.at v by grind)
        grind
      · exact hx1
      · exact hx2
    · intro z hz'
      rw [eF]
      have a1 := h2 z (fun f hf => hz' f (by simp [hf]))
      have a2 := hz' g (by simp)
      have := Rat.mul_nonneg (show 0 ≤ - f'.at z by grind) (Rat.le_of_lt gw)
      have := Rat.mul_nonneg a2 fw
      grind
    · rw [eF]
      have a2 := hz g (by simp)
      have := Rat.mul_pos (show 0 < - f'.at z0 by grind) gw
      have := Rat.mul_nonneg (Rat.le_of_lt a2) fw
      grind
end Geo
end

section
set_option linter.all false
namespace Geo

/-! ### The corners of all that lies between some points -/
def Bef (a b : V) : Prop := a.x < b.x ∨ (a.x = b.x ∧ a.y < b.y)
instance (a b : V) : Decidable (Bef a b) := by unfold Bef; infer_instance
theorem Bef.trans {a b c : V} (h : Bef a b) (g : Bef b c) : Bef a c := by
  simp only [Bef] at *; grind
theorem Bef.irrefl {a : V} (h : Bef a a) : False := by simp only [Bef] at *; grind
theorem Bef.asymm {a b : V} (h : Bef a b) (g : Bef b a) : False := (h.trans g).irrefl
theorem Bef.total (a b : V) : Bef a b ∨ a = b ∨ Bef b a := by
  simp only [Bef]
  by_cases h1 : a.x < b.x
  · exact .inl (.inl h1)
  · by_cases h2 : b.x < a.x
    · exact .inr (.inr (.inl h2))
    · have e : a.x = b.x := by grind
      by_cases h3 : a.y < b.y
      · exact .inl (.inr ⟨e, h3⟩)
      · by_cases h4 : b.y < a.y
        · exact .inr (.inr (.inr ⟨e.symm, h4⟩))
        · exact .inr (.inl (by ext <;> grind))

/-- three ways, each to the right or straight up -/
theorem lex_trans {px py qx qy rx ry : Rat} (hp : 0 < px ∨ (px = 0 ∧ 0 < py)) (hq : 0 < qx ∨ (qx = 0 ∧ 0 < qy)) (hr : 0 < rx ∨ (rx = 0 ∧ 0 < ry))
    (h1 : 0 < px * qy - py * qx) (h2 : 0 < qx * ry - qy * rx) : 0 < px * ry - py * rx := by
  have key : qx * (px * ry - py * rx) = px * (qx * ry - qy * rx) + rx * (px * qy - py * qx) := by grind
  rcases hq with hq | ⟨hq, hq2⟩
  · rcases hp with hp | ⟨hp, hp2⟩
    · have a1 := Rat.mul_pos hp h2
      have a2 : 0 ≤ rx * (px * qy - py * qx) := Rat.mul_nonneg (by grind) (Rat.le_of_lt h1)
      false_or_by_contra
      have a3 := Rat.mul_nonneg (Rat.le_of_lt hq) (show 0 ≤ - (px * ry - py * rx) by grind)
      grind
    · subst hp
      have := Rat.mul_pos hp2 hq
      grind
  · subst hq
    rcases hr with hr | ⟨hr, hr2⟩
    · have := Rat.mul_pos hq2 hr
      grind
    · subst hr
      grind
theorem lex_trans' {px py qx qy rx ry : Rat} (hp : 0 < px ∨ (px = 0 ∧ 0 < py)) (hq : 0 < qx ∨ (qx = 0 ∧ 0 < qy)) (hr : 0 < rx ∨ (rx = 0 ∧ 0 < ry))
    (h1 : 0 ≤ px * qy - py * qx) (h2 : 0 ≤ qx * ry - qy * rx) : 0 ≤ px * ry - py * rx := by
  have key : qx * (px * ry - py * rx) = px * (qx * ry - qy * rx) + rx * (px * qy - py * qx) := by grind
  rcases hq with hq | ⟨hq, hq2⟩
  · have a1 : 0 ≤ px * (qx * ry - qy * rx) := Rat.mul_nonneg (by grind) h2
    have a2 : 0 ≤ rx * (px * qy - py * qx) := Rat.mul_nonneg (by grind) h1
    false_or_by_contra
    have a3 := Rat.mul_pos hq (show 0 < - (px * ry - py * rx) by grind)
    grind
  · subst hq
    rcases hr with hr | ⟨hr, hr2⟩
    · have := Rat.mul_pos hq2 hr
      grind
    · subst hr
      have : 0 ≤ px * ry := Rat.mul_nonneg (by grind) (Rat.le_of_lt hr2)
      grind
theorem Bef.way {a b : V} (h : Bef a b) : 0 < b.x - a.x ∨ (b.x - a.x = 0 ∧ 0 < b.y - a.y) := by
  simp only [Bef] at h; grind

/-- along a row that rises and turns left -/
theorem lex_turn {u v b a : V} (h1 : Bef u v) (h2 : Bef v b) (h3 : Bef b a) (k1 : 0 < turn u v b) (k2 : 0 < turn v b a) : 0 < turn u v a ∧ 0 < turn u b a := by
  have := lex_trans h1.way h2.way h3.way (by simp only [turn] at k1; grind) (by simp only [turn] at k2; grind)
  simp only [turn] at *
  constructor <;> grind

def pop (a : V) : List V → List V
  | b :: c :: r => if 0 < turn c b a then b :: c :: r else pop a (c :: r)
  | [b] => [b]
  | [] => []
def chain (l : List V) : List V := (l.foldl (fun s a => a :: pop a s) []).reverse

structure St (Z t : List V) : Prop where
  ne : t ≠ []
  srt : t.Pairwise (fun b c => Bef c b)
  t3 : T3 t.reverse
  sup : ∀ s ∈ path t, ∀ z ∈ Z, 0 ≤ turn s.2 s.1 z
  sub : ∀ v ∈ t, v ∈ Z
  first : ∀ z ∈ Z, ∀ m, t.getLast? = some m → z = m ∨ Bef m z

theorem St.tail {Z r : List V} {b c : V} (h : St Z (b :: c :: r)) : St Z (c :: r) where
  ne := by simp
  srt := (List.pairwise_cons.1 h.srt).2
  t3 := h.t3.sub (by simp)
  sup := fun s hs z hz => h.sup s (by simp [path, hs]) z hz
  sub := fun v hv => h.sub v (by simp [hv])
  first := fun z hz m hm => h.first z hz m (by rw [List.getLast?_cons_cons]; exact hm)

theorem pop_ok {Z : List V} {a : V} : ∀ {t : List V}, St Z t → (∀ v ∈ t, Bef v a) → (∀ z ∈ Z, ∀ b, t.head? = some b → Bef b z → 0 ≤ turn b a z) →
    St Z (pop a t) ∧ (∀ v ∈ pop a t, Bef v a) ∧ (∀ z ∈ Z, ∀ b, (pop a t).head? = some b → Bef b z → 0 ≤ turn b a z) ∧ (pop a t).getLast? = t.getLast? ∧
    ((∃ b, pop a t = [b]) ∨ ∃ b c r, pop a t = b :: c :: r ∧ 0 < turn c b a)
  | [], h, _, _ => absurd rfl h.ne
  | [b], h, hb, hz => by
    simp only [pop]
    exact ⟨h, hb, hz, trivial, .inl ⟨b, rfl⟩⟩
  | b :: c :: r, h, hb, hz => by
    by_cases k : 0 < turn c b a
    · simp only [pop, if_pos k]
      exact ⟨h, hb, hz, trivial, .inr ⟨b, c, r, rfl, k⟩⟩
    · simp only [pop, if_neg k]
      have hcb : Bef c b := by
        have := h.srt
        rw [List.pairwise_cons] at this
        exact this.1 c (by simp)
      obtain ⟨q1, q2, q3, q4, q5⟩ := pop_ok (a := a) h.tail (fun v hv => hb v (by simp [hv])) (by
        intro z hz' b' hb' hbef
        simp at hb'; subst hb'
        have s1 := h.sup (b, c) (by simp [path]) z hz'
        simp only at s1
        have hca : Bef c a := hb c (by simp)
        -- from c: to a, to b, to z
        have := lex_trans' hca.way hcb.way hbef.way (by simp only [turn] at k; grind) (by simp only [turn] at s1; grind)
        simp only [turn]; grind)
      exact ⟨q1, q2, q3, by rw [q4, List.getLast?_cons_cons], q5⟩

theorem St.push {Z t : List V} {a : V} (h : St Z t) (ha : ∀ v ∈ t, Bef v a) (hz : ∀ z ∈ Z, ∀ b, t.head? = some b → Bef b z → 0 ≤ turn b a z)
    (hZ : ∀ z ∈ Z, Bef z a) (k : (∃ b, t = [b]) ∨ ∃ b c r, t = b :: c :: r ∧ 0 < turn c b a) : St (a :: Z) (a :: t) := by
  -- all turn left on the way to a
  have left : ∀ u v, [v, u].Sublist t → 0 < turn u v a := by
    rcases k with ⟨b, rfl⟩ | ⟨b, c, r, rfl, k⟩
    · intro u v s
      have := s.length_le
      simp at this
    · have srt := h.srt
      have t3 := h.t3
      simp only [List.pairwise_cons, List.mem_cons] at srt
      obtain ⟨s1, s2, s3⟩ := srt
      have hba := ha b (by simp)
      have hcb := s1 c (.inl rfl)
      have g1 : ∀ u ∈ c :: r, 0 < turn u b a := by
        intro u hu
        simp only [List.mem_cons] at hu
        rcases hu with rfl | hu
        · exact k
        · have t1 : 0 < turn u c b := t3.turn3 (by
            have : [b, c, u].Sublist (b :: c :: r) := ((List.singleton_sublist.2 hu).cons_cons c).cons_cons b
            simpa using this.reverse)
          exact (lex_turn (s2 u hu) hcb hba t1 k).2
      intro u v s
      cases s with
      | cons _ s =>
        have hv : v ∈ c :: r := s.subset (by simp)
        have hu : u ∈ c :: r := s.subset (by simp)
        have t1 : 0 < turn u v b := t3.turn3 (by
          have : [b, v, u].Sublist (b :: c :: r) := s.cons_cons b
          simpa using this.reverse)
        have huv : Bef u v := by
          have := (List.pairwise_cons.1 h.srt).2.sublist s
          simp at this; exact this
        have hvb : Bef v b := s1 v (by simpa using hv)
        exact (lex_turn huv hvb hba t1 (g1 v hv)).1
      | cons_cons _ s =>
        exact g1 u (s.subset (by simp))
  refine ⟨by simp, ?_, ?_, ?_, ?_, ?_⟩
  · rw [List.pairwise_cons]; exact ⟨ha, h.srt⟩
  · rw [List.reverse_cons, T3_append]
    refine ⟨h.t3, by simp [T3], ?_, by simp⟩
    intro c hc
    simp at hc; subst hc
    rw [List.pairwise_reverse]
    rw [List.pairwise_iff_forall_sublist]
    intro v u s
    exact left u v s
  · intro s hs z hz'
    obtain ⟨b, r, rfl⟩ := ends h.ne
    simp only [path, List.mem_cons] at hs
    rcases hs with rfl | hs
    · simp only
      simp only [List.mem_cons] at hz'
      rcases hz' with rfl | hz'
      · rw [turn_abb]; exact Rat.le_refl
      · rcases Bef.total z b with hb | rfl | hb
        · rcases k with ⟨b', e⟩ | ⟨b', c, r', e, k⟩
          · simp at e
            obtain ⟨rfl, rfl⟩ := e
            rcases h.first z hz' b (by simp) with rfl | h2
            · exact (hb.irrefl).elim
            · exact (hb.asymm h2).elim
          · simp at e
            obtain ⟨rfl, rfl⟩ := e
            have s1 := h.sup (b, c) (by simp [path]) z hz'
            simp only at s1
            have hcb : Bef c b := by
              have := h.srt
              rw [List.pairwise_cons] at this
              exact this.1 c (by simp)
            have hba := ha b (by simp)
            have := lex_trans' hb.way hcb.way hba.way (by simp only [turn] at s1; grind) (by simp only [turn] at k; grind)
            simp only [turn]; grind
        · rw [turn_aba]; exact Rat.le_refl
        · exact hz z hz' b (by simp) hb
    · simp only [List.mem_cons] at hz'
      rcases hz' with rfl | hz'
      · obtain ⟨p, q⟩ := s
        obtain ⟨u, v, e⟩ := path_mem hs
        refine Rat.le_of_lt (left q p ?_)
        rw [e]; simp
      · exact h.sup s hs z hz'
  · intro v hv
    simp only [List.mem_cons] at hv ⊢
    rcases hv with rfl | hv
    · exact .inl rfl
    · exact .inr (h.sub v hv)
  · intro z hz' m hm
    obtain ⟨b, r, rfl⟩ := ends h.ne
    rw [List.getLast?_cons_cons] at hm
    simp only [List.mem_cons] at hz'
    rcases hz' with rfl | hz'
    · right
      exact ha m (List.mem_of_getLast? hm)
    · exact h.first z hz' m hm

/-- the lower chain of a row that rises -/
theorem chain_st : ∀ (l : List V) (Z t : List V), St Z t → (∀ z ∈ Z, ∀ b, t.head? = some b → z = b ∨ Bef z b) → (∀ z ∈ Z, ∀ a ∈ l, Bef z a) → l.Pairwise Bef →
    ∃ Z' t', l.foldl (fun s a => a :: pop a s) t = t' ∧ St Z' t' ∧ (∀ v, v ∈ Z' ↔ v ∈ Z ∨ v ∈ l) ∧ t'.getLast? = t.getLast? ∧ t'.head? = (if l = [] then t.head? else l.getLast?)
  | [], Z, t, h, _, _, _ => ⟨Z, t, rfl, h, by simp, rfl, by simp⟩
  | a :: l, Z, t, h, top, hl, hp => by
    rw [List.pairwise_cons] at hp
    have p := pop_ok (a := a) h (fun v hv => hl v (h.sub v hv) a (by simp)) (by
      intro z hz b hb hbef
      rcases top z hz b hb with rfl | h2
      · exact hbef.irrefl.elim
      · exact (hbef.asymm h2).elim)
    obtain ⟨q1, q2, q3, q4, q5⟩ := p
    have s1 := q1.push q2 q3 (fun z hz => hl z hz a (by simp)) q5
    obtain ⟨Z', t', e1, e2, e3, e4, e5⟩ := chain_st l (a :: Z) (a :: pop a t) s1 (by
        intro z hz b hb
        simp at hb; subst hb
        simp only [List.mem_cons] at hz
        rcases hz with rfl | hz
        · exact .inl rfl
        · exact .inr (hl z hz a (by simp))) (by
        intro z hz b hb
        simp only [List.mem_cons] at hz
        rcases hz with rfl | hz
        · exact hp.1 b hb
        · exact hl z hz b (by simp [hb])) hp.2
    refine ⟨Z', t', e1, e2, ?_, ?_, ?_⟩
    · intro v; rw [e3]; simp only [List.mem_cons]; grind
    · rw [e4]
      obtain ⟨b, r, e⟩ := ends q1.ne
      rw [← q4, e, List.getLast?_cons_cons]
    · rw [e5]
      cases l with
      | nil => simp
      | cons b l => simp

structure Lower (s L : List V) : Prop where
  srt : L.Pairwise Bef
  t3 : T3 L
  sup : ∀ e ∈ path L, ∀ z ∈ s, 0 ≤ turn e.1 e.2 z
  sub : ∀ v ∈ L, v ∈ s
  head : L.head? = s.head?
  last : L.getLast? = s.getLast?

theorem path_reverse {α : Type} (l : List α) : path l.reverse = (path l).reverse.map fun s => (s.2, s.1) := by
  induction l with
  | nil => rfl
  | cons a l ih =>
    cases l with
    | nil => rfl
    | cons b l =>
      rw [List.reverse_cons, List.reverse_cons]
      have : l.reverse ++ [b] ++ [a] = l.reverse ++ b :: [a] := by simp
      rw [this, path_app]
      rw [List.reverse_cons] at ih
      rw [ih]
      simp [path]

theorem chain_lower {s : List V} (hs : s.Pairwise Bef) (ne : s ≠ []) : Lower s (chain s) := by
  obtain ⟨a, l, rfl⟩ := ends ne
  rw [List.pairwise_cons] at hs
  have h0 : St [a] [a] := ⟨by simp, by simp, by simp [T3], by simp [path], by simp, by simp⟩
  obtain ⟨Z', t', e1, e2, e3, e4, e5⟩ := chain_st l [a] [a] h0 (by simp) (by simpa using hs.1) hs.2
  have ec : chain (a :: l) = t'.reverse := by
    rw [chain, List.foldl_cons]
    show (l.foldl _ (a :: pop a [])).reverse = _
    rw [show pop a [] = [] from rfl, e1]
  rw [ec]
  have hm : ∀ v, v ∈ Z' ↔ v ∈ a :: l := by intro v; rw [e3]; simp
  refine ⟨?_, e2.t3, ?_, ?_, ?_, ?_⟩
  · rw [List.pairwise_reverse]; exact e2.srt
  · intro e he z hz
    rw [path_reverse] at he
    simp only [List.mem_map, List.mem_reverse] at he
    obtain ⟨x, hx, rfl⟩ := he
    exact e2.sup x hx z ((hm z).2 hz)
  · intro v hv
    exact (hm v).1 (e2.sub v (by simpa using hv))
  · rw [List.head?_reverse, e4]; simp
  · rw [List.getLast?_reverse, e5]
    cases l with
    | nil => simp
    | cons b l => simp

def vneg (a : V) : V := ⟨-a.x, -a.y⟩
theorem turn_neg (a b c : V) : turn (vneg a) (vneg b) (vneg c) = turn a b c := by simp only [turn, vneg]; grind
theorem vneg_vneg (a : V) : vneg (vneg a) = a := by simp [vneg]
theorem Bef.neg {a b : V} (h : Bef a b) : Bef (vneg b) (vneg a) := by simp only [Bef, vneg] at *; grind
theorem T3.neg {l : List V} (h : T3 l) : T3 (l.map vneg) := by
  induction l with
  | nil => trivial
  | cons a l ih =>
    refine ⟨?_, ih h.2⟩
    rw [List.pairwise_map]
    exact h.1.imp fun {b c} k => by rw [turn_neg]; exact k
theorem pop_neg (a : V) : ∀ t : List V, pop (vneg a) (t.map vneg) = (pop a t).map vneg
  | [] => rfl
  | [b] => rfl
  | b :: c :: r => by
    simp only [List.map_cons, pop]
    rw [turn_neg]
    split
    · simp
    · exact pop_neg a (c :: r)
theorem chain_neg (l : List V) : chain (l.map vneg) = (chain l).map vneg := by
  have : ∀ (l t : List V), (l.map vneg).foldl (fun s a => a :: pop a s) (t.map vneg) = (l.foldl (fun s a => a :: pop a s) t).map vneg := by
    intro l
    induction l with
    | nil => intro t; rfl
    | cons a l ih =>
      intro t
      simp only [List.map_cons, List.foldl_cons]
      rw [pop_neg, ← List.map_cons, ih]
  have h := this l []
  simp only [List.map_nil] at h
  rw [chain, chain, h, List.map_reverse]

/-- the upper chain: it falls -/
structure Upper (s U : List V) : Prop where
  srt : U.Pairwise (fun a b => Bef b a)
  t3 : T3 U
  sup : ∀ e ∈ path U, ∀ z ∈ s, 0 ≤ turn e.1 e.2 z
  sub : ∀ v ∈ U, v ∈ s
  head : U.head? = s.getLast?
  last : U.getLast? = s.head?
theorem path_map {α β : Type} (f : α → β) (l : List α) : path (l.map f) = (path l).map fun s => (f s.1, f s.2) := by
  induction l with
  | nil => rfl
  | cons a l ih =>
    cases l with
    | nil => rfl
    | cons b l => simp only [List.map_cons, path] at ih ⊢; rw [ih]
theorem map_vneg (l : List V) : (l.map vneg).map vneg = l := by
  rw [List.map_map]
  have : vneg ∘ vneg = id := by funext a; exact vneg_vneg a
  rw [this]; simp
theorem chain_upper {s : List V} (hs : s.Pairwise Bef) (ne : s ≠ []) : Upper s (chain s.reverse) := by
  have hr : (s.reverse.map vneg).Pairwise Bef := by
    rw [List.pairwise_map, List.pairwise_reverse]
    exact hs.imp fun h => h.neg
  have h := chain_lower hr (by simpa using ne)
  rw [chain_neg] at h
  have e : chain s.reverse = ((chain s.reverse).map vneg).map vneg := (map_vneg _).symm
  generalize (chain s.reverse).map vneg = M at h e
  rw [e]
  refine ⟨?_, h.t3.neg, ?_, ?_, ?_, ?_⟩
  · rw [List.pairwise_map]; exact h.srt.imp fun h => h.neg
  · intro x hx z hz
    rw [path_map] at hx
    obtain ⟨y, hy, rfl⟩ := List.mem_map.1 hx
    have := h.sup y hy (vneg z) (List.mem_map.2 ⟨z, by simpa using hz, rfl⟩)
    have e2 := turn_neg (vneg y.1) (vneg y.2) z
    simp only [vneg_vneg] at e2
    rw [← turn_neg, vneg_vneg, vneg_vneg]
    exact this
  · intro v hv
    obtain ⟨w, hw, rfl⟩ := List.mem_map.1 hv
    have := h.sub w hw
    obtain ⟨u, hu, rfl⟩ := List.mem_map.1 this
    rw [vneg_vneg]; simpa using hu
  · rw [List.head?_map, h.head, ← List.head?_map, map_vneg]; simp
  · rw [List.getLast?_map, h.last, ← List.getLast?_map, map_vneg]; simp

def hullOf (s : List V) : List V := (chain s).dropLast ++ (chain s.reverse).dropLast

/-- no three corners that bend as z does in the other chain lie so that z is on a side -/
theorem bend_strict {a b z zm zp : V} (hab : Bef a b) (h1 : Bef zp z) (h2 : Bef z zm) (k : 0 < turn zm z zp)
    (s0 : 0 ≤ turn a b z) (s1 : 0 ≤ turn a b zm) (s2 : 0 ≤ turn a b zp) : 0 < turn a b z := by
  false_or_by_contra
  have e : turn a b z = 0 := by grind
  have := lex_trans' h1.way hab.way h2.way (by simp only [turn] at *; grind) (by simp only [turn] at *; grind)
  simp only [turn] at *
  grind

theorem neighbours {α : Type} {a b : α} {l : List α} {z : α} (h : z ∈ l) : ∃ u p n w, a :: l ++ [b] = u ++ p :: z :: n :: w := by
  obtain ⟨u, w, rfl⟩ := List.append_of_mem h
  obtain ⟨u', p, e⟩ := ends' (show a :: u ≠ [] by simp)
  obtain ⟨n, w', e2⟩ := ends (show w ++ [b] ≠ [] by simp)
  refine ⟨u', p, n, w', ?_⟩
  have : a :: (u ++ z :: w) ++ [b] = (a :: u) ++ z :: (w ++ [b]) := by simp
  rw [this, e, e2]; simp

/-- a row in which all others lie on the left of each side -/
theorem conv_pairwise {a b : V} : ∀ {m : List V}, (∀ v ∈ m, 0 < turn a b v) → (∀ s ∈ path m, 0 < turn a s.1 s.2) → m.Pairwise (fun c d => 0 < turn a c d)
  | [], _, _ => List.Pairwise.nil
  | [c], _, _ => by simp
  | c :: d :: r, h1, h2 => by
    have ih := conv_pairwise (m := d :: r) (fun v hv => h1 v (by simp [hv])) (fun s hs => h2 s (by simp [path, hs]))
    rw [List.pairwise_cons]
    refine ⟨?_, ih⟩
    intro v hv
    have k := h2 (c, d) (by simp [path])
    simp only at k
    simp only [List.mem_cons] at hv
    rcases hv with rfl | hv
    · exact k
    · have k2 : 0 < turn a d v := (List.pairwise_cons.1 ih).1 v hv
      have kc := h1 c (by simp)
      have kd := h1 d (by simp)
      have kv := h1 v (by simp [hv])
      have q : turn a b d * turn a c v = turn a b c * turn a d v + turn a b v * turn a c d := by
        simp only [turn]; grind
      have := Rat.mul_pos kc k2
      have := Rat.mul_pos kv k
      false_or_by_contra
      have := Rat.mul_nonneg (Rat.le_of_lt kd) (show 0 ≤ - turn a c v by grind)
      grind
theorem conv_T3 {l : List V} (h : ∀ a b r, Rot l (a :: b :: r) → ∀ v ∈ r, 0 < turn a b v) : T3 l := by
  have key : ∀ a m, Rot l (a :: m) → m.Pairwise (fun c d => 0 < turn a c d) := by
    intro a m hr
    cases m with
    | nil => exact List.Pairwise.nil
    | cons b m =>
      have h1 := h a b m hr
      have hcon : ∀ s ∈ path (b :: m), 0 < turn a s.1 s.2 := by
        intro s hs
        obtain ⟨c, d⟩ := s
        obtain ⟨u, w, e⟩ := path_mem hs
        have r2 : Rot l (c :: d :: (w ++ a :: u)) := hr.trans ⟨a :: u, c :: d :: w, by rw [e]; simp, by simp⟩
        have := h c d _ r2 a (by simp)
        rw [turn_cyc]; exact this
      rw [List.pairwise_cons]
      refine ⟨fun v hv => h1 v hv, ?_⟩
      cases m with
      | nil => exact List.Pairwise.nil
      | cons c m => exact conv_pairwise h1 (fun s hs => hcon s (by simp [path, hs]))
  have suf : ∀ u m, l = u ++ m → T3 m := by
    intro u m
    induction m generalizing u with
    | nil => intro _; trivial
    | cons a m ih =>
      intro e
      refine ⟨?_, ih (u ++ [a]) (by simp [e])⟩
      have := key a (m ++ u) ⟨u, a :: m, e, by simp⟩
      exact (List.pairwise_append.1 this).1
  exact suf [] l rfl

theorem collinear {m M a b c : V} (hne : m ≠ M) (ha : turn m M a = 0) (hb : turn m M b = 0) (hc : turn m M c = 0) : turn a b c = 0 := by
  have hx : M.x - m.x ≠ 0 ∨ M.y - m.y ≠ 0 := by
    false_or_by_contra
    apply hne
    ext <;> grind
  have e1 : (M.x - m.x) * turn a b c = (b.x - a.x) * (turn m M c - turn m M a) - (c.x - a.x) * (turn m M b - turn m M a) := by
    simp only [turn]; grind
  have e2 : (M.y - m.y) * turn a b c = (b.y - a.y) * (turn m M c - turn m M a) - (c.y - a.y) * (turn m M b - turn m M a) := by
    simp only [turn]; grind
  rw [ha, hb, hc] at e1 e2
  rcases hx with hx | hx
  · have : (M.x - m.x) * turn a b c = 0 := by rw [e1]; grind
    rw [Rat.mul_eq_zero] at this
    exact this.resolve_left hx
  · have : (M.y - m.y) * turn a b c = 0 := by rw [e2]; grind
    rw [Rat.mul_eq_zero] at this
    exact this.resolve_left hx

theorem two_ends {α : Type} {l : List α} {a b : α} (ha : l.head? = some a) (hb : l.getLast? = some b) (hne : a ≠ b) : ∃ r, l = a :: r ++ [b] := by
  cases l with
  | nil => simp at ha
  | cons x l =>
    simp at ha; subst ha
    rcases List.eq_nil_or_concat l with rfl | ⟨r, y, rfl⟩
    · simp at hb; exact absurd hb hne
    · refine ⟨r, ?_⟩
      have : (x :: (r ++ [y])).getLast? = some y := by
        show ((x :: r) ++ [y]).getLast? = some y
        exact List.getLast?_concat
      simp only [List.concat_eq_append] at hb
      rw [this] at hb
      simp at hb; subst hb; simp

theorem hull_ok {s : List V} (hs : s.Pairwise Bef) (hn : ∃ a b c, a ∈ s ∧ b ∈ s ∧ c ∈ s ∧ turn a b c ≠ 0) :
    T3 (hullOf s) ∧ 3 ≤ (hullOf s).length ∧ (∀ v ∈ hullOf s, v ∈ s) ∧ (∀ z ∈ s, Inside (hullOf s) z) := by
  obtain ⟨p, q, r, hp, hq, hr, htn⟩ := hn
  have ne : s ≠ [] := by rintro rfl; simp at hp
  have lo := chain_lower hs ne
  have up := chain_upper hs ne
  obtain ⟨m, s1, es⟩ := ends ne
  obtain ⟨s2, M, es2⟩ := ends' ne
  have hm : s.head? = some m := by rw [es]; rfl
  have hM : s.getLast? = some M := by rw [es2]; exact List.getLast?_concat
  -- the first and the last differ
  have mM : m ≠ M := by
    rintro rfl
    obtain ⟨r1, e⟩ | e : (∃ r1, s = m :: r1 ++ [m]) ∨ s = [m] := by
      rw [es] at es2
      rcases List.eq_nil_or_concat s1 with rfl | ⟨r1, y, rfl⟩
      · exact .inr es
      · have : (m :: r1) ++ [y] = s2 ++ [m] := by simpa using es2
        obtain ⟨_, e3⟩ := List.append_inj' this rfl
        simp at e3; subst e3
        exact .inl ⟨r1, by rw [es]; simp⟩
    · rw [e] at hs
      have := (List.pairwise_append.1 hs).2.2 m (by simp) m (by simp)
      exact this.irrefl
    · rw [e] at hp hq hr
      simp at hp hq hr
      subst hp hq hr
      exact htn (turn_aab _ _)
  obtain ⟨ls, eL⟩ := two_ends (lo.head.trans hm) (lo.last.trans hM) mM
  obtain ⟨us, eU⟩ := two_ends (up.head.trans hM) (up.last.trans hm) (Ne.symm mM)
  have eH : hullOf s = m :: ls ++ M :: us := by
    rw [hullOf, eL, eU, List.dropLast_concat, List.dropLast_concat]
  have hcyc : cyc (hullOf s) = path (chain s) ++ path (chain s.reverse) := by
    rw [eH, cyc_app, eL, eU]
  have hin : ∀ z ∈ s, Inside (hullOf s) z := by
    intro z hz e he
    rw [hcyc, List.mem_append] at he
    rcases he with he | he
    · exact lo.sup e he z hz
    · exact up.sup e he z hz
  have hsub : ∀ v ∈ hullOf s, v ∈ s := by
    intro v hv
    rw [eH] at hv
    simp only [List.cons_append, List.mem_cons, List.mem_append] at hv
    rcases hv with rfl | hv | rfl | hv
    · exact lo.sub _ (by rw [eL]; simp)
    · exact lo.sub _ (by rw [eL]; simp [hv])
    · exact up.sub _ (by rw [eU]; simp)
    · exact up.sub _ (by rw [eU]; simp [hv])
  -- sides of the lower chain, corners of the upper one
  have strictL : ∀ a b, (a, b) ∈ path (chain s) → ∀ z ∈ us, 0 < turn a b z := by
    intro a b hab z hz
    obtain ⟨u, zm, zp, w, e⟩ := neighbours (a := M) (b := m) hz
    have tU := up.t3
    have sU := up.srt
    have subU := up.sub
    rw [eU, e] at tU sU subU
    have k : 0 < turn zm z zp := tU.turn3 (by
      refine List.Sublist.trans ?_ (List.sublist_append_right _ _)
      simp)
    have hbb : Bef a b := by
      obtain ⟨u, v, e⟩ := path_mem hab
      have := lo.srt
      rw [e] at this
      have := (List.pairwise_append.1 this).2.1
      exact (List.pairwise_cons.1 this).1 b (by simp)
    have s3 := (List.pairwise_append.1 sU).2.1
    rw [List.pairwise_cons, List.pairwise_cons] at s3
    exact bend_strict hbb (s3.2.1 zp (by simp)) (s3.1 z (by simp)) k (lo.sup _ hab z (subU z (by simp))) (lo.sup _ hab zm (subU zm (by simp))) (lo.sup _ hab zp (subU zp (by simp)))
  have strictU : ∀ a b, (a, b) ∈ path (chain s.reverse) → ∀ z ∈ ls, 0 < turn a b z := by
    intro a b hab z hz
    obtain ⟨u, zm, zp, w, e⟩ := neighbours (a := m) (b := M) hz
    have tU := lo.t3
    have sU := lo.srt
    have subU := lo.sub
    rw [eL, e] at tU sU subU
    have k : 0 < turn zm z zp := tU.turn3 (by
      refine List.Sublist.trans ?_ (List.sublist_append_right _ _)
      simp)
    have hbb : Bef b a := by
      obtain ⟨u, v, e⟩ := path_mem hab
      have := up.srt
      rw [e] at this
      have := (List.pairwise_append.1 this).2.1
      exact (List.pairwise_cons.1 this).1 b (by simp)
    have s3 := (List.pairwise_append.1 sU).2.1
    rw [List.pairwise_cons, List.pairwise_cons] at s3
    have g := bend_strict (a := vneg a) (b := vneg b) (z := vneg z) (zm := vneg zm) (zp := vneg zp) hbb.neg (s3.2.1 zp (by simp)).neg (s3.1 z (by simp)).neg (by rw [turn_neg]; exact k)
      (by rw [turn_neg]; exact up.sup _ hab z (subU z (by simp))) (by rw [turn_neg]; exact up.sup _ hab zm (subU zm (by simp))) (by rw [turn_neg]; exact up.sup _ hab zp (subU zp (by simp)))
    rw [turn_neg] at g; exact g
  have edgeL : ∀ a b, (a, b) ∈ path (chain s) → ∀ v ∈ chain s, v ≠ a → v ≠ b → 0 < turn a b v := by
    intro a b hab v hv na nb
    obtain ⟨u, w, e⟩ := path_mem hab
    have t := lo.t3
    rw [e] at t hv
    simp only [List.mem_append, List.mem_cons] at hv
    rcases hv with hv | rfl | rfl | hv
    · rw [← turn_cyc]
      exact t.turn3 (show ([v] ++ [a, b]).Sublist _ from List.Sublist.append (List.singleton_sublist.2 hv) (by simp))
    · exact absurd rfl na
    · exact absurd rfl nb
    · exact t.turn3 (List.Sublist.trans (((List.singleton_sublist.2 hv).cons_cons b).cons_cons a) (List.sublist_append_right _ _))
  have edgeU : ∀ a b, (a, b) ∈ path (chain s.reverse) → ∀ v ∈ chain s.reverse, v ≠ a → v ≠ b → 0 < turn a b v := by
    intro a b hab v hv na nb
    obtain ⟨u, w, e⟩ := path_mem hab
    have t := up.t3
    rw [e] at t hv
    simp only [List.mem_append, List.mem_cons] at hv
    rcases hv with hv | rfl | rfl | hv
    · rw [← turn_cyc]
      exact t.turn3 (show ([v] ++ [a, b]).Sublist _ from List.Sublist.append (List.singleton_sublist.2 hv) (by simp))
    · exact absurd rfl na
    · exact absurd rfl nb
    · exact t.turn3 (List.Sublist.trans (((List.singleton_sublist.2 hv).cons_cons b).cons_cons a) (List.sublist_append_right _ _))
  have nd : (hullOf s).Nodup := by
    rw [eH]
    have n1 : (m :: ls ++ [M]).Nodup := by rw [← eL]; exact lo.srt.imp fun {a b} h e => (e ▸ h).irrefl
    have n2 : (M :: us ++ [m]).Nodup := by rw [← eU]; exact up.srt.imp fun {a b} h e => (e ▸ h).irrefl
    have n1' := List.nodup_append.1 n1
    have n2' := List.nodup_append.1 n2
    rw [List.nodup_append]
    refine ⟨n1'.1, n2'.1, ?_⟩
    intro a ha b hb e
    subst e
    simp only [List.mem_cons] at ha hb
    rcases ha with rfl | ha
    · rcases hb with e | hb
      · exact mM e
      · exact n2'.2.2 a (by simp [hb]) a (by simp) rfl
    · rcases hb with rfl | hb
      · exact n1'.2.2 a (by simp [ha]) a (by simp) rfl
      · obtain ⟨u, p', n, w, e⟩ := neighbours (a := m) (b := M) ha
        have hab : (p', a) ∈ path (chain s) := by rw [eL, e]; exact mem_path _ _ _ _
        have := strictL p' a hab a hb
        rw [turn_abb] at this
        exact Rat.lt_irrefl this
  refine ⟨?_, ?_, hsub, hin⟩
  · apply conv_T3
    intro a b r0 hrot v hv
    have hab := mem_cyc hrot
    have nd2 : (a :: b :: r0).Nodup := hrot.perm.nodup_iff.1 nd
    rw [List.nodup_cons, List.nodup_cons] at nd2
    have na : v ≠ a := by rintro rfl; exact nd2.1 (by simp [hv])
    have nb : v ≠ b := by rintro rfl; exact nd2.2.1 hv
    have hvh : v ∈ hullOf s := hrot.mem.2 (by simp [hv])
    rw [hcyc, List.mem_append] at hab
    rw [eH] at hvh
    simp only [List.cons_append, List.mem_cons, List.mem_append] at hvh
    rcases hab with hab | hab
    · rcases hvh with rfl | h | rfl | h
      · exact edgeL a b hab _ (by rw [eL]; simp) na nb
      · exact edgeL a b hab _ (by rw [eL]; simp [h]) na nb
      · exact edgeL a b hab _ (by rw [eL]; simp) na nb
      · exact strictL a b hab v h
    · rcases hvh with rfl | h | rfl | h
      · exact edgeU a b hab _ (by rw [eU]; simp) na nb
      · exact strictU a b hab v h
      · exact edgeU a b hab _ (by rw [eU]; simp) na nb
      · exact edgeU a b hab _ (by rw [eU]; simp [h]) na nb
  · rw [eH]
    simp only [List.cons_append, List.length_cons, List.length_append]
    false_or_by_contra
    have hls : ls = [] := by cases ls with
      | nil => rfl
      | cons _ _ => simp at *; omega
    have hus : us = [] := by cases us with
      | nil => rfl
      | cons _ _ => simp at *; omega
    subst hls hus
    have all0 : ∀ z ∈ s, turn m M z = 0 := by
      intro z hz
      have a1 := lo.sup (m, M) (by rw [eL]; simp [path]) z hz
      have a2 := up.sup (M, m) (by rw [eU]; simp [path]) z hz
      simp only at a1 a2
      rw [turn_swap] at a2
      grind
    exact htn (collinear mM (all0 p hp) (all0 q hq) (all0 r hr))
end Geo
end

section
set_option linter.all false
namespace Geo

/-! ### Points once, rising -/
def ins (a : V) : List V → List V
  | [] => [a]
  | b :: l => if Bef a b then a :: b :: l else if a = b then b :: l else b :: ins a l
theorem ins_mem {a v : V} : ∀ {l : List V}, v ∈ ins a l ↔ v = a ∨ v ∈ l
  | [] => by simp [ins]
  | b :: l => by
    simp only [ins]
    split
    · simp
    · split
      · rename_i h; subst h; simp
      · simp only [List.mem_cons, ins_mem (l := l)]; grind
theorem ins_sorted {a : V} : ∀ {l : List V}, l.Pairwise Bef → (ins a l).Pairwise Bef
  | [], _ => by simp [ins]
  | b :: l, h => by
    simp only [ins]
    rw [List.pairwise_cons] at h
    split
    · rename_i hab
      rw [List.pairwise_cons, List.pairwise_cons]
      refine ⟨?_, h⟩
      intro v hv
      simp only [List.mem_cons] at hv
      rcases hv with rfl | hv
      · exact hab
      · exact hab.trans (h.1 v hv)
    · split
      · rw [List.pairwise_cons]; exact h
      · rename_i h1 h2
        rw [List.pairwise_cons]
        refine ⟨?_, ins_sorted h.2⟩
        intro v hv
        rw [ins_mem] at hv
        rcases hv with rfl | hv
        · rcases Bef.total v b with h3 | h3 | h3
          · exact absurd h3 h1
          · exact absurd h3 h2
          · exact h3
        · exact h.1 v hv
def sortV (l : List V) : List V := l.foldr ins []
theorem sortV_mem {v : V} {l : List V} : v ∈ sortV l ↔ v ∈ l := by
  induction l with
  | nil => simp [sortV]
  | cons a l ih =>
    show v ∈ ins a (sortV l) ↔ _
    rw [ins_mem, ih]; simp
theorem sortV_sorted (l : List V) : (sortV l).Pairwise Bef := by
  induction l with
  | nil => simp [sortV]
  | cons a l ih => exact ins_sorted ih
def hull (l : List V) : List V := hullOf (sortV l)
theorem hull_row {l p : List V} (hp : T3 p) (lp : 3 ≤ p.length) (hs : ∀ v ∈ p, v ∈ l) :
    T3 (hull l) ∧ 3 ≤ (hull l).length ∧ (∀ v ∈ hull l, v ∈ l) ∧ (∀ z ∈ l, Inside (hull l) z) := by
  have h := hull_ok (sortV_sorted l) (by
    match p, lp with
    | a :: b :: c :: r, _ =>
      have := hp.turn3 (a := a) (b := b) (c := c) (by simp)
      exact ⟨a, b, c, sortV_mem.2 (hs a (by simp)), sortV_mem.2 (hs b (by simp)), sortV_mem.2 (hs c (by simp)), by grind⟩)
  exact ⟨h.1, h.2.1, fun v hv => sortV_mem.1 (h.2.2.1 v hv), fun z hz => h.2.2.2 z (sortV_mem.2 hz)⟩

/-! ### Two convex rows with a side in common, one on each side of it -/
theorem side_order {P N : List V} {pl nf x1 x2 : V} {A B : List V} (tP : T3 (P ++ [x1, x2])) (tN : T3 (N ++ [x2, x1]))
    (hP : P = A ++ [pl]) (hN : N = nf :: B) (t1 : 0 ≤ turn pl x1 nf) :
    ∀ p ∈ P, ∀ n ∈ N, 0 ≤ turn p x1 n ∧ (0 < turn p x1 n ∨ (p = pl ∧ n = nf ∧ turn pl x1 nf = 0)) := by
  intro p hp n hn
  have e1 : ∀ p ∈ P, 0 < turn x1 x2 p := fun p hp => by
    rw [← turn_cyc]
    exact tP.turn3 (show ([p] ++ [x1, x2]).Sublist _ from List.Sublist.append (List.singleton_sublist.2 hp) (by simp))
  have e2 : ∀ n ∈ N, 0 < turn x1 n x2 := fun n hn => by
    rw [turn_cyc]
    exact tN.turn3 (show ([n] ++ [x2, x1]).Sublist _ from List.Sublist.append (List.singleton_sublist.2 hn) (by simp))
  have c1 : p = pl ∨ 0 < turn x1 p pl := by
    rw [hP] at hp
    simp only [List.mem_append, List.mem_cons, List.not_mem_nil, or_false] at hp
    rcases hp with hp | rfl
    · right
      rw [turn_cyc]
      refine tP.turn3 (show ([p, pl] ++ [x1]).Sublist _ from List.Sublist.append ?_ (by simp))
      rw [hP]
      exact List.Sublist.append (List.singleton_sublist.2 hp) (by simp)
    · exact .inl rfl
  have c2 : n = nf ∨ 0 < turn x1 nf n := by
    rw [hN] at hn
    simp only [List.mem_cons] at hn
    rcases hn with rfl | hn
    · exact .inl rfl
    · right
      rw [turn_cyc]
      refine tN.turn3 (show ([nf, n] ++ [x1]).Sublist _ from List.Sublist.append ?_ (by simp))
      rw [hN]
      exact (List.singleton_sublist.2 hn).cons_cons _
  have hpl : pl ∈ P := by rw [hP]; simp
  have hnf : nf ∈ N := by rw [hN]; simp
  have a1 := e1 p hp
  have a2 := e1 pl hpl
  have a3 := e2 n hn
  have a4 := e2 nf hnf
  have t1' : 0 ≤ turn x1 nf pl := by rw [← turn_cyc]; exact t1
  -- n against pl
  have q1 : turn x1 nf x2 * turn x1 n pl = turn x1 nf n * turn x1 x2 pl + turn x1 nf pl * turn x1 n x2 := by
    simp only [turn]; grind
  have q2 : turn x1 x2 pl * turn x1 n p = turn x1 n pl * turn x1 x2 p + turn x1 n x2 * turn x1 p pl := by
    simp only [turn]; grind
  have et : turn p x1 n = turn x1 n p := turn_cyc _ _ _
  rw [et]
  have et1 : turn pl x1 nf = turn x1 nf pl := turn_cyc _ _ _
  have s1 : 0 ≤ turn x1 n pl ∧ (0 < turn x1 n pl ∨ (n = nf ∧ turn pl x1 nf = 0)) := by
    rcases c2 with rfl | c2
    · refine ⟨t1', ?_⟩
      by_cases h : 0 < turn x1 n pl
      · exact .inl h
      · exact .inr ⟨rfl, by grind⟩
    · have := Rat.mul_pos c2 a2
      have := Rat.mul_nonneg t1' (Rat.le_of_lt a3)
      have : 0 < turn x1 n pl := by
        false_or_by_contra
        have := Rat.mul_nonneg (Rat.le_of_lt a4) (show 0 ≤ - turn x1 n pl by grind)
        grind
      exact ⟨Rat.le_of_lt this, .inl this⟩
  rcases c1 with rfl | c1
  · exact ⟨s1.1, s1.2.imp id fun h => ⟨rfl, h⟩⟩
  · have k1 := Rat.mul_nonneg s1.1 (Rat.le_of_lt a1)
    have k2 := Rat.mul_pos a3 c1
    have : 0 < turn x1 n p := by
      false_or_by_contra
      have := Rat.mul_nonneg (Rat.le_of_lt a2) (show 0 ≤ - turn x1 n p by grind)
      grind
    exact ⟨Rat.le_of_lt this, .inl this⟩

def keep (t : Rat) (x : V) : List V := if t = 0 then [] else [x]

structure Glue (P N : List V) (pf pl nf nl x1 x2 : V) : Prop where
  tP : T3 (P ++ [x1, x2])
  tN : T3 (N ++ [x2, x1])
  hP1 : ∃ A, P = A ++ [pl]
  hP2 : ∃ A, P = pf :: A
  hN1 : ∃ B, N = B ++ [nl]
  hN2 : ∃ B, N = nf :: B
  t1 : 0 ≤ turn pl x1 nf
  t2 : 0 ≤ turn nl x2 pf

theorem Glue.symm {P N : List V} {pf pl nf nl x1 x2 : V} (g : Glue P N pf pl nf nl x1 x2) : Glue N P nf nl pf pl x2 x1 :=
  ⟨g.tN, g.tP, g.hN1, g.hN2, g.hP1, g.hP2, g.t2, g.t1⟩

def glueRow (P N : List V) (pf pl nf nl x1 x2 : V) : List V := P ++ (keep (turn pl x1 nf) x1 ++ (N ++ keep (turn nl x2 pf) x2))

theorem Glue.mixed {P N : List V} {pf pl nf nl x1 x2 : V} (g : Glue P N pf pl nf nl x1 x2) {p p' n : V} (hs : [p, p'].Sublist P) (hn : n ∈ N) : 0 < turn p p' n := by
  obtain ⟨A, hA⟩ := g.hP1
  obtain ⟨A', hA'⟩ := g.hP2
  obtain ⟨B, hB⟩ := g.hN1
  obtain ⟨B', hB'⟩ := g.hN2
  have hp : p ∈ P := hs.subset (by simp)
  have o1 := (side_order g.tP g.tN hA hB' g.t1 p hp n hn).1
  have o2 := (side_order g.tN g.tP hB hA' g.t2 n hn p hp).1
  have o2' : 0 ≤ turn p n x2 := by rw [turn_cyc]; exact o2
  have f1 : 0 < turn p p' x1 := g.tP.turn3 (show ([p, p'] ++ [x1]).Sublist _ from List.Sublist.append hs (by simp))
  have f2 : 0 < turn p p' x2 := g.tP.turn3 (show ([p, p'] ++ [x2]).Sublist _ from List.Sublist.append hs (by simp))
  have k1 : 0 < turn p x1 x2 := g.tP.turn3 (show ([p] ++ [x1, x2]).Sublist _ from List.Sublist.append (List.singleton_sublist.2 hp) (by simp))
  have k2 : 0 < turn x1 n x2 := by
    rw [turn_cyc]
    exact g.tN.turn3 (show ([n] ++ [x2, x1]).Sublist _ from List.Sublist.append (List.singleton_sublist.2 hn) (by simp))
  have q := quad (line p p') p x1 n x2
  simp only [line_at, turn_aba] at q
  have qs := quad_sum p x1 n x2
  have m1 := Rat.mul_nonneg o2' (Rat.le_of_lt f1)
  have m2 := Rat.mul_nonneg o1 (Rat.le_of_lt f2)
  have : 0 < turn p n x2 * turn p p' x1 + turn p x1 n * turn p p' x2 := by
    by_cases h : 0 < turn p n x2
    · have := Rat.mul_pos h f1; grind
    · have := Rat.mul_pos (show 0 < turn p x1 n by grind) f2; grind
  false_or_by_contra
  have := Rat.mul_nonneg (Rat.le_of_lt k1) (show 0 ≤ - turn p p' n by grind)
  grind

theorem T3.pair {l m : List V} (h : T3 (l ++ m)) {c : V} (hc : c ∈ m) : l.Pairwise (fun a b => 0 < turn a b c) := (T3_append.1 h).2.2.1 c hc
theorem T3.pair' {l m : List V} (h : T3 (l ++ m)) {a : V} (ha : a ∈ l) : m.Pairwise (fun b c => 0 < turn a b c) := (T3_append.1 h).2.2.2 a ha

theorem keep_sub (t : Rat) (x : V) : (keep t x).Sublist [x] := by
  unfold keep; split <;> simp
theorem keep_mem {t : Rat} {x v : V} (h : v ∈ keep t x) : v = x ∧ t ≠ 0 := by
  unfold keep at h; split at h <;> simp_all

theorem Glue.t3 {P N : List V} {pf pl nf nl x1 x2 : V} (g : Glue P N pf pl nf nl x1 x2) : T3 (glueRow P N pf pl nf nl x1 x2) := by
  obtain ⟨A, hA⟩ := g.hP1
  obtain ⟨A', hA'⟩ := g.hP2
  obtain ⟨B, hB⟩ := g.hN1
  obtain ⟨B', hB'⟩ := g.hN2
  -- P and what's kept of x1; what's kept of x2 and so on
  have strict1 : ∀ p ∈ P, ∀ n ∈ N, ∀ v ∈ keep (turn pl x1 nf) x1, 0 < turn p v n := by
    intro p hp n hn v hv
    obtain ⟨rfl, h⟩ := keep_mem hv
    rcases (side_order g.tP g.tN hA hB' g.t1 p hp n hn).2 with h2 | ⟨_, _, h2⟩
    · exact h2
    · exact absurd h2 h
  have strict2 : ∀ p ∈ P, ∀ n ∈ N, ∀ v ∈ keep (turn nl x2 pf) x2, 0 < turn p n v := by
    intro p hp n hn v hv
    obtain ⟨rfl, h⟩ := keep_mem hv
    rcases (side_order g.tN g.tP hB hA' g.t2 n hn p hp).2 with h2 | ⟨_, _, h2⟩
    · rw [turn_cyc]; exact h2
    · exact absurd h2 h
  have tN' : T3 (keep (turn pl x1 nf) x1 ++ (N ++ keep (turn nl x2 pf) x2)) := by
    have : T3 ([x1] ++ (N ++ [x2])) := by
      have := g.tN
      have e : N ++ [x2, x1] = (N ++ [x2]) ++ [x1] := by simp
      rw [e] at this
      exact T3_rot this
    exact this.sub (List.Sublist.append (keep_sub _ _) (List.Sublist.append (List.Sublist.refl _) (keep_sub _ _)))
  rw [glueRow, T3_append]
  refine ⟨(T3_append.1 g.tP).1, tN', ?_, ?_⟩
  · intro c hc
    simp only [List.mem_append] at hc
    rcases hc with hc | hc | hc
    · obtain ⟨rfl, _⟩ := keep_mem hc
      exact g.tP.pair (by simp)
    · rw [List.pairwise_iff_forall_sublist]
      intro a b hs
      exact g.mixed hs hc
    · obtain ⟨rfl, _⟩ := keep_mem hc
      exact g.tP.pair (by simp)
  · intro p hp
    rw [List.pairwise_append, List.pairwise_append]
    refine ⟨?_, ⟨?_, ?_, ?_⟩, ?_⟩
    · exact List.Pairwise.sublist (keep_sub _ _) (by simp)
    · rw [List.pairwise_iff_forall_sublist]
      intro a b hs
      rw [turn_cyc]
      exact g.symm.mixed hs hp
    · exact List.Pairwise.sublist (keep_sub _ _) (by simp)
    · intro n hn v hv
      exact strict2 p hp n hn v hv
    · intro v hv w hw
      simp only [List.mem_append] at hw
      rcases hw with hw | hw
      · exact strict1 p hp w hw v hv
      · obtain ⟨rfl, _⟩ := keep_mem hv
        obtain ⟨rfl, _⟩ := keep_mem hw
        exact g.tP.turn3 (show ([p] ++ [_, _]).Sublist _ from List.Sublist.append (List.singleton_sublist.2 hp) (by simp))

theorem keep_sum {p n x : V} : psum (path (p :: (keep (turn p x n) x ++ [n]))) = cross p x + cross x n - turn p x n * (if turn p x n = 0 then 1 else 0) := by
  unfold keep
  split
  · rename_i h
    simp only [List.nil_append, path, psum_cons, psum_nil]
    simp only [turn] at *
    simp only [cross]; grind
  · simp only [List.cons_append, List.nil_append, path, psum_cons, psum_nil]; grind
theorem keep_sum' {p n x : V} : psum (path (p :: (keep (turn p x n) x ++ [n]))) = cross p x + cross x n := by
  rw [keep_sum]; split <;> grind
theorem S_end {P A A' : List V} {pf pl x1 x2 : V} (hP1 : P = A ++ [pl]) (hP2 : P = pf :: A') : S (P ++ [x1, x2]) = psum (path P) + (cross pl x1 + cross x1 x2 + cross x2 pf) := by
  have : cyc (P ++ [x1, x2]) = path (A ++ [pl] ++ [x1, x2, pf]) := by
    rw [← hP1]; rw [hP2]; simp [cyc]
  rw [S, this, path_app_last, psum_append, ← hP1]
  simp only [path, psum_cons, psum_nil]; grind

theorem Glue.area {P N : List V} {pf pl nf nl x1 x2 : V} (g : Glue P N pf pl nf nl x1 x2) : S (glueRow P N pf pl nf nl x1 x2) = S (P ++ [x1, x2]) + S (N ++ [x2, x1]) := by
  obtain ⟨A, hA⟩ := g.hP1
  obtain ⟨A', hA'⟩ := g.hP2
  obtain ⟨B, hB⟩ := g.hN1
  obtain ⟨B', hB'⟩ := g.hN2
  rw [glueRow, S, cyc_four (Z := keep (turn pl x1 nf) x1) (W := keep (turn nl x2 pf) x2) hA ⟨A', hA'⟩ hB ⟨B', hB'⟩]
  rw [psum_append, psum_append, psum_append, keep_sum', keep_sum', S_end hA hA', S_end hB hB']
  simp only [cross]; grind

theorem between_line {p n x y : V} (h0 : turn p x n = 0) (h1 : 0 < turn x y p) (h2 : turn x y n < 0) : ∃ t, 0 ≤ t ∧ t ≤ 1 ∧ x = mix t p n := by
  have ct := crossing_t (u := turn x y p) (v := turn x y n) (.inl ⟨h1, h2⟩)
  refine ⟨_, Rat.le_of_lt ct.1, Rat.le_of_lt ct.2, ?_⟩
  have z0 : turn x y (crossing (line x y) p n) = 0 := by
    rw [← line_at]
    exact crossing_at (by rw [line_at, line_at]; grind)
  have z1 : turn p x (crossing (line x y) p n) = 0 := by
    rw [crossing, turn_mix3, turn_aba, h0]; grind
  have := two_lines (a := x) (b := y) (c := p) (z := crossing (line x y) p n) (by grind) z0 z1
  rw [crossing, line_at, line_at] at this
  exact this.symm

theorem Glue.sub1 {P N : List V} {pf pl nf nl x1 x2 : V} (g : Glue P N pf pl nf nl x1 x2) : Inside (glueRow P N pf pl nf nl x1 x2) x1 := by
  by_cases h : turn pl x1 nf = 0
  · obtain ⟨A, hA⟩ := g.hP1
    obtain ⟨B', hB'⟩ := g.hN2
    have k1 : 0 < turn x1 x2 pl := by
      rw [← turn_cyc]
      exact g.tP.turn3 (show ([pl] ++ [x1, x2]).Sublist _ from List.Sublist.append (List.singleton_sublist.2 (by rw [hA]; simp)) (by simp))
    have k2 : turn x1 x2 nf < 0 := by
      have := g.tN.turn3 (show ([nf] ++ [x2, x1]).Sublist _ from List.Sublist.append (List.singleton_sublist.2 (by rw [hB']; simp)) (by simp))
      rw [turn_swap2, turn_cyc]; grind
    obtain ⟨t, t0, t1, e⟩ := between_line h k1 k2
    have i1 := g.t3.inside (v := pl) (by rw [glueRow, hA]; simp)
    have i2 := g.t3.inside (v := nf) (by rw [glueRow, hB']; simp)
    have := i1.mix t0 t1 i2
    rw [← e] at this
    exact this
  · exact g.t3.inside (by simp [glueRow, keep, h])
theorem glueRow_rot (P N : List V) (pf pl nf nl x1 x2 : V) : Rot (glueRow P N pf pl nf nl x1 x2) (glueRow N P nf nl pf pl x2 x1) :=
  ⟨P ++ keep (turn pl x1 nf) x1, N ++ keep (turn nl x2 pf) x2, by simp [glueRow], by simp [glueRow]⟩
theorem Glue.sub2 {P N : List V} {pf pl nf nl x1 x2 : V} (g : Glue P N pf pl nf nl x1 x2) : Inside (glueRow P N pf pl nf nl x1 x2) x2 :=
  (glueRow_rot P N pf pl nf nl x1 x2).symm.inside g.symm.sub1
theorem Glue.len {P N : List V} {pf pl nf nl x1 x2 : V} (g : Glue P N pf pl nf nl x1 x2) : 3 ≤ (glueRow P N pf pl nf nl x1 x2).length := by
  obtain ⟨A, hA⟩ := g.hP2
  obtain ⟨B, hB⟩ := g.hN2
  rw [glueRow]
  simp only [List.length_append]
  have h1 : 1 ≤ P.length := by rw [hA]; simp
  have h2 : 1 ≤ N.length := by rw [hB]; simp
  -- both left out: then both rows would be on one line
  false_or_by_contra
  rename_i hc
  have l1 : P.length = 1 := by omega
  have l2 : N.length = 1 := by omega
  have k0 : (keep (turn pl x1 nf) x1).length = 0 := by omega
  have k0' : (keep (turn nl x2 pf) x2).length = 0 := by omega
  have hP : P = [pf] := by rw [hA] at l1 ⊢; simp at l1; rw [l1]
  have hN : N = [nf] := by rw [hB] at l2 ⊢; simp at l2; rw [l2]
  obtain ⟨C, hC⟩ := g.hP1
  obtain ⟨D, hD⟩ := g.hN1
  have e1 : pl = pf := by
    rw [hP] at hC
    cases C with
    | nil => simp at hC; exact hC.symm
    | cons c C => simp at hC
  have e2 : nl = nf := by
    rw [hN] at hD
    cases D with
    | nil => simp at hD; exact hD.symm
    | cons c C => simp at hD
  subst e1 e2
  have z1 : turn pl x1 nl = 0 := by
    false_or_by_contra
    rename_i h
    simp [keep, h] at k0
  have z2 : turn nl x2 pl = 0 := by
    false_or_by_contra
    rename_i h
    simp [keep, h] at k0'
  have p1 := g.tP
  have p2 := g.tN
  rw [hP] at p1
  rw [hN] at p2
  have p1' := T3_three.1 p1
  have p2' := T3_three.1 p2
  simp only [turn] at *
  grind

/-! ### Nothing left, or a convex row -/
theorem clip_flat {f : F} {l : List V} (h : ∀ v ∈ l, f.at v ≤ 0) : ∀ v ∈ clip f l, f.at v = 0 := by
  intro v hv
  rw [clip, List.mem_flatMap] at hv
  obtain ⟨⟨a, b⟩, hs, hv⟩ := hv
  have hb : a ∈ l ∧ b ∈ l := by
    rcases cyc_mem hs with ⟨rfl, rfl⟩ | ⟨r, hr⟩
    · simp
    · exact ⟨hr.mem.2 (by simp), hr.mem.2 (by simp)⟩
  have ha := h a hb.1
  have hb := h b hb.2
  have n1 : ¬ 0 < f.at a := by grind
  have n2 : ¬ 0 < f.at b := by grind
  simp only [edge, parts, n1, n2, false_and, and_false, or_false, decide_false, Bool.false_eq_true, if_false, List.append_nil] at hv
  split at hv
  · simp at hv
  · simp at hv; subst hv; grind
theorem clip_line {f g : F} {l : List V} (h : ∀ v ∈ l, f.at v = 0) : ∀ v ∈ clip g l, f.at v = 0 := by
  intro v hv
  rw [clip, List.mem_flatMap] at hv
  obtain ⟨⟨a, b⟩, hs, hv⟩ := hv
  have hb : a ∈ l ∧ b ∈ l := by
    rcases cyc_mem hs with ⟨rfl, rfl⟩ | ⟨r, hr⟩
    · simp
    · exact ⟨hr.mem.2 (by simp), hr.mem.2 (by simp)⟩
  have ha := h a hb.1
  have hb := h b hb.2
  rw [edge, List.mem_append] at hv
  rcases hv with hv | hv
  · split at hv
    · simp at hv
    · simp at hv; subst hv; exact ha
  · split at hv
    · simp at hv; subst hv
      rw [crossing, at_mix, ha, hb]; grind
    · simp at hv
theorem clips_line {f : F} : ∀ {fs : List F} {l : List V}, (∀ v ∈ l, f.at v = 0) → ∀ v ∈ clips fs l, f.at v = 0
  | [], _, h => h
  | g :: fs, l, h => by
    rw [clips]
    exact clips_line (fs := fs) (clip_line (g := g) h)
theorem path_fst {α : Type} (l : List α) (a : α) : (path (l ++ [a])).map (·.1) = l := by
  induction l with
  | nil => rfl
  | cons x l ih =>
    cases l with
    | nil => rfl
    | cons y l => simp only [List.cons_append, path, List.map_cons] at ih ⊢; rw [ih]
theorem cyc_fst {α : Type} (l : List α) : (cyc l).map (·.1) = l := by
  cases l with
  | nil => rfl
  | cons a l => exact path_fst (a :: l) a
theorem flatMap_single {α β : Type} {l : List α} {f : α → List β} {g : α → β} (h : ∀ a ∈ l, f a = [g a]) : l.flatMap f = l.map g := by
  induction l with
  | nil => rfl
  | cons a l ih =>
    rw [List.flatMap_cons, h a (by simp), ih (fun b hb => h b (by simp [hb]))]; rfl
theorem cyc_both {α : Type} {l : List α} {s : α × α} (hs : s ∈ cyc l) : s.1 ∈ l ∧ s.2 ∈ l := by
  obtain ⟨a, b⟩ := s
  rcases cyc_mem hs with ⟨rfl, rfl⟩ | ⟨r, hr⟩
  · simp
  · exact ⟨hr.mem.2 (by simp), hr.mem.2 (by simp)⟩
theorem clip_whole {f : F} {l : List V} (h : ∀ v ∈ l, 0 ≤ f.at v) : clip f l = l := by
  rw [clip, flatMap_single (g := (·.1)), cyc_fst]
  intro s hs
  have hb := cyc_both hs
  have h1 := h _ hb.1
  have h2 := h _ hb.2
  have n1 : ¬ f.at s.1 < 0 := by grind
  have n2 : ¬ f.at s.2 < 0 := by grind
  simp [edge, parts, n1, n2]

theorem Rot.clips {fs : List F} : ∀ {l m : List V}, Rot l m → Rot (clips fs l) (clips fs m) := by
  induction fs with
  | nil => intro l m h; exact h
  | cons f fs ih => intro l m h; exact ih (h.clip f)
theorem Rot.t3_iff {l m : List V} (h : Rot l m) : T3 l ↔ T3 m := ⟨h.t3, h.symm.t3⟩

/-- a line that isn't no line -/
def F.Real (f : F) : Prop := ∃ a b, a ≠ b ∧ ∀ z, f.at z = turn a b z
theorem line_real {a b : V} (h : a ≠ b) : (line a b).Real := ⟨a, b, h, fun z => line_at a b z⟩

theorem gone_flat {fs : List F} {l : List V} (hf : ∀ f ∈ fs, f.Real) (g : Gone fs l) : ∃ f : F, f.Real ∧ ∀ v ∈ clips fs l, f.at v = 0 := by
  induction g with
  | @here f fs l h => exact ⟨f, hf f (by simp), by rw [clips]; exact clips_line (fs := fs) (clip_flat h)⟩
  | @whole f fs l h g ih =>
    obtain ⟨k, h1, h2⟩ := ih (fun f hf' => hf f (by simp [hf']))
    refine ⟨k, h1, ?_⟩
    rw [clips, clip_whole h]; exact h2
  | cut c g ih =>
    obtain ⟨k, h1, h2⟩ := ih (fun f hf' => hf f (by simp [hf']))
    refine ⟨k, h1, ?_⟩
    intro v hv
    rw [clips] at hv
    exact h2 v (c.clipL.clips.mem.1 hv)
theorem gone_or : ∀ (fs : List F) {l : List V}, T3 l → 3 ≤ l.length → Gone fs l ∨ (T3 (clips fs l) ∧ 3 ≤ (clips fs l).length)
  | [], l, t, hl => .inr ⟨t, hl⟩
  | f :: fs, l, t, hl => by
    by_cases hn : ∃ x ∈ l, f.at x < 0
    · by_cases hp : ∃ x ∈ l, 0 < f.at x
      · obtain ⟨P, N, x1, x2, c⟩ := cut t hl hp hn
        rcases gone_or fs c.left c.lenL with g | ⟨g1, g2⟩
        · exact .inl (.cut c g)
        · right
          rw [clips]
          have r : Rot (clips fs (clip f l)) (clips fs (P ++ [x1, x2])) := c.clipL.clips
          exact ⟨r.symm.t3 g1, by rw [r.length]; exact g2⟩
      · left
        refine .here fun v hv => ?_
        false_or_by_contra
        exact hp ⟨v, hv, by grind⟩
    · have h0 : ∀ v ∈ l, 0 ≤ f.at v := fun v hv => by
        false_or_by_contra
        exact hn ⟨v, hv, by grind⟩
      rcases gone_or fs t hl with g | ⟨g1, g2⟩
      · exact .inl (.whole h0 g)
      · right
        rw [clips, clip_whole h0]
        exact ⟨g1, g2⟩
theorem gone_not {fs : List F} {l : List V} (hf : ∀ f ∈ fs, f.Real) (g : Gone fs l) : ¬ (T3 (clips fs l) ∧ 3 ≤ (clips fs l).length) := by
  intro ⟨h1, h2⟩
  obtain ⟨f, ⟨a, b, hab, e⟩, hz⟩ := gone_flat hf g
  have := all_zero h1 h2 hz
  have ha : ∀ z, turn a b z = 0 := fun z => by rw [← e]; exact this z
  apply hab
  have x1 := ha ⟨a.x, a.y + 1⟩
  have x2 := ha ⟨a.x + 1, a.y⟩
  simp only [turn] at x1 x2
  ext <;> grind
/-- beyond one of the lines, nothing of it is left -/
theorem gone_beyond {f : F} : ∀ {fs : List F} {l : List V}, T3 l → 3 ≤ l.length → f ∈ fs → (∀ v ∈ l, f.at v ≤ 0) → Gone fs l
  | [], _, _, _, h, _ => by simp at h
  | g :: fs, l, t, hl, h, hz => by
    by_cases hp : ∃ x ∈ l, 0 < g.at x
    · have hfs : f ∈ fs := by
        simp only [List.mem_cons] at h
        rcases h with rfl | h
        · obtain ⟨x, hx, h2⟩ := hp
          have := hz x hx; grind
        · exact h
      by_cases hn : ∃ x ∈ l, g.at x < 0
      · obtain ⟨P, N, x1, x2, c⟩ := cut t hl hp hn
        refine .cut c (gone_beyond c.left c.lenL hfs ?_)
        intro v hv
        have := (c.inL t v hv).nonneg t hl (f := f.opp) (fun w hw => by rw [opp_at]; have := hz w hw; grind)
        rw [opp_at] at this; grind
      · refine .whole (fun v hv => ?_) (gone_beyond t hl hfs hz)
        false_or_by_contra
        exact hn ⟨v, hv, by grind⟩
    · refine .here fun v hv => ?_
      false_or_by_contra
      exact hp ⟨v, hv, by grind⟩

/-! ### Two convex rows that make one -/
def sidesOf (q : List V) : List F := (cyc q).map fun s => line s.1 s.2
theorem T3.neighbours_ne {l : List V} (h : T3 l) (hl : 3 ≤ l.length) {a b : V} (e : (a, b) ∈ cyc l) : a ≠ b := by
  rcases cyc_mem e with ⟨rfl, rfl⟩ | ⟨r, hr⟩
  · simp at hl
  · have t := hr.t3 h
    have n := t.not_mem (by have := hr.length; simp at this ⊢; omega)
    intro e
    exact n (by simp [e])
theorem sides_real {q : List V} (h : T3 q) (hl : 3 ≤ q.length) : ∀ f ∈ sidesOf q, f.Real := by
  intro f hf
  obtain ⟨s, hs, rfl⟩ := List.mem_map.1 hf
  exact line_real (h.neighbours_ne hl hs)
/-- a point strictly within -/
theorem T3.inner {l : List V} (h : T3 l) (hl : 3 ≤ l.length) : ∃ z, ∀ f ∈ sidesOf l, 0 < f.at z := by
  match l, hl with
  | a :: b :: c :: r, hl =>
    have t := h.turn3 (a := a) (b := b) (c := c) (by simp)
    refine ⟨mix (1/3) (mix (1/2) a b) c, ?_⟩
    intro f hf
    obtain ⟨⟨p, q⟩, hs, rfl⟩ := List.mem_map.1 hf
    rw [line_at]
    have i1 := h.inside (v := a) (by simp) _ hs
    have i2 := h.inside (v := b) (by simp) _ hs
    have i3 := h.inside (v := c) (by simp) _ hs
    simp only [turn_mix3]
    simp only at i1 i2 i3
    have : turn p q a ≠ 0 ∨ turn p q b ≠ 0 ∨ turn p q c ≠ 0 := by
      false_or_by_contra
      rename_i hne
      have := collinear (h.neighbours_ne hl hs) (a := a) (b := b) (c := c) (by grind) (by grind) (by grind)
      grind
    grind

theorem Glue.row {P N : List V} {pf pl nf nl x1 x2 : V} (g : Glue P N pf pl nf nl x1 x2) {p q : List V} (tp : T3 p) (lp : 3 ≤ p.length)
    (rp : Rot p (P ++ [x1, x2])) (rq : Rot q (N ++ [x2, x1])) : Rot (hull (p ++ q)) (glueRow P N pf pl nf nl x1 x2) := by
  obtain ⟨h1, h2, h3, h4⟩ := hull_row (l := p ++ q) tp lp (fun v hv => by simp [hv])
  refine Sub.rot h1 g.t3 h2 g.len ?_ ?_
  · intro v hv
    have := h3 v hv
    rw [List.mem_append, rp.mem, rq.mem] at this
    simp only [List.mem_append, List.mem_cons, List.not_mem_nil, or_false] at this
    rcases this with (h | rfl | rfl) | (h | rfl | rfl)
    · exact g.t3.inside (by simp [glueRow, h])
    · exact g.sub1
    · exact g.sub2
    · exact g.t3.inside (by simp [glueRow, h])
    · exact g.sub2
    · exact g.sub1
  · intro v hv
    apply h4
    rw [List.mem_append, rp.mem, rq.mem]
    simp only [glueRow, List.mem_append] at hv
    rcases hv with h | h | h | h
    · simp [h]
    · obtain ⟨rfl, _⟩ := keep_mem h; simp
    · simp [h]
    · obtain ⟨rfl, _⟩ := keep_mem h; simp

/-- they make one: they've a side in common, turned about, and bend at its ends as they should -/
def Makes (p q : List V) (P N : List V) (pf pl nf nl x1 x2 : V) : Prop :=
  Rot p (P ++ [x1, x2]) ∧ Rot q (N ++ [x2, x1]) ∧ Glue P N pf pl nf nl x1 x2

theorem makes_of {p q : List V} (tp : T3 p) (lp : 3 ≤ p.length) (tq : T3 q) (lq : 3 ≤ q.length) (hg : Gone (sidesOf q) p) (hS : S (hull (p ++ q)) = S p + S q) :
    ∃ P N pf pl nf nl x1 x2, Makes p q P N pf pl nf nl x1 x2 := by
  obtain ⟨z0, hz0⟩ := tq.inner lq
  obtain ⟨f, f1, f2, f3⟩ := separated tp lp hg hz0
  obtain ⟨h1, h2, h3, h4⟩ := hull_row (l := p ++ q) tp lp (fun v hv => by simp [hv])
  have fq : ∀ v ∈ q, f.at v ≤ 0 := by
    intro v hv
    apply f2
    intro g hg'
    obtain ⟨s, hs, rfl⟩ := List.mem_map.1 hg'
    rw [line_at]
    exact tq.inside hv s hs
  have ex1 : ∃ x ∈ hull (p ++ q), 0 < f.at x := by
    false_or_by_contra
    rename_i hne
    have h0 : ∀ v ∈ p, f.at v = 0 := fun v hv => by
      obtain ⟨w, hw, k⟩ := (h4 v (by simp [hv])).corner h1 h2 f
      have := f1 v hv
      have : ¬ 0 < f.at w := fun h => hne ⟨w, hw, h⟩
      grind
    have := all_zero tp lp h0 z0
    grind
  have ex2 : ∃ x ∈ hull (p ++ q), f.at x < 0 := by
    false_or_by_contra
    rename_i hne
    have h0 : ∀ v ∈ q, f.at v = 0 := fun v hv => by
      obtain ⟨w, hw, k⟩ := (h4 v (by simp [hv])).corner h1 h2 f.opp
      have := fq v hv
      have : ¬ f.at w < 0 := fun h => hne ⟨w, hw, h⟩
      rw [opp_at, opp_at] at k
      grind
    have := all_zero tq lq h0 z0
    grind
  obtain ⟨P, N, x1, x2, c⟩ := cut h1 h2 ex1 ex2
  have s1 : Sub p (P ++ [x1, x2]) := fun v hv => c.insL v (h4 v (by simp [hv])) (f1 v hv)
  have s2 : Sub q (N ++ [x2, x1]) := fun v hv => c.insR v (h4 v (by simp [hv])) (fq v hv)
  have a1 := s1.area tp lp c.left c.lenL
  have a2 := s2.area tq lq c.right c.lenR
  have ha := c.area
  have r1 := a1.2 (by grind)
  have r2 := a2.2 (by grind)
  obtain ⟨pf, A', e1⟩ := ends c.hP
  obtain ⟨A, pl, e2⟩ := ends' c.hP
  obtain ⟨nf, B', e3⟩ := ends c.hN
  obtain ⟨B, nl, e4⟩ := ends' c.hN
  refine ⟨P, N, pf, pl, nf, nl, x1, x2, r1, r2, ⟨c.left, c.right, ⟨A, e2⟩, ⟨A', e1⟩, ⟨B, e4⟩, ⟨B', e3⟩, ?_, ?_⟩⟩
  · exact c.mid1 pl (by rw [e2]; simp) nf (by rw [e3]; simp)
  · have := c.mid2 pf (by rw [e1]; simp) nl (by rw [e4]; simp)
    rw [turn_cyc] at this; exact this
theorem of_makes {p q : List V} (tp : T3 p) (lp : 3 ≤ p.length) (tq : T3 q) (lq : 3 ≤ q.length) {P N : List V} {pf pl nf nl x1 x2 : V} (m : Makes p q P N pf pl nf nl x1 x2) :
    Gone (sidesOf q) p ∧ S (hull (p ++ q)) = S p + S q ∧ Rot (hull (p ++ q)) (glueRow P N pf pl nf nl x1 x2) := by
  obtain ⟨rp, rq, g⟩ := m
  have r := g.row tp lp rp rq
  refine ⟨?_, ?_, r⟩
  · have hm : (x2, x1) ∈ cyc q := mem_cyc (r := N) (rq.trans ⟨N, [x2, x1], rfl, rfl⟩)
    refine gone_beyond tp lp (f := line x2 x1) (List.mem_map.2 ⟨(x2, x1), hm, rfl⟩) ?_
    intro v hv
    rw [line_at]
    have hv := rp.mem.1 hv
    simp only [List.mem_append, List.mem_cons, List.not_mem_nil, or_false] at hv
    rcases hv with h | rfl | rfl
    · have := g.tP.turn3 (show ([v] ++ [x1, x2]).Sublist _ from List.Sublist.append (List.singleton_sublist.2 h) (by simp))
      rw [turn_cyc] at this
      rw [turn_swap]; grind
    · rw [turn_abb]; exact Rat.le_refl
    · rw [turn_aba]; exact Rat.le_refl
  · rw [r.S, g.area, rp.S, rq.S]
end Geo
end

section
set_option linter.all false
namespace Geo
open Kzq1 (Q P)

/-! ### Fractions of the specification -/
def val (a : Q) : Rat := (a.n : Rat) / (a.d : Rat)
structure Ok (a : Q) : Prop where
  pos : 1 ≤ a.d
  red : Nat.gcd a.n.natAbs a.d = 1
theorem okQ_iff (a : Q) : Kzq1.okQ a = true ↔ Ok a := by
  unfold Kzq1.okQ
  rw [Bool.and_eq_true, decide_eq_true_iff, beq_iff_eq]
  exact ⟨fun h => ⟨h.1, h.2⟩, fun h => ⟨h.1, h.2⟩⟩
theorem Ok.ne {a : Q} (h : Ok a) : (a.d : Rat) ≠ 0 := by
  have := h.pos
  intro e
  have : a.d = 0 := by exact_mod_cast e
  omega
theorem Ok.lt {a : Q} (h : Ok a) : (0 : Rat) < (a.d : Rat) := by
  have := h.pos
  have : 0 < a.d := by omega
  exact_mod_cast this
/-- the reduced fraction of the core library -/
def toRat (a : Q) (h : Ok a) : Rat := ⟨a.n, a.d, by have := h.pos; omega, h.red⟩
theorem toRat_val (a : Q) (h : Ok a) : toRat a h = val a := by
  unfold val
  have := Rat.num_divInt_den (toRat a h)
  rw [Rat.divInt_eq_div] at this
  rw [← this]
  simp only [toRat, Rat.intCast_natCast]
theorem val_inj {a b : Q} (ha : Ok a) (hb : Ok b) (h : val a = val b) : a = b := by
  rw [← toRat_val a ha, ← toRat_val b hb] at h
  have h1 : a.n = b.n := congrArg Rat.num h
  have h2 : a.d = b.d := congrArg Rat.den h
  cases a; cases b; simp_all
theorem mk_ok (n : Int) (d : Nat) (hd : 1 ≤ d) : Ok (Kzq1.mk n d) ∧ val (Kzq1.mk n d) = (n : Rat) / (d : Rat) := by
  have hg : 0 < Nat.gcd n.natAbs d := Nat.gcd_pos_of_pos_right _ hd
  have hg1 : Nat.gcd n.natAbs d ≠ 0 := by omega
  have hdv : Nat.gcd n.natAbs d ∣ d := Nat.gcd_dvd_right _ _
  have hq : d / Nat.gcd n.natAbs d ≠ 0 := by
    have := Nat.div_pos (Nat.le_of_dvd hd hdv) hg
    omega
  have e : Kzq1.mk n d = ⟨n / (Nat.gcd n.natAbs d : Int), d / Nat.gcd n.natAbs d⟩ := by
    unfold Kzq1.mk
    simp only [if_neg hg1, if_neg hq]
  rw [e]
  have hz : (Nat.gcd n.natAbs d : Int) ∣ n := by
    have : Nat.gcd n.natAbs d ∣ n.natAbs := Nat.gcd_dvd_left _ _
    exact Int.dvd_natAbs.1 (Int.natCast_dvd_natCast.2 this)
  constructor
  · refine ⟨show 1 ≤ d / Nat.gcd n.natAbs d from Nat.pos_of_ne_zero hq, ?_⟩
    simp only
    have : (n / (Nat.gcd n.natAbs d : Int)).natAbs = n.natAbs / Nat.gcd n.natAbs d := by
      rw [Int.natAbs_ediv_of_dvd hz]; simp
    rw [this]
    exact Nat.gcd_div_gcd_div_gcd_of_pos_right hd
  · unfold val
    simp only
    obtain ⟨k, hk⟩ := hz
    obtain ⟨m, hm⟩ := hdv
    have hg2 : ((Nat.gcd n.natAbs d : Nat) : Rat) ≠ 0 := by
      intro h; exact hg1 (by exact_mod_cast h)
    have e1 : n / (Nat.gcd n.natAbs d : Int) = k := by
      exact Int.ediv_eq_of_eq_mul_right (by omega) hk
    have e2 : d / Nat.gcd n.natAbs d = m := by
      exact Nat.div_eq_of_eq_mul_right hg hm
    rw [e1, e2]
    have hm0 : (m : Rat) ≠ 0 := by
      intro h
      have : m = 0 := by exact_mod_cast h
      subst this; omega
    have r1 : (n : Rat) = (Nat.gcd n.natAbs d : Nat) * (k : Rat) := by exact_mod_cast hk
    have r2 : (d : Rat) = (Nat.gcd n.natAbs d : Nat) * (m : Rat) := by exact_mod_cast hm
    rw [r1, r2]
    grind

theorem whole_ok (n : Int) : Ok (Kzq1.whole n) := ⟨Nat.le_refl _, Nat.gcd_one_right _⟩
theorem whole_val (n : Int) : val (Kzq1.whole n) = (n : Rat) := by
  simp only [val, Kzq1.whole]
  have : ((1 : Nat) : Rat) = 1 := rfl
  rw [this]; grind
theorem zero_ok : Ok Kzq1.zero := whole_ok 0
theorem zero_val : val Kzq1.zero = 0 := whole_val 0
theorem half_ok : Ok Kzq1.half := ⟨by decide, by decide⟩
theorem half_val : val Kzq1.half = 1 / 2 := by
  simp only [val, Kzq1.half]; rfl
theorem add_ok {a b : Q} (ha : Ok a) (hb : Ok b) : Ok (Kzq1.add a b) ∧ val (Kzq1.add a b) = val a + val b := by
  have h := mk_ok (a.n * (b.d : Int) + b.n * (a.d : Int)) (a.d * b.d) (Nat.mul_le_mul ha.pos hb.pos)
  refine ⟨h.1, ?_⟩
  rw [Kzq1.add, h.2]
  simp only [val]
  have := ha.ne
  have := hb.ne
  push_cast
  grind
theorem neg_ok {a : Q} (ha : Ok a) : Ok (Kzq1.neg a) ∧ val (Kzq1.neg a) = - val a := by
  refine ⟨⟨ha.pos, by simp only [Kzq1.neg, Int.natAbs_neg]; exact ha.red⟩, ?_⟩
  simp only [val, Kzq1.neg]
  push_cast
  grind
theorem sub_ok {a b : Q} (ha : Ok a) (hb : Ok b) : Ok (Kzq1.sub a b) ∧ val (Kzq1.sub a b) = val a - val b := by
  have h := add_ok ha (neg_ok hb).1
  refine ⟨h.1, ?_⟩
  rw [Kzq1.sub, h.2, (neg_ok hb).2]; grind
theorem mul_ok {a b : Q} (ha : Ok a) (hb : Ok b) : Ok (Kzq1.mul a b) ∧ val (Kzq1.mul a b) = val a * val b := by
  have h := mk_ok (a.n * b.n) (a.d * b.d) (Nat.mul_le_mul ha.pos hb.pos)
  refine ⟨h.1, ?_⟩
  rw [Kzq1.mul, h.2]
  simp only [val]
  have := ha.ne
  have := hb.ne
  push_cast
  grind
theorem inv_ok {a : Q} (ha : Ok a) : Ok (Kzq1.inv a) ∧ val (Kzq1.inv a) = (val a)⁻¹ := by
  have hd := ha.ne
  unfold Kzq1.inv
  by_cases h0 : a.n = 0
  · have e : ¬ (0 < a.n) := by omega
    rw [if_neg e]
    have hr := ha.red
    rw [h0] at hr
    simp at hr
    have : Kzq1.mk (-(a.d : Int)) a.n.natAbs = ⟨0, 1⟩ := by
      rw [h0, hr]; decide
    rw [this]
    refine ⟨⟨by decide, by decide⟩, ?_⟩
    simp only [val, h0]
    have e1 : ((0 : Int) : Rat) = 0 := rfl
    rw [e1]; grind
  · have hn : (a.n : Rat) ≠ 0 := by
      intro e; exact h0 (by exact_mod_cast e)
    split
    · rename_i hp
      have h := mk_ok (a.d : Int) a.n.natAbs (by omega)
      refine ⟨h.1, ?_⟩
      rw [h.2]
      have e : (a.n.natAbs : Int) = a.n := by omega
      have e2 : ((a.n.natAbs : Nat) : Rat) = (a.n : Rat) := by rw [← e]; exact (Rat.intCast_natCast _).symm
      rw [e2]
      simp only [val, Rat.intCast_natCast]
      grind
    · rename_i hp
      have h := mk_ok (-(a.d : Int)) a.n.natAbs (by omega)
      refine ⟨h.1, ?_⟩
      rw [h.2]
      have e : (a.n.natAbs : Int) = -a.n := by omega
      have e2 : ((a.n.natAbs : Nat) : Rat) = -(a.n : Rat) := by
        have : ((a.n.natAbs : Int) : Rat) = ((-a.n : Int) : Rat) := by rw [e]
        rw [Rat.intCast_natCast] at this
        rw [this]; push_cast; rfl
      rw [e2]
      simp only [val]
      push_cast
      grind
theorem div_ok {a b : Q} (ha : Ok a) (hb : Ok b) : Ok (Kzq1.div a b) ∧ val (Kzq1.div a b) = val a / val b := by
  have h := mul_ok ha (inv_ok hb).1
  refine ⟨h.1, ?_⟩
  rw [Kzq1.div, h.2, (inv_ok hb).2, Rat.div_def]
theorem lt_iff {a b : Q} (ha : Ok a) (hb : Ok b) : Kzq1.lt a b = true ↔ val a < val b := by
  unfold Kzq1.lt
  rw [decide_eq_true_iff]
  have h1 := ha.lt
  have h2 := hb.lt
  have e : val a < val b ↔ (a.n : Rat) * (b.d : Rat) < (b.n : Rat) * (a.d : Rat) := by
    unfold val
    rw [Rat.div_lt_iff h1]
    have : (b.n : Rat) / (b.d : Rat) * (a.d : Rat) = ((b.n : Rat) * (a.d : Rat)) / (b.d : Rat) := by grind
    rw [this, Rat.lt_div_iff h2]
  rw [e]
  have h3 : (a.n : Rat) * (b.d : Rat) = ((a.n * (b.d : Int) : Int) : Rat) := by push_cast; rfl
  have h4 : (b.n : Rat) * (a.d : Rat) = ((b.n * (a.d : Int) : Int) : Rat) := by push_cast; rfl
  rw [h3, h4, Rat.intCast_lt_intCast]
theorem pos_iff {a : Q} (ha : Ok a) : Kzq1.pos a = true ↔ 0 < val a := by
  have := lt_iff zero_ok ha
  rw [zero_val] at this
  rw [← this]
  simp [Kzq1.pos, Kzq1.lt, Kzq1.zero]
theorem val_zero {a : Q} (ha : Ok a) : val a = 0 ↔ a.n = 0 := by
  constructor
  · intro h
    have := val_inj ha zero_ok (by rw [h, zero_val])
    rw [this]; rfl
  · intro h
    have e1 : ((0 : Int) : Rat) = 0 := rfl
    simp only [val, h, e1]; grind
theorem isZero_iff {a : Q} (ha : Ok a) : Kzq1.isZero a = true ↔ val a = 0 := by
  rw [val_zero ha]; simp [Kzq1.isZero]
theorem le_iff {a b : Q} (ha : Ok a) (hb : Ok b) : Kzq1.le a b = true ↔ val a ≤ val b := by
  have := lt_iff hb ha
  unfold Kzq1.le
  rw [Bool.not_eq_true', ← Bool.not_eq_true, this]
  grind
theorem beq_iff {a b : Q} (ha : Ok a) (hb : Ok b) : (a == b) = true ↔ val a = val b := by
  rw [beq_iff_eq]
  exact ⟨fun h => by rw [h], val_inj ha hb⟩

/-! ### Points of the specification -/
structure OkP (z : P) : Prop where
  x : Ok z.x
  y : Ok z.y
def toV (z : P) : V := ⟨val z.x, val z.y⟩
theorem toV_inj {a b : P} (ha : OkP a) (hb : OkP b) (h : toV a = toV b) : a = b := by
  have h1 : val a.x = val b.x := congrArg V.x h
  have h2 : val a.y = val b.y := congrArg V.y h
  have := val_inj ha.x hb.x h1
  have := val_inj ha.y hb.y h2
  cases a; cases b; simp_all
theorem plus_ok {a b : P} (ha : OkP a) (hb : OkP b) : OkP (Kzq1.plus a b) ∧ toV (Kzq1.plus a b) = ⟨(toV a).x + (toV b).x, (toV a).y + (toV b).y⟩ := by
  have h1 := add_ok ha.x hb.x
  have h2 := add_ok ha.y hb.y
  exact ⟨⟨h1.1, h2.1⟩, by simp only [toV, Kzq1.plus, h1.2, h2.2]⟩
theorem less_ok {a b : P} (ha : OkP a) (hb : OkP b) : OkP (Kzq1.less a b) ∧ toV (Kzq1.less a b) = ⟨(toV a).x - (toV b).x, (toV a).y - (toV b).y⟩ := by
  have h1 := sub_ok ha.x hb.x
  have h2 := sub_ok ha.y hb.y
  exact ⟨⟨h1.1, h2.1⟩, by simp only [toV, Kzq1.less, h1.2, h2.2]⟩
theorem times_ok {k : Q} {a : P} (hk : Ok k) (ha : OkP a) : OkP (Kzq1.times k a) ∧ toV (Kzq1.times k a) = ⟨val k * (toV a).x, val k * (toV a).y⟩ := by
  have h1 := mul_ok hk ha.x
  have h2 := mul_ok hk ha.y
  exact ⟨⟨h1.1, h2.1⟩, by simp only [toV, Kzq1.times, h1.2, h2.2]⟩
theorem cross_ok {a b : P} (ha : OkP a) (hb : OkP b) : Ok (Kzq1.cross a b) ∧ val (Kzq1.cross a b) = cross (toV a) (toV b) := by
  have h1 := mul_ok ha.x hb.y
  have h2 := mul_ok ha.y hb.x
  have h3 := sub_ok h1.1 h2.1
  exact ⟨h3.1, by simp only [Kzq1.cross, h3.2, h1.2, h2.2, cross, toV]⟩
theorem turn_ok {a b c : P} (ha : OkP a) (hb : OkP b) (hc : OkP c) : Ok (Kzq1.turn a b c) ∧ val (Kzq1.turn a b c) = turn (toV a) (toV b) (toV c) := by
  have h1 := less_ok hb ha
  have h2 := less_ok hc ha
  have h3 := cross_ok h1.1 h2.1
  refine ⟨h3.1, ?_⟩
  rw [Kzq1.turn, h3.2, h1.2, h2.2]; rfl
theorem origin_ok : OkP Kzq1.origin := ⟨zero_ok, zero_ok⟩
theorem origin_val : toV Kzq1.origin = ⟨0, 0⟩ := by simp only [toV, Kzq1.origin, zero_val]
def OkL (l : List P) : Prop := ∀ z ∈ l, OkP z
abbrev vs (l : List P) : List V := l.map toV

/-! ### Rows by their places -/
theorem path_len {α : Type} : ∀ l : List α, (path l).length = l.length - 1
  | [] => rfl
  | [_] => rfl
  | a :: b :: r => by
    have := path_len (b :: r)
    simp only [path, List.length_cons] at this ⊢
    omega
theorem path_at {α : Type} : ∀ (l : List α) (i : Nat) (h : i + 1 < l.length), (path l)[i]? = some (l[i]'(by omega), l[i + 1])
  | [], i, h => by simp at h
  | [_], i, h => by simp at h
  | a :: b :: r, 0, h => by simp [path]
  | a :: b :: r, i + 1, h => by
    have := path_at (b :: r) i (by simp at h ⊢; omega)
    simp only [path, List.getElem?_cons_succ, this]
    rfl
theorem cyc_len {α : Type} (l : List α) : (cyc l).length = l.length := by
  cases l with
  | nil => rfl
  | cons a l => show (path (a :: l ++ [a])).length = _; rw [path_len]; simp
theorem at0_lt {l : List P} {i : Nat} (h : i < l.length) : Kzq1.at0 l i = l[i] := by
  unfold Kzq1.at0
  rw [Nat.mod_eq_of_lt h]
  simp [List.getD_eq_getElem?_getD, h]
theorem at0_mod (l : List P) (i : Nat) : Kzq1.at0 l i = Kzq1.at0 l (i % l.length) := by
  unfold Kzq1.at0; rw [Nat.mod_mod]
theorem at0_add (l : List P) (i : Nat) : Kzq1.at0 l (i + l.length) = Kzq1.at0 l i := by
  rw [at0_mod, Nat.add_mod_right, ← at0_mod]
theorem cyc_at {l : List P} {i : Nat} (h : i < l.length) : (cyc l)[i]? = some (Kzq1.at0 l i, Kzq1.at0 l (i + 1)) := by
  cases l with
  | nil => simp at h
  | cons a l =>
    show (path (a :: l ++ [a]))[i]? = _
    rw [path_at _ _ (by simp at h ⊢; omega)]
    rw [at0_lt h]
    congr 2
    · rw [List.getElem_append_left]
    · by_cases h2 : i + 1 < (a :: l).length
      · rw [at0_lt h2, List.getElem_append_left]
      · have : i + 1 = (a :: l).length := by omega
        have e0 : Kzq1.at0 (a :: l) (i + 1) = a := by
          rw [this, at0_mod, Nat.mod_self, at0_lt (by simp)]; rfl
        rw [e0, List.getElem_append_right (by omega)]
        simp
theorem sides_cyc (l : List P) : Kzq1.sides l = cyc l := by
  apply List.ext_getElem?
  intro i
  by_cases h : i < l.length
  · rw [cyc_at h, Kzq1.sides, List.getElem?_map, List.getElem?_range h]; rfl
  · rw [List.getElem?_eq_none (by simp [Kzq1.sides]; omega), List.getElem?_eq_none (by rw [cyc_len]; omega)]
theorem cyc_map {α β : Type} (f : α → β) (l : List α) : cyc (l.map f) = (cyc l).map fun s => (f s.1, f s.2) := by
  cases l with
  | nil => rfl
  | cons a l =>
    show path (f a :: l.map f ++ [f a]) = (path (a :: l ++ [a])).map _
    rw [← path_map]; simp
end Geo
end

section
set_option linter.all false
namespace Geo
open Kzq1 (Q P)

theorem OkL.mono {l m : List P} (h : OkL l) (s : ∀ z ∈ m, z ∈ l) : OkL m := fun z hz => h z (s z hz)
theorem OkL.rot {l m : List P} (h : OkL l) (r : Rot l m) : OkL m := fun z hz => h z (r.mem.2 hz)
theorem OkL.append {l m : List P} (h : OkL l) (g : OkL m) : OkL (l ++ m) := fun z hz => by
  simp only [List.mem_append] at hz
  rcases hz with hz | hz
  · exact h z hz
  · exact g z hz
theorem vs_inj : ∀ {l m : List P}, OkL l → OkL m → vs l = vs m → l = m
  | [], [], _, _, _ => rfl
  | [], b :: m, _, _, h => by simp [vs] at h
  | a :: l, [], _, _, h => by simp [vs] at h
  | a :: l, b :: m, h1, h2, h => by
    simp only [vs, List.map_cons, List.cons.injEq] at h
    rw [toV_inj (h1 a (by simp)) (h2 b (by simp)) h.1, vs_inj (fun z hz => h1 z (by simp [hz])) (fun z hz => h2 z (by simp [hz])) h.2]

/-! ### Size -/
theorem sum_ok {l : List Q} (h : ∀ q ∈ l, Ok q) : Ok (Kzq1.sum l) ∧ val (Kzq1.sum l) = (l.map val).foldr (· + ·) 0 := by
  have key : ∀ (l : List Q) (a : Q), (∀ q ∈ l, Ok q) → Ok a → Ok (l.foldl Kzq1.add a) ∧ val (l.foldl Kzq1.add a) = val a + (l.map val).foldr (· + ·) 0 := by
    intro l
    induction l with
    | nil => intro a _ ha; exact ⟨ha, by simp only [List.foldl_nil, List.map_nil, List.foldr_nil]; grind⟩
    | cons b l ih =>
      intro a hl ha
      have hb := add_ok ha (hl b (by simp))
      have := ih (Kzq1.add a b) (fun q hq => hl q (by simp [hq])) hb.1
      refine ⟨this.1, ?_⟩
      rw [List.foldl_cons, this.2, hb.2, List.map_cons, List.foldr_cons]; grind
  have := key l Kzq1.zero h zero_ok
  refine ⟨this.1, ?_⟩
  rw [Kzq1.sum, this.2, zero_val]; grind
theorem cyc_ok {l : List P} (h : OkL l) {s : P × P} (hs : s ∈ cyc l) : OkP s.1 ∧ OkP s.2 := ⟨h _ (cyc_both hs).1, h _ (cyc_both hs).2⟩
theorem psum_map {l : List (P × P)} (h : ∀ s ∈ l, OkP s.1 ∧ OkP s.2) : (∀ q ∈ l.map (fun s => Kzq1.cross s.1 s.2), Ok q) ∧
    ((l.map (fun s => Kzq1.cross s.1 s.2)).map val).foldr (· + ·) 0 = psum (l.map fun s => (toV s.1, toV s.2)) := by
  induction l with
  | nil => exact ⟨by simp, rfl⟩
  | cons s l ih =>
    have hs := h s (by simp)
    have c := cross_ok hs.1 hs.2
    have i := ih (fun t ht => h t (by simp [ht]))
    constructor
    · intro q hq
      simp only [List.map_cons, List.mem_cons] at hq
      rcases hq with rfl | hq
      · exact c.1
      · exact i.1 q hq
    · simp only [List.map_cons, List.foldr_cons, psum_cons, c.2, i.2]
theorem size_ok {l : List P} (h : OkL l) : Ok (Kzq1.size l) ∧ val (Kzq1.size l) = 1 / 2 * S (vs l) := by
  have h1 := psum_map (l := cyc l) (fun s hs => cyc_ok h hs)
  have h2 := sum_ok h1.1
  rw [h1.2] at h2
  have h3 := mul_ok half_ok h2.1
  rw [← sides_cyc] at h3
  refine ⟨h3.1, ?_⟩
  rw [Kzq1.size, h3.2, half_val, sides_cyc, h2.2, S, vs, cyc_map]

/-! ### Strictly convex -/
theorem rot_at0 {l : List P} {i k : Nat} (hi : i < l.length) (hk : k < l.length) : (l.drop i ++ l.take i)[k]? = some (Kzq1.at0 l (i + k)) := by
  by_cases h : i + k < l.length
  · rw [List.getElem?_append_left (by simp; omega), List.getElem?_drop, at0_lt h]
    exact List.getElem?_eq_getElem h
  · have h2 : i + k - l.length < l.length := by omega
    rw [List.getElem?_append_right (by simp; omega), List.length_drop, List.getElem?_take_of_lt (by omega)]
    have e : k - (l.length - i) = i + k - l.length := by omega
    rw [e]
    have e2 : i + k = (i + k - l.length) + l.length := by omega
    have e3 : Kzq1.at0 l (i + k) = Kzq1.at0 l (i + k - l.length) := by
      conv => lhs; rw [e2]
      exact at0_add _ _
    rw [e3, at0_lt h2]
    exact List.getElem?_eq_getElem h2
theorem rot_of (l : List P) (i : Nat) : Rot l (l.drop i ++ l.take i) := ⟨l.take i, l.drop i, by simp, rfl⟩
theorem convex_iff {l : List P} (h : OkL l) : Kzq1.convex l = true ↔ 3 ≤ l.length ∧ T3 (vs l) := by
  unfold Kzq1.convex
  rw [Bool.and_eq_true, decide_eq_true_iff]
  refine and_congr_right fun hl => ?_
  simp only [List.all_eq_true, List.mem_range, Bool.or_eq_true, beq_iff_eq]
  have m : ∀ i, OkP (Kzq1.at0 l i) := fun i => by
    have h1 : i % l.length < l.length := Nat.mod_lt _ (by omega)
    rw [at0_mod, at0_lt h1]
    exact h _ (List.getElem_mem _)
  have hpos : ∀ i j k, Kzq1.pos (Kzq1.turn (Kzq1.at0 l i) (Kzq1.at0 l j) (Kzq1.at0 l k)) = true ↔ 0 < turn (toV (Kzq1.at0 l i)) (toV (Kzq1.at0 l j)) (toV (Kzq1.at0 l k)) := by
    intro i j k
    have t := turn_ok (m i) (m j) (m k)
    rw [pos_iff t.1, t.2]
  constructor
  · intro hc
    apply conv_T3
    intro a b r hr v hv
    obtain ⟨x, y, e1, e2⟩ := hr
    -- the row begun at i
    have hx : vs l = vs (l.take x.length) ++ vs (l.drop x.length) := by simp [vs, ← List.map_append]
    have hxl : x.length ≤ l.length := by
      have := congrArg List.length e1
      simp [vs] at this; omega
    have e3 : x = vs (l.take x.length) ∧ y = vs (l.drop x.length) := by
      rw [e1] at hx
      exact List.append_inj hx (by simp [vs]; omega)
    by_cases hxe : x.length = l.length
    · -- begun at the start
      have hy : y = [] := by rw [e3.2, hxe]; simp [vs]
      have ex : a :: b :: r = vs l := by rw [e2, hy, e1, hy]; simp
      obtain ⟨k, hk, rfl⟩ := List.getElem_of_mem hv
      have hlen : r.length + 2 = l.length := by
        have := congrArg List.length ex; simp [vs] at this; omega
      have g : ∀ n, n < l.length → (a :: b :: r)[n]? = some (toV (Kzq1.at0 l n)) := by
        intro n hn
        rw [ex, List.getElem?_map, List.getElem?_eq_getElem hn, at0_lt hn]; rfl
      have g0 := g 0 (by omega)
      have g1 := g 1 (by omega)
      have g2 := g (k + 2) (by omega)
      simp only [List.getElem?_cons_zero, List.getElem?_cons_succ, Option.some.injEq] at g0 g1 g2
      rw [List.getElem?_eq_getElem hk] at g2
      simp only [Option.some.injEq] at g2
      have := hc 0 (by omega) (k + 2) (by omega)
      rw [g0, g1, g2, ← hpos]
      rcases this with (h1 | h1) | h1
      · omega
      · rw [Nat.mod_eq_of_lt (by omega)] at h1; omega
      · exact h1
    · have hi : x.length < l.length := by omega
      have ex : a :: b :: r = vs (l.drop x.length ++ l.take x.length) := by
        rw [e2]
        conv => lhs; rw [e3.1, e3.2]
        simp [vs]
      obtain ⟨k, hk, rfl⟩ := List.getElem_of_mem hv
      have hlen : r.length + 2 = l.length := by
        have := congrArg List.length ex; simp [vs] at this; omega
      have g : ∀ n, n < l.length → (a :: b :: r)[n]? = some (toV (Kzq1.at0 l (x.length + n))) := by
        intro n hn
        rw [ex, List.getElem?_map, rot_at0 hi hn]; rfl
      have g0 := g 0 (by omega)
      have g1 := g 1 (by omega)
      have g2 := g (k + 2) (by omega)
      simp only [List.getElem?_cons_zero, List.getElem?_cons_succ, Option.some.injEq] at g0 g1 g2
      rw [List.getElem?_eq_getElem hk] at g2
      simp only [Option.some.injEq] at g2
      have hj : (x.length + (k + 2)) % l.length < l.length := Nat.mod_lt _ (by omega)
      have := hc x.length hi ((x.length + (k + 2)) % l.length) hj
      rw [g0, g1, g2, ← hpos]
      rw [← at0_mod] at this
      rcases this with (h1 | h1) | h1
      · exfalso
        by_cases hh : x.length + (k + 2) < l.length
        · rw [Nat.mod_eq_of_lt hh] at h1; omega
        · rw [Nat.mod_eq_sub_mod (by omega), Nat.mod_eq_of_lt (by omega)] at h1; omega
      · exfalso
        by_cases hh2 : x.length + 1 < l.length
        · rw [Nat.mod_eq_of_lt hh2] at h1
          by_cases hh : x.length + (k + 2) < l.length
          · rw [Nat.mod_eq_of_lt hh] at h1; omega
          · rw [Nat.mod_eq_sub_mod (by omega), Nat.mod_eq_of_lt (by omega)] at h1; omega
        · have : x.length + 1 = l.length := by omega
          rw [this, Nat.mod_self] at h1
          rw [Nat.mod_eq_sub_mod (by omega), Nat.mod_eq_of_lt (by omega)] at h1; omega
      · simpa using h1
  · intro t i hi j hj
    by_cases h1 : j = i
    · exact .inl (.inl h1)
    by_cases h2 : j = (i + 1) % l.length
    · exact .inl (.inr h2)
    right
    rw [hpos]
    have r := (rot_of l i).map toV
    have hr : (l.drop i ++ l.take i).length = l.length := by simp; omega
    obtain ⟨a, b, c, r', hm⟩ : ∃ a b c r', l.drop i ++ l.take i = a :: b :: c :: r' := by
      rcases hx : l.drop i ++ l.take i with _ | ⟨a, _ | ⟨b, _ | ⟨c, r'⟩⟩⟩
      · rw [hx] at hr; simp at hr; omega
      · rw [hx] at hr; simp at hr; omega
      · rw [hx] at hr; simp at hr; omega
      · exact ⟨a, b, c, r', rfl⟩
    · rw [hm] at hr
      have g : ∀ n, n < l.length → (a :: b :: c :: r')[n]? = some (Kzq1.at0 l (i + n)) := by
        intro n hn
        rw [← hm, rot_at0 hi hn]
      have g0 := g 0 (by omega)
      have g1 := g 1 (by omega)
      simp only [List.getElem?_cons_zero, List.getElem?_cons_succ, Option.some.injEq] at g0 g1
      rw [hm] at r
      have e := t.edge_pos r
      have ej : ∃ n, 2 ≤ n ∧ n < l.length ∧ Kzq1.at0 l j = Kzq1.at0 l (i + n) := by
        by_cases hji : i < j
        · refine ⟨j - i, ?_, by omega, by congr 1; omega⟩
          have : j ≠ i + 1 := by
            intro e
            apply h2
            rw [← e, Nat.mod_eq_of_lt hj]
          omega
        · refine ⟨j + l.length - i, ?_, by omega, ?_⟩
          · have : ¬ (j = 0 ∧ i + 1 = l.length) := by
              rintro ⟨e1, e2⟩
              apply h2
              rw [e2, Nat.mod_self, e1]
            omega
          · have : i + (j + l.length - i) = j + l.length := by omega
            rw [this, at0_add]
      obtain ⟨n, n1, n2, n3⟩ := ej
      have g2 := g n n2
      rw [← n3] at g2
      have hmem : toV (Kzq1.at0 l j) ∈ (c :: r').map toV := by
        refine List.mem_map.2 ⟨_, ?_, rfl⟩
        obtain ⟨n', rfl⟩ : ∃ n', n = n' + 2 := ⟨n - 2, by omega⟩
        simp only [List.getElem?_cons_succ] at g2
        exact List.mem_of_getElem? g2
      have := e _ hmem
      rw [Nat.add_zero] at g0
      rw [← g0, ← g1]; exact this
end Geo
end

section
set_option linter.all false
namespace Geo
open Kzq1 (Q P)

theorem nonneg_of_not_pos {x : Rat} (h : ¬ 0 < x) : x ≤ 0 := by grind

/-! ### What lies on the left of a line -/
def edgeP (s : P × P) (e : P × P) : List P :=
  (if Kzq1.lt (Kzq1.turn s.1 s.2 e.1) Kzq1.zero then [] else [e.1]) ++
  if (Kzq1.pos (Kzq1.turn s.1 s.2 e.1) && Kzq1.lt (Kzq1.turn s.1 s.2 e.2) Kzq1.zero) || (Kzq1.lt (Kzq1.turn s.1 s.2 e.1) Kzq1.zero && Kzq1.pos (Kzq1.turn s.1 s.2 e.2)) then [Kzq1.onLine s e.1 e.2] else []
theorem clip_cyc (s : P × P) (l : List P) : Kzq1.clip s l = (cyc l).flatMap (edgeP s) := by
  rw [← sides_cyc, Kzq1.sides, List.flatMap_map]; rfl
theorem onLine_ok {s : P × P} {a b : P} (h1 : OkP s.1) (h2 : OkP s.2) (ha : OkP a) (hb : OkP b) :
    OkP (Kzq1.onLine s a b) ∧ toV (Kzq1.onLine s a b) = crossing (line (toV s.1) (toV s.2)) (toV a) (toV b) := by
  have tu := turn_ok h1 h2 ha
  have tv := turn_ok h1 h2 hb
  have k := div_ok tu.1 (sub_ok tu.1 tv.1).1
  have d := less_ok hb ha
  have t := times_ok k.1 d.1
  have p := plus_ok ha t.1
  refine ⟨p.1, ?_⟩
  rw [Kzq1.onLine, p.2, t.2, k.2, d.2, (sub_ok tu.1 tv.1).2, tu.2, tv.2]
  simp only [crossing, line_at, mix]
  ext <;> simp only <;> grind
theorem edgeP_ok {s e : P × P} (h1 : OkP s.1) (h2 : OkP s.2) (ha : OkP e.1) (hb : OkP e.2) :
    OkL (edgeP s e) ∧ vs (edgeP s e) = edge (line (toV s.1) (toV s.2)) (toV e.1, toV e.2) := by
  have tu := turn_ok h1 h2 ha
  have tv := turn_ok h1 h2 hb
  have o := onLine_ok h1 h2 ha hb
  have lu := lt_iff tu.1 zero_ok
  have lv := lt_iff tv.1 zero_ok
  have pu := pos_iff tu.1
  have pv := pos_iff tv.1
  rw [zero_val] at lu lv
  rw [tu.2] at lu pu
  rw [tv.2] at lv pv
  have hc : ((Kzq1.pos (Kzq1.turn s.1 s.2 e.1) && Kzq1.lt (Kzq1.turn s.1 s.2 e.2) Kzq1.zero) || (Kzq1.lt (Kzq1.turn s.1 s.2 e.1) Kzq1.zero && Kzq1.pos (Kzq1.turn s.1 s.2 e.2))) = true ↔
      ((0 < turn (toV s.1) (toV s.2) (toV e.1) ∧ turn (toV s.1) (toV s.2) (toV e.2) < 0) ∨ (turn (toV s.1) (toV s.2) (toV e.1) < 0 ∧ 0 < turn (toV s.1) (toV s.2) (toV e.2))) := by
    rw [Bool.or_eq_true, Bool.and_eq_true, Bool.and_eq_true, lu, lv, pu, pv]
  constructor
  · intro z hz
    rw [edgeP, List.mem_append] at hz
    rcases hz with hz | hz
    · split at hz
      · simp at hz
      · simp at hz; subst hz; exact ha
    · split at hz
      · simp at hz; subst hz; exact o.1
      · simp at hz
  · unfold edgeP edge parts
    simp only [line_at, decide_eq_true_iff]
    rw [vs, List.map_append]
    congr 1
    · by_cases h : turn (toV s.1) (toV s.2) (toV e.1) < 0
      · rw [if_pos (lu.2 h), if_pos h]; rfl
      · rw [if_neg (fun x => h (lu.1 x)), if_neg h]; rfl
    · by_cases h : (0 < turn (toV s.1) (toV s.2) (toV e.1) ∧ turn (toV s.1) (toV s.2) (toV e.2) < 0) ∨ (turn (toV s.1) (toV s.2) (toV e.1) < 0 ∧ 0 < turn (toV s.1) (toV s.2) (toV e.2))
      · rw [if_pos (hc.2 h), if_pos h]
        show [toV _] = _
        rw [o.2]
      · rw [if_neg (fun x => h (hc.1 x)), if_neg h]; rfl
theorem clip_ok {s : P × P} (h1 : OkP s.1) (h2 : OkP s.2) {l : List P} (hl : OkL l) :
    OkL (Kzq1.clip s l) ∧ vs (Kzq1.clip s l) = clip (line (toV s.1) (toV s.2)) (vs l) := by
  rw [clip_cyc]
  constructor
  · intro z hz
    rw [List.mem_flatMap] at hz
    obtain ⟨e, he, hz⟩ := hz
    have := cyc_ok hl he
    exact (edgeP_ok h1 h2 this.1 this.2).1 z hz
  · rw [clip, vs, vs, cyc_map, List.flatMap_map, List.map_flatMap]
    have : ∀ c : List (P × P), (∀ e ∈ c, OkP e.1 ∧ OkP e.2) → c.flatMap (fun a => List.map toV (edgeP s a)) = c.flatMap (fun a => edge (line (toV s.1) (toV s.2)) (toV a.1, toV a.2)) := by
      intro c
      induction c with
      | nil => intro _; rfl
      | cons e c ih =>
        intro h
        have he := h e (by simp)
        rw [List.flatMap_cons, List.flatMap_cons, ih (fun e he => h e (by simp [he]))]
        congr 1
        exact (edgeP_ok h1 h2 he.1 he.2).2
    exact this _ (fun e he => cyc_ok hl he)
def cutBy (q p : List P) : List P := (Kzq1.sides q).foldl (fun l s => Kzq1.clip s l) p
theorem cutBy_ok {p q : List P} (hp : OkL p) (hq : OkL q) : OkL (cutBy q p) ∧ vs (cutBy q p) = clips (sidesOf (vs q)) (vs p) := by
  have key : ∀ (c : List (P × P)) (l : List P), OkL l → (∀ e ∈ c, OkP e.1 ∧ OkP e.2) →
      OkL (c.foldl (fun l s => Kzq1.clip s l) l) ∧ vs (c.foldl (fun l s => Kzq1.clip s l) l) = clips (c.map fun s => line (toV s.1) (toV s.2)) (vs l) := by
    intro c
    induction c with
    | nil => intro l hl _; exact ⟨hl, rfl⟩
    | cons e c ih =>
      intro l hl h
      have he := h e (by simp)
      have k := clip_ok he.1 he.2 hl
      have := ih (Kzq1.clip e l) k.1 (fun e he => h e (by simp [he]))
      refine ⟨this.1, ?_⟩
      rw [List.foldl_cons, this.2, List.map_cons, clips, k.2]
  rw [cutBy, sides_cyc]
  have := key (cyc q) p hp (fun e he => cyc_ok hq he)
  refine ⟨this.1, ?_⟩
  rw [this.2, sidesOf, vs, cyc_map, List.map_map]; rfl

/-! ### As a piece is told -/
def Begun : List V → Prop
  | [] => True
  | a :: r => ∀ v ∈ r, Bef a v
theorem begun_uniq {l m : List V} (h : Rot l m) (hl : Begun l) (hm : Begun m) (hn : l.Nodup) : l = m := by
  obtain ⟨a, b, rfl, rfl⟩ := h
  cases a with
  | nil => simp
  | cons x a =>
    cases b with
    | nil => simp
    | cons y b =>
      have h1 : Bef x y := hl y (by simp)
      have h2 : Bef y x := hm x (by simp)
      exact (h1.asymm h2).elim
theorem before_iff {a b : P} (ha : OkP a) (hb : OkP b) : Kzq1.before a b = true ↔ Bef (toV a) (toV b) := by
  unfold Kzq1.before Bef
  rw [Bool.or_eq_true, Bool.and_eq_true, lt_iff ha.x hb.x, beq_iff ha.x hb.x, lt_iff ha.y hb.y]; rfl
theorem at0_ok {l : List P} (hl : OkL l) (h : l ≠ []) (i : Nat) : OkP (Kzq1.at0 l i) := by
  have h0 : 0 < l.length := by cases l with | nil => exact absurd rfl h | cons _ _ => simp
  have h1 : i % l.length < l.length := Nat.mod_lt _ h0
  rw [at0_mod, at0_lt h1]
  exact hl _ (List.getElem_mem _)
theorem begunWith_ok {l : List P} (hl : OkL l) (hn : (vs l).Nodup) : Rot l (Kzq1.begunWith l) ∧ Begun (vs (Kzq1.begunWith l)) := by
  by_cases he : l = []
  · subst he; exact ⟨Rot.refl _, trivial⟩
  have h0 : 0 < l.length := by cases l with | nil => exact absurd rfl he | cons _ _ => simp
  have key : ∀ n, n ≤ l.length → ∃ i, (List.range n).foldl (fun a j => if Kzq1.before (Kzq1.at0 l j) (Kzq1.at0 l a) then j else a) 0 = i ∧ i < l.length ∧
      ∀ j, j < n → ¬ Bef (toV (Kzq1.at0 l j)) (toV (Kzq1.at0 l i)) := by
    intro n
    induction n with
    | zero => intro _; exact ⟨0, rfl, h0, by simp⟩
    | succ n ih =>
      intro hn
      obtain ⟨i, e, hi, hm⟩ := ih (by omega)
      rw [List.range_succ, List.foldl_append, e]
      simp only [List.foldl_cons, List.foldl_nil]
      have b := before_iff (at0_ok hl he n) (at0_ok hl he i)
      by_cases hb : Bef (toV (Kzq1.at0 l n)) (toV (Kzq1.at0 l i))
      · refine ⟨n, if_pos (b.2 hb), by omega, ?_⟩
        intro j hj hc
        by_cases hjn : j = n
        · subst hjn; exact hc.irrefl
        · exact hm j (by omega) (hc.trans hb)
      · refine ⟨i, if_neg (fun h => hb (b.1 h)), hi, ?_⟩
        intro j hj hc
        by_cases hjn : j = n
        · subst hjn; exact hb hc
        · exact hm j (by omega) hc
  obtain ⟨i, e, hi, hm⟩ := key l.length (Nat.le_refl _)
  have eb : Kzq1.begunWith l = l.drop i ++ l.take i := by
    unfold Kzq1.begunWith; rw [e]
  rw [eb]
  refine ⟨rot_of l i, ?_⟩
  have hd : l.drop i = l[i] :: l.drop (i + 1) := List.drop_eq_getElem_cons hi
  have nd : (vs (l.drop i ++ l.take i)).Nodup := ((rot_of l i).map toV).perm.nodup_iff.1 hn
  rw [hd] at nd ⊢
  simp only [vs, List.cons_append, List.map_cons] at nd ⊢
  rw [List.nodup_cons] at nd
  intro v hv
  obtain ⟨p, hp, rfl⟩ := List.mem_map.1 hv
  have hpl : p ∈ l := by
    simp only [List.mem_append] at hp
    rcases hp with hp | hp
    · exact List.mem_of_mem_drop hp
    · exact List.mem_of_mem_take hp
  obtain ⟨j, hj, rfl⟩ := List.getElem_of_mem hpl
  have := hm j hj
  rw [at0_lt hj, at0_lt hi] at this
  rcases Bef.total (toV l[i]) (toV l[j]) with h | h | h
  · exact h
  · rw [← h] at hv; exact absurd hv nd.1
  · exact absurd h this

theorem range_at0 (l : List P) : (List.range l.length).map (Kzq1.at0 l) = l := by
  apply List.ext_getElem
  · simp
  · intro i h1 h2
    simp only [List.getElem_map, List.getElem_range]
    exact at0_lt h2
theorem filterMap_all {α β : Type} {l : List α} {f : α → Option β} {g : α → β} (h : ∀ a ∈ l, f a = some (g a)) : l.filterMap f = l.map g := by
  induction l with
  | nil => rfl
  | cons a l ih =>
    rw [List.filterMap_cons, h a (by simp)]
    simp only [List.map_cons]
    rw [ih (fun b hb => h b (by simp [hb]))]
theorem filterMap_none {α β : Type} {l : List α} {f : α → Option β} (h : ∀ a ∈ l, f a = none) : l.filterMap f = [] := by
  induction l with
  | nil => rfl
  | cons a l ih =>
    rw [List.filterMap_cons, h a (by simp)]
    exact ih (fun b hb => h b (by simp [hb]))
theorem T3.nodup {l : List V} (h : T3 l) (hl : 3 ≤ l.length) : l.Nodup := by
  match l, hl with
  | a :: b :: c :: r, hl =>
    have key : ∀ m, (∃ u, a :: b :: c :: r = u ++ m) → m.Nodup := by
      intro m
      induction m with
      | nil => simp
      | cons x m ih =>
        rintro ⟨u, e⟩
        rw [List.nodup_cons]
        refine ⟨?_, ih ⟨u ++ [x], by simp [e]⟩⟩
        have hr : Rot (a :: b :: c :: r) (x :: (m ++ u)) := ⟨u, x :: m, e, by simp⟩
        have := (hr.t3 h).not_mem (by have := hr.length; simp at this ⊢; omega)
        exact fun hx => this (by simp [hx])
    exact key _ ⟨[], rfl⟩
theorem formed_t3 {l : List P} (hl : OkL l) (t : T3 (vs l)) (h3 : 3 ≤ l.length) : Kzq1.formed l = Kzq1.begunWith l := by
  have h3' : 3 ≤ (vs l).length := by simp [vs]; omega
  have ne : l ≠ [] := by intro e; subst e; simp at h3
  have e1 : Kzq1.unlike l = l := by
    unfold Kzq1.unlike
    rw [filterMap_all (g := Kzq1.at0 l), range_at0]
    intro i hi
    rw [List.mem_range] at hi
    have hm : (Kzq1.at0 l i, Kzq1.at0 l (i + 1)) ∈ cyc l := List.mem_of_getElem? (cyc_at hi)
    have hm2 : (toV (Kzq1.at0 l i), toV (Kzq1.at0 l (i + 1))) ∈ cyc (vs l) := by
      rw [vs, cyc_map]; exact List.mem_map.2 ⟨_, hm, rfl⟩
    have := t.neighbours_ne h3' hm2
    rw [if_neg]
    intro e; apply this; rw [e]
  have e2 : Kzq1.straightened l = l := by
    unfold Kzq1.straightened
    rw [filterMap_all (g := Kzq1.at0 l), range_at0]
    intro i hi
    rw [List.mem_range] at hi
    have tt := turn_ok (at0_ok hl ne (i + l.length - 1)) (at0_ok hl ne i) (at0_ok hl ne (i + 1))
    have hz := isZero_iff tt.1
    rw [tt.2] at hz
    rw [if_neg]
    intro hzz
    have hz0 := hz.1 hzz
    -- the row begun at the one ahead of i
    have hk : (i + l.length - 1) % l.length < l.length := Nat.mod_lt _ (by omega)
    generalize hkk : (i + l.length - 1) % l.length = k at hk
    have r := (rot_of l k).map toV
    have hr : (l.drop k ++ l.take k).length = l.length := by simp; omega
    obtain ⟨a, b, c, r', hm⟩ : ∃ a b c r', l.drop k ++ l.take k = a :: b :: c :: r' := by
      rcases hx : l.drop k ++ l.take k with _ | ⟨a, _ | ⟨b, _ | ⟨c, r'⟩⟩⟩
      · rw [hx] at hr; simp at hr; omega
      · rw [hx] at hr; simp at hr; omega
      · rw [hx] at hr; simp at hr; omega
      · exact ⟨a, b, c, r', rfl⟩
    have g : ∀ n, n < l.length → (a :: b :: c :: r')[n]? = some (Kzq1.at0 l (k + n)) := by
      intro n hn
      rw [← hm, rot_at0 hk hn]
    have g0 := g 0 (by omega)
    have g1 := g 1 (by omega)
    have g2 := g 2 (by omega)
    simp only [List.getElem?_cons_zero, List.getElem?_cons_succ, Option.some.injEq, Nat.add_zero] at g0 g1 g2
    have ek : ∀ n, Kzq1.at0 l (k + n) = Kzq1.at0 l (i + l.length - 1 + n) := by
      intro n
      rw [at0_mod l (k + n), at0_mod l (i + l.length - 1 + n), ← hkk, Nat.mod_add_mod]
    have k0 : Kzq1.at0 l k = Kzq1.at0 l (i + l.length - 1) := ek 0
    have k1 : Kzq1.at0 l (k + 1) = Kzq1.at0 l i := by
      rw [ek 1]
      have : i + l.length - 1 + 1 = i + l.length := by omega
      rw [this, at0_add]
    have k2 : Kzq1.at0 l (k + 2) = Kzq1.at0 l (i + 1) := by
      rw [ek 2]
      have : i + l.length - 1 + 2 = (i + 1) + l.length := by omega
      rw [this, at0_add]
    rw [hm] at r
    have tr := r.t3 t
    simp only [List.map_cons] at tr
    have := tr.turn3 (a := toV a) (b := toV b) (c := toV c) (by simp)
    rw [g0, g1, g2, k0, k1, k2, hz0] at this
    exact Rat.lt_irrefl this
  unfold Kzq1.formed
  rw [e1, e2]
  simp only
  rw [if_neg (by omega)]
theorem formed_flat {l : List P} (hl : OkL l) {f : F} (hf : f.Real) (h : ∀ v ∈ vs l, f.at v = 0) : Kzq1.formed l = [] := by
  have hs : ∀ z ∈ Kzq1.unlike l, z ∈ l := by
    intro z hz
    unfold Kzq1.unlike at hz
    rw [List.mem_filterMap] at hz
    obtain ⟨i, hi, hz⟩ := hz
    rw [List.mem_range] at hi
    split at hz
    · simp at hz
    · simp at hz; subst hz
      rw [at0_lt hi]; exact List.getElem_mem _
  have hm : OkL (Kzq1.unlike l) := hl.mono hs
  have hv : ∀ v ∈ vs (Kzq1.unlike l), f.at v = 0 := by
    intro v hv
    obtain ⟨p, hp, rfl⟩ := List.mem_map.1 hv
    exact h _ (List.mem_map.2 ⟨p, hs p hp, rfl⟩)
  have e2 : ∀ m, OkL m → (∀ v ∈ vs m, f.at v = 0) → Kzq1.straightened m = [] := by
    intro m hm hv
    unfold Kzq1.straightened
    apply filterMap_none
    intro i hi
    rw [List.mem_range] at hi
    have ne : m ≠ [] := by intro e; subst e; simp at hi
    have z : ∀ j, f.at (toV (Kzq1.at0 m j)) = 0 := by
      intro j
      have h1 : j % m.length < m.length := Nat.mod_lt _ (by omega)
      rw [at0_mod, at0_lt h1]
      exact hv _ (List.mem_map.2 ⟨_, List.getElem_mem _, rfl⟩)
    have tt := turn_ok (at0_ok hm ne (i + m.length - 1)) (at0_ok hm ne i) (at0_ok hm ne (i + 1))
    rw [if_pos]
    rw [isZero_iff tt.1, tt.2]
    obtain ⟨a, b, hab, e⟩ := hf
    exact collinear hab (by rw [← e]; exact z _) (by rw [← e]; exact z _) (by rw [← e]; exact z _)
  unfold Kzq1.formed
  rw [e2 _ hm hv]
  rfl

/-- a piece: strictly convex, told in reduced fractions -/
structure Pc (p : List P) : Prop where
  ok : OkL p
  t3 : T3 (vs p)
  len : 3 ≤ p.length
theorem Pc.len' {p : List P} (h : Pc p) : 3 ≤ (vs p).length := by simp [vs]; exact h.len
theorem Pc.rot {p q : List P} (h : Pc p) (r : Rot p q) : Pc q := ⟨h.ok.rot r, (r.map toV).t3 h.t3, by rw [← r.length]; exact h.len⟩
theorem Pc.nodup {p : List P} (h : Pc p) : (vs p).Nodup := h.t3.nodup h.len'
theorem convex_pc {p : List P} (h : OkL p) : Kzq1.convex p = true ↔ Pc p := by
  rw [convex_iff h]
  exact ⟨fun k => ⟨h, k.2, k.1⟩, fun k => ⟨k.len, k.t3⟩⟩
theorem Pc.begun {p : List P} (h : Pc p) : Rot p (Kzq1.begunWith p) ∧ Begun (vs (Kzq1.begunWith p)) ∧ Pc (Kzq1.begunWith p) :=
  have b := begunWith_ok h.ok h.nodup
  ⟨b.1, b.2, h.rot b.1⟩
theorem Pc.formed {p : List P} (h : Pc p) : Kzq1.formed p = Kzq1.begunWith p := formed_t3 h.ok h.t3 h.len
/-- the same piece, begun as it's told, is the same row -/
theorem same_told {p q : List P} (hp : OkL p) (hq : OkL q) (hn : (vs p).Nodup) (r : Rot (vs p) (vs q)) (bp : Begun (vs p)) (bq : Begun (vs q)) : p = q :=
  vs_inj hp hq (begun_uniq r bp bq hn)

/-! ### What lies in both -/
theorem meet_gone {p q : List P} (hp : Pc p) (hq : Pc q) (g : Gone (sidesOf (vs q)) (vs p)) : Kzq1.meet p q = [] := by
  have c := cutBy_ok hp.ok hq.ok
  obtain ⟨f, hf, hz⟩ := gone_flat (sides_real hq.t3 hq.len') g
  show Kzq1.formed (cutBy q p) = []
  exact formed_flat c.1 hf (by rw [c.2]; exact hz)
theorem meet_left {p q : List P} (hp : Pc p) (hq : Pc q) (g : ¬ Gone (sidesOf (vs q)) (vs p)) : Pc (cutBy q p) ∧ Kzq1.meet p q = Kzq1.begunWith (cutBy q p) := by
  have c := cutBy_ok hp.ok hq.ok
  rcases gone_or (sidesOf (vs q)) hp.t3 hp.len' with h | ⟨h1, h2⟩
  · exact absurd h g
  · rw [← c.2] at h1 h2
    have pc : Pc (cutBy q p) := ⟨c.1, h1, by simpa [vs] using h2⟩
    exact ⟨pc, pc.formed⟩
theorem meet_nil {p q : List P} (hp : Pc p) (hq : Pc q) : Kzq1.meet p q = [] ↔ Gone (sidesOf (vs q)) (vs p) := by
  constructor
  · intro h
    false_or_by_contra
    rename_i g
    have k := meet_left hp hq g
    have := (k.1.begun.2.2).len
    rw [← k.2, h] at this
    simp at this
  · exact meet_gone hp hq
theorem meet_pc {p q : List P} (hp : Pc p) (hq : Pc q) (h : Kzq1.meet p q ≠ []) : Pc (Kzq1.meet p q) ∧ Begun (vs (Kzq1.meet p q)) ∧ Rot (clips (sidesOf (vs q)) (vs p)) (vs (Kzq1.meet p q)) := by
  have k := meet_left hp hq (fun g => h (meet_gone hp hq g))
  have b := k.1.begun
  rw [k.2]
  refine ⟨b.2.2, b.2.1, ?_⟩
  rw [← (cutBy_ok hp.ok hq.ok).2]
  exact b.1.map toV

/-! ### The hull -/
theorem insert_ok {a : P} (ha : OkP a) : ∀ {l : List P}, OkL l → OkL (Kzq1.insert a l) ∧ vs (Kzq1.insert a l) = ins (toV a) (vs l)
  | [], _ => ⟨by intro z hz; simp [Kzq1.insert] at hz; subst hz; exact ha, rfl⟩
  | b :: l, h => by
    have hb := h b (by simp)
    have i := insert_ok ha (l := l) (fun z hz => h z (by simp [hz]))
    have hbf := before_iff ha hb
    simp only [Kzq1.insert]
    show _ ∧ _ = ins (toV a) (toV b :: vs l)
    simp only [ins]
    by_cases h1 : Bef (toV a) (toV b)
    · rw [if_pos (hbf.2 h1), if_pos h1]
      refine ⟨?_, rfl⟩
      intro z hz
      simp only [List.mem_cons] at hz
      rcases hz with rfl | hz
      · exact ha
      · exact h z (by simpa using hz)
    · rw [if_neg (fun x => h1 (hbf.1 x)), if_neg h1]
      by_cases h2 : a = b
      · rw [if_pos h2, if_pos (by rw [h2])]
        exact ⟨h, rfl⟩
      · rw [if_neg h2, if_neg (fun e => h2 (toV_inj ha hb e))]
        refine ⟨?_, by show toV b :: vs (Kzq1.insert a l) = _; rw [i.2]⟩
        intro z hz
        simp only [List.mem_cons] at hz
        rcases hz with rfl | hz
        · exact hb
        · exact i.1 z hz
theorem sort_ok : ∀ {l : List P}, OkL l → OkL (l.foldr Kzq1.insert []) ∧ vs (l.foldr Kzq1.insert []) = sortV (vs l)
  | [], h => ⟨h, rfl⟩
  | a :: l, h => by
    have i := sort_ok (l := l) (fun z hz => h z (by simp [hz]))
    have k := insert_ok (h a (by simp)) i.1
    refine ⟨k.1, ?_⟩
    show vs (Kzq1.insert a (l.foldr Kzq1.insert [])) = _
    rw [k.2, i.2]; rfl

def popOnce (a : P) (t : List P) : List P := match t with
  | b :: c :: r => if Kzq1.pos (Kzq1.turn c b a) then t else c :: r
  | _ => t
theorem popOnce_ok {a : P} (ha : OkP a) {t : List P} (ht : OkL t) : OkL (popOnce a t) ∧ (vs (popOnce a t) = vs t ∨ (popOnce a t).length + 1 = t.length) ∧ pop (toV a) (vs (popOnce a t)) = pop (toV a) (vs t) ∧
    (t.length ≤ 1 → popOnce a t = t) ∧ (popOnce a t = t → vs t = pop (toV a) (vs t)) := by
  match t, ht with
  | [], ht => exact ⟨ht, .inl rfl, rfl, fun _ => rfl, fun _ => rfl⟩
  | [b], ht => exact ⟨ht, .inl rfl, rfl, fun _ => rfl, fun _ => rfl⟩
  | b :: c :: r, ht =>
    have tt := turn_ok (ht c (by simp)) (ht b (by simp)) ha
    have hp := pos_iff tt.1
    rw [tt.2] at hp
    simp only [popOnce]
    by_cases h : 0 < turn (toV c) (toV b) (toV a)
    · rw [if_pos (hp.2 h)]
      refine ⟨ht, .inl rfl, rfl, fun _ => rfl, fun _ => ?_⟩
      simp only [vs, List.map_cons, pop, if_pos h]
    · rw [if_neg (fun x => h (hp.1 x))]
      refine ⟨fun z hz => ht z (by simp at hz ⊢; grind), .inr (by simp), ?_, by simp, ?_⟩
      · simp only [vs, List.map_cons, pop, if_neg h]
      · intro e
        have := congrArg List.length e
        simp at this
theorem pops_ok {a : P} (ha : OkP a) : ∀ (n : Nat) {t : List P}, OkL t → t.length ≤ n + 1 →
    OkL ((List.range n).foldl (fun t _ => popOnce a t) t) ∧ vs ((List.range n).foldl (fun t _ => popOnce a t) t) = pop (toV a) (vs t) := by
  -- taken away from the front, one after another
  have key : ∀ (n : Nat) {t : List P}, OkL t → OkL ((List.range n).foldl (fun t _ => popOnce a t) t) ∧ pop (toV a) (vs ((List.range n).foldl (fun t _ => popOnce a t) t)) = pop (toV a) (vs t) ∧
      (vs ((List.range n).foldl (fun t _ => popOnce a t) t) = pop (toV a) (vs t) ∨ ((List.range n).foldl (fun t _ => popOnce a t) t).length + n ≤ t.length) := by
    intro n
    induction n with
    | zero => intro t ht; exact ⟨ht, rfl, .inr (by simp)⟩
    | succ n ih =>
      intro t ht
      have i := ih ht
      rw [List.range_succ, List.foldl_append]
      simp only [List.foldl_cons, List.foldl_nil]
      generalize (List.range n).foldl (fun t _ => popOnce a t) t = u at i
      obtain ⟨i1, i2, i3⟩ := i
      have o := popOnce_ok ha i1
      refine ⟨o.1, by rw [o.2.2.1, i2], ?_⟩
      rcases i3 with i3 | i3
      · left
        have hu : vs u = pop (toV a) (vs u) := by rw [i2]; exact i3
        -- nothing more to take away
        have : popOnce a u = u := by
          match u, hu with
          | [], _ => rfl
          | [b], _ => rfl
          | b :: c :: r, hu =>
            have tt := turn_ok (i1 c (by simp)) (i1 b (by simp)) ha
            have hp := pos_iff tt.1
            rw [tt.2] at hp
            simp only [popOnce]
            by_cases h : 0 < turn (toV c) (toV b) (toV a)
            · rw [if_pos (hp.2 h)]
            · exfalso
              simp only [vs, List.map_cons, pop, if_neg h] at hu
              have hl : ∀ t : List V, (pop (toV a) t).length ≤ t.length := by
                intro t
                induction t with
                | nil => simp [pop]
                | cons x t ih =>
                  cases t with
                  | nil => simp [pop]
                  | cons y t =>
                    simp only [pop]
                    split
                    · exact Nat.le_refl _
                    · simp only [List.length_cons] at ih ⊢; omega
              have h1 := hl (toV c :: r.map toV)
              rw [← hu] at h1
              simp at h1
              omega
        rw [this]; exact i3
      · rcases o.2.1 with h | h
        · left
          have hlen : (popOnce a u).length = u.length := by
            have := congrArg List.length h; simpa [vs] using this
          have : popOnce a u = u := vs_inj o.1 i1 h
          rw [this, ← i2]
          exact o.2.2.2.2 this
        · right; omega
  intro n t ht hl
  have k := key n ht
  refine ⟨k.1, ?_⟩
  rcases k.2.2 with h | h
  · exact h
  · generalize (List.range n).foldl (fun t _ => popOnce a t) t = u at k h
    have : u.length ≤ 1 := by omega
    rw [← k.2.1]
    match u, this with
    | [], _ => rfl
    | [b], _ => rfl
theorem chain_ok {l : List P} (hl : OkL l) : OkL (Kzq1.chain l) ∧ vs (Kzq1.chain l) = chain (vs l) := by
  have key : ∀ (l t : List P), OkL l → OkL t → OkL (l.foldl (fun s a => a :: (List.range s.length).foldl (fun t _ => popOnce a t) s) t) ∧
      vs (l.foldl (fun s a => a :: (List.range s.length).foldl (fun t _ => popOnce a t) s) t) = (vs l).foldl (fun s a => a :: pop a s) (vs t) := by
    intro l
    induction l with
    | nil => intro t _ ht; exact ⟨ht, rfl⟩
    | cons a l ih =>
      intro t h ht
      have ha := h a (by simp)
      have p := pops_ok ha t.length ht (by omega)
      have := ih (a :: (List.range t.length).foldl (fun t _ => popOnce a t) t) (fun z hz => h z (by simp [hz])) (by
        intro z hz
        simp only [List.mem_cons] at hz
        rcases hz with rfl | hz
        · exact ha
        · exact p.1 z hz)
      refine ⟨this.1, ?_⟩
      rw [List.foldl_cons, this.2]
      show _ = ((toV a) :: vs l).foldl _ _
      rw [List.foldl_cons]
      show List.foldl _ (toV a :: vs _) _ = _
      rw [p.2]
  have k := key l [] hl (by intro z hz; simp at hz)
  have e : Kzq1.chain l = (l.foldl (fun s a => a :: (List.range s.length).foldl (fun t _ => popOnce a t) s) []).reverse := rfl
  rw [e]
  refine ⟨fun z hz => k.1 z (by simpa using hz), ?_⟩
  rw [vs, List.map_reverse]
  show (vs _).reverse = _
  rw [k.2]; rfl
theorem mem_dropLast {α : Type} {l : List α} {z : α} (h : z ∈ l.dropLast) : z ∈ l := (List.dropLast_sublist l).subset h
theorem hull_okP {l : List P} (hl : OkL l) : OkL (Kzq1.hull l) ∧ vs (Kzq1.hull l) = hull (vs l) := by
  have s := sort_ok hl
  unfold Kzq1.hull
  simp only
  have c1 := chain_ok s.1
  have c2 := chain_ok (l := (l.foldr Kzq1.insert []).reverse) (fun z hz => s.1 z (by simpa using hz))
  constructor
  · intro z hz
    rw [List.mem_append] at hz
    rcases hz with hz | hz
    · exact c1.1 z (mem_dropLast hz)
    · exact c2.1 z (mem_dropLast hz)
  · rw [vs, List.map_append, List.map_dropLast, List.map_dropLast]
    show (vs (Kzq1.chain _)).dropLast ++ (vs (Kzq1.chain _)).dropLast = _
    rw [c1.2, c2.2, s.2]
    have e : vs (l.foldr Kzq1.insert []).reverse = (sortV (vs l)).reverse := by
      rw [vs, List.map_reverse]; show (vs _).reverse = _; rw [s.2]
    rw [e]; rfl

/-! ### Two pieces as one -/
/-- what joined gives, told by the sides -/
theorem joined_some {p q : List P} (hp : Pc p) (hq : Pc q) {Pp N : List V} {pf pl nf nl x1 x2 : V} (m : Makes (vs p) (vs q) Pp N pf pl nf nl x1 x2) :
    ∃ r, Kzq1.joined p q = some r ∧ Pc r ∧ Begun (vs r) ∧ Rot (vs r) (glueRow Pp N pf pl nf nl x1 x2) := by
  obtain ⟨g, hS, hr⟩ := of_makes hp.t3 hp.len' hq.t3 hq.len' m
  have ho : OkL (p ++ q) := hp.ok.append hq.ok
  have h := hull_okP ho
  have ev : vs (p ++ q) = vs p ++ vs q := by simp [vs]
  rw [ev] at h
  have pc : Pc (Kzq1.hull (p ++ q)) := by
    have t := hr.symm.t3 m.2.2.t3
    have l := m.2.2.len
    rw [← hr.length, ← h.2] at l
    exact ⟨h.1, by rw [h.2]; exact t, by simpa [vs] using l⟩
  have sz1 := size_ok h.1
  have sz2 := size_ok hp.ok
  have sz3 := size_ok hq.ok
  have sa := add_ok sz2.1 sz3.1
  have eS : Kzq1.size (Kzq1.hull (p ++ q)) = Kzq1.add (Kzq1.size p) (Kzq1.size q) := by
    apply val_inj sz1.1 sa.1
    rw [sz1.2, sa.2, sz2.2, sz3.2, h.2, hS]; grind
  refine ⟨Kzq1.formed (Kzq1.hull (p ++ q)), ?_, ?_⟩
  · unfold Kzq1.joined
    simp only
    rw [if_pos ⟨meet_gone hp hq g, eS, (convex_pc h.1).2 pc⟩]
  · rw [pc.formed]
    have b := pc.begun
    refine ⟨b.2.2, b.2.1, ?_⟩
    refine ((b.1.map toV).symm).trans ?_
    show Rot (vs _) _
    rw [h.2]; exact hr
theorem joined_none {p q : List P} (hp : Pc p) (hq : Pc q) (h : ¬ ∃ Pp N pf pl nf nl x1 x2, Makes (vs p) (vs q) Pp N pf pl nf nl x1 x2) : Kzq1.joined p q = none := by
  unfold Kzq1.joined
  simp only
  rw [if_neg]
  rintro ⟨h1, h2, h3⟩
  apply h
  have ho : OkL (p ++ q) := hp.ok.append hq.ok
  have hh := hull_okP ho
  have ev : vs (p ++ q) = vs p ++ vs q := by simp [vs]
  rw [ev] at hh
  have sz1 := size_ok hh.1
  have sz2 := size_ok hp.ok
  have sz3 := size_ok hq.ok
  have sa := add_ok sz2.1 sz3.1
  have eS : val (Kzq1.size (Kzq1.hull (p ++ q))) = val (Kzq1.add (Kzq1.size p) (Kzq1.size q)) := by rw [h2]
  rw [sz1.2, sa.2, sz2.2, sz3.2, hh.2] at eS
  exact makes_of hp.t3 hp.len' hq.t3 hq.len' ((meet_nil hp hq).1 h1) (by grind)
end Geo
end

section
/-! The program's points, lines and fractions as plain functions. -/
namespace Mir
structure Pt where
  x : Int
  y : Int
  d : Int
deriving DecidableEq
abbrev Fr := Int × Int
def cf (a b : Int) : Int := (Int.gcd a b : Int)
def sgn (by_ q : Int) : Int := if q < 0 then -by_ else by_
def ratio (p q : Int) : Fr := (p.fdiv (sgn (cf p q) q), q.fdiv (sgn (cf p q) q))
def point (x y d : Int) : Pt := ⟨x.fdiv (sgn (cf (cf d x) y) d), y.fdiv (sgn (cf (cf d x) y) d), d.fdiv (sgn (cf (cf d x) y) d)⟩
def pointAt (r u : Fr) : Pt := point (r.1 * u.2) (u.1 * r.2) (r.2 * u.2)
def rightOf (p : Pt) : Fr := ratio p.x p.d
def upOf (p : Pt) : Fr := ratio p.y p.d
def added (p q : Pt) : Pt := point (p.x * q.d + q.x * p.d) (p.y * q.d + q.y * p.d) (p.d * q.d)
def opposite (p : Pt) : Pt := ⟨-p.x, -p.y, p.d⟩
def scaled (p : Pt) (b : Fr) : Pt := point (p.x * b.1) (p.y * b.1) (p.d * b.2)
def middle (p q : Pt) : Pt := scaled (added p q) (1, 2)
def line (p q : Pt) : Pt := ⟨p.y * q.d - p.d * q.y, p.d * q.x - p.x * q.d, p.x * q.y - p.y * q.x⟩
def side (l p : Pt) : Int := l.x * p.x + l.y * p.y + l.d * p.d
def turning (p q r : Pt) : Int := side (line p q) r
def crossing (p q : Pt) (s t : Int) : Pt := point (p.x * t - q.x * s) (p.y * t - q.y * s) (p.d * t - q.d * s)
def isHigher (p q : Pt) : Bool := decide (q.y * p.d < p.y * q.d)
def isAhead (p q : Pt) : Bool := if p.x * q.d = q.x * p.d then isHigher q p else decide (p.x * q.d < q.x * p.d)

def atI (l : List Pt) (i : Int) : Pt := l.getD (if 0 ≤ i then i.toNat else (i + l.length).toNat) ⟨0, 0, 1⟩
def rotL {α : Type} (l : List α) (k : Nat) : List α := l.drop k ++ l.take k
def inner {α : Type} (l : List α) : List α := (l.drop 1).dropLast
/-- from the k-th side all other corners are on the left -/
def okAt (l : List Pt) (k : Nat) : Bool := (inner (rotL l k)).all fun c => decide (0 < side (line (atI (rotL l k) (-1)) (atI (rotL l k) 0)) c)
def isPiece (l : List Pt) : Bool := (List.range l.length).all (okAt l)
def bentAt (l : List Pt) (k : Nat) : Int := turning (atI l ((k : Int) - 2)) (atI l ((k : Int) - 1)) (atI l k)
def bentTo (l : List Pt) (n : Nat) : List Pt := ((List.range n).filter fun k => decide (0 < bentAt l k)).map fun (k : Nat) => atI l ((k : Int) - 1)
def bent (l : List Pt) : List Pt := if ((List.range l.length).all fun k => !decide (bentAt l k < 0)) = true then bentTo l l.length else []
def gluedAt (a b : List Pt) (i j : Nat) : Bool := decide (atI a i = atI b ((j : Int) - 1)) && decide (atI a ((i : Int) - 1) = atI b j)
def gluedRow (a b : List Pt) (i j : Nat) : List Pt := bent (rotL a i ++ inner (rotL b j))
def glued (a b : List Pt) : List Pt := ((List.range a.length).findSome? fun i => (List.range b.length).findSome? fun j => if gluedAt a b i j = true then some (gluedRow a b i j) else none).getD []
def firstTo (l : List Pt) (n : Nat) : Nat := (List.range n).foldl (fun (f k : Nat) => if isAhead (atI l (k : Int)) (atI l (f : Int)) = true then k else f) 0
def begun (l : List Pt) : List Pt := rotL l (firstTo l l.length)
end Mir
end

section
namespace Mir
/-! Cuttings: read, told, joined. -/
abbrev Mv := Int × Pt
abbrev Part := List Pt × Mv
def readFr (ns : List Int) (i : Nat) : Option Fr := if ns.getD (i + 1) 0 < 1 ∨ cf (ns.getD i 0) (ns.getD (i + 1) 0) ≠ 1 then none else some (ns.getD i 0, ns.getD (i + 1) 0)
def readPt (ns : List Int) (i : Nat) : Option Pt := match readFr ns i, readFr ns (i + 2) with
  | some r, some u => some (pointAt r u)
  | _, _ => none
/-- the first so many that are there; none if one isn't -/
def allOf {α : Type} (f : Nat → Option α) : Nat → Option (List α)
  | 0 => some []
  | n + 1 => match allOf f n, f n with
    | some l, some a => some (l ++ [a])
    | _, _ => none
/-- the part told by 4 c + 6 numbers -/
def readPart (c : Nat) (ns : List Int) : Option Part := match allOf (fun k => readPt ns (1 + 4 * k)) c with
  | none => none
  | some l => if ns.getD (4 * c + 1) 0 < 0 ∨ 1 < ns.getD (4 * c + 1) 0 ∨ isPiece l = false then none else match readPt ns (4 * c + 2) with
    | none => none
    | some w => some (l, (ns.getD (4 * c + 1) 0, w))
/-- how many numbers the part at the front has -/
def partLen (ns : List Int) : Option Nat := if ns.getD 0 0 < 3 ∨ 40 < ns.getD 0 0 ∨ (ns.length : Int) < 4 * ns.getD 0 0 + 6 then none else some ((ns.getD 0 0).toNat)
def readAll : Nat → List Int → Option (List Part)
  | _, [] => some []
  | 0, _ :: _ => none
  | k + 1, n :: l => match partLen (n :: l) with
    | none => none
    | some c => match readPart c ((n :: l).take (4 * c + 6)), readAll k ((n :: l).drop (4 * c + 6)) with
      | some p, some r => some (p :: r)
      | _, _ => none
def toldFr (f : Fr) : List Int := [f.1, f.2]
def toldPt (p : Pt) : List Int := toldFr (rightOf p) ++ toldFr (upOf p)
def toldPart (q : Part) : List Int := ((q.1.length : Int) :: (begun q.1).flatMap toldPt) ++ ([q.2.1] ++ toldPt q.2.2)
def told (c : List Part) : List Int := (c.length : Int) :: c.flatMap toldPart
def bothJoined (a b : Part) : List Pt := if a.2 = b.2 then glued a.1 b.1 else []
def pAt (c : List Part) (i : Nat) : Part := c.getD i ([], (0, ⟨0, 0, 1⟩))
/-- the part at a place joined with the first of some others -/
def joinWith (c : List Part) (p k : Nat) : List Part := (c.set (min p k) (bothJoined (pAt c p) (pAt c k), (pAt c (min p k)).2)).eraseIdx (max p k)
def joinFirst (c : List Part) (p : Nat) : List Nat → Option Nat
  | [] => none
  | k :: os => if 0 < (bothJoined (pAt c p) (pAt c k)).length then some k else joinFirst c p os
/-- one turn: the cutting and the place then -/
def joinStep (c : List Part) (p : Nat) : List Part × Nat := match joinFirst c p (List.range p) with
  | some k => (joinWith c p k, min p k)
  | none => match joinFirst c p ((List.range (c.length - (p + 1))).map fun i => p + 1 + i) with
    | some k => (joinWith c p k, min p k)
    | none => (c, p + 1)
def joinAll : Nat → List Part → Nat → List Part
  | 0, c, _ => c
  | n + 1, c, p => if p < c.length then joinAll n (joinStep c p).1 (joinStep c p).2 else c
/-- turns that are enough -/
def joined (c : List Part) : List Part := joinAll (c.length * c.length + c.length + 1) c 0
end Mir
end

section
set_option linter.all false
/-! The program's points as points of the plane. -/
namespace Geo
open Kzq1 (Q P)
def vP (p : Mir.Pt) : V := ⟨(p.x : Rat) / (p.d : Rat), (p.y : Rat) / (p.d : Rat)⟩
structure Nm (p : Mir.Pt) : Prop where
  pos : 0 < p.d
  red : Int.gcd (Int.gcd p.d p.x : Int) p.y = 1
theorem int_pos {d : Int} (h : 0 < d) : (0 : Rat) < (d : Rat) := by exact_mod_cast h
theorem int_ne {d : Int} (h : 0 < d) : (d : Rat) ≠ 0 := fun e => by
  have : d = 0 := by exact_mod_cast e
  omega
theorem pos_of {g d : Int} (hg : 0 < g) (h : 0 < g * d) : 0 < d := by
  false_or_by_contra
  have := Int.mul_nonneg (Int.le_of_lt hg) (show 0 ≤ -d by omega)
  rw [Int.mul_neg] at this
  omega
theorem point_ok {x y d : Int} (hd : 0 < d) : Nm (Mir.point x y d) ∧ vP (Mir.point x y d) = ⟨(x : Rat) / d, (y : Rat) / d⟩ := by
  obtain ⟨g, hg⟩ : ∃ g : Nat, Int.gcd (Int.gcd d x : Int) y = g := ⟨_, rfl⟩
  have h1 : (g : Int) ∣ (Int.gcd d x : Int) := by rw [← hg]; exact Int.gcd_dvd_left ..
  obtain ⟨d', ed⟩ : (g : Int) ∣ d := Int.dvd_trans h1 (Int.gcd_dvd_left ..)
  obtain ⟨x', ex⟩ : (g : Int) ∣ x := Int.dvd_trans h1 (Int.gcd_dvd_right ..)
  obtain ⟨y', ey⟩ : (g : Int) ∣ y := by rw [← hg]; exact Int.gcd_dvd_right ..
  have g0 : 0 < g := by
    rcases Nat.eq_zero_or_pos g with z | z
    · subst z; simp at ed; omega
    · exact z
  have gz : (0 : Int) < (g : Int) := by omega
  have d0 : 0 < d' := by
    rw [ed] at hd
    exact pos_of gz hd
  have e : Mir.point x y d = ⟨x', y', d'⟩ := by
    have s : Mir.sgn (Mir.cf (Mir.cf d x) y) d = (g : Int) := by
      unfold Mir.sgn Mir.cf
      rw [if_neg (by omega), hg]
    unfold Mir.point
    rw [s, ex, ey, ed]
    rw [Int.mul_fdiv_cancel_left _ (by omega), Int.mul_fdiv_cancel_left _ (by omega), Int.mul_fdiv_cancel_left _ (by omega)]
  rw [e]
  refine ⟨⟨d0, ?_⟩, ?_⟩
  · show Int.gcd (Int.gcd d' x' : Int) y' = 1
    have k : Int.gcd ((g : Int) * (Int.gcd d' x' : Int)) ((g : Int) * y') = g := by
      have : (Int.gcd d x : Int) = (g : Int) * (Int.gcd d' x' : Int) := by
        rw [ed, ex, Int.gcd_mul_left]; simp
      rw [← this, ← ey]; exact hg
    rw [Int.gcd_mul_left] at k
    simp only [Int.natAbs_natCast] at k
    exact Nat.eq_of_mul_eq_mul_left g0 (by rw [k, Nat.mul_one])
  · have n1 := int_ne gz
    have n2 := int_ne d0
    have ix : (x : Rat) = (g : Int) * (x' : Rat) := by exact_mod_cast ex
    have iy : (y : Rat) = (g : Int) * (y' : Rat) := by exact_mod_cast ey
    have id : (d : Rat) = (g : Int) * (d' : Rat) := by exact_mod_cast ed
    simp only [vP]
    rw [ix, iy, id]
    ext <;> simp only <;> grind
theorem Nm.inj {p q : Mir.Pt} (hp : Nm p) (hq : Nm q) (h : vP p = vP q) : p = q := by
  have h1 : (p.x : Rat) / p.d = (q.x : Rat) / q.d := congrArg V.x h
  have h2 : (p.y : Rat) / p.d = (q.y : Rat) / q.d := congrArg V.y h
  have np := int_ne hp.pos
  have nq := int_ne hq.pos
  have ex : p.x * q.d = q.x * p.d := by
    have : (p.x : Rat) * q.d = (q.x : Rat) * p.d := by grind
    exact_mod_cast this
  have ey : p.y * q.d = q.y * p.d := by
    have : (p.y : Rat) * q.d = (q.y : Rat) * p.d := by grind
    exact_mod_cast this
  have key : ∀ {p q : Mir.Pt}, Nm p → p.x * q.d = q.x * p.d → p.y * q.d = q.y * p.d → p.d ∣ q.d := fun {p q} hp ex ey => by
    have a1 : p.d ∣ (Int.gcd (q.d * p.d) (q.d * p.x) : Int) := Int.dvd_coe_gcd ⟨q.d, by rw [Int.mul_comm]⟩ ⟨q.x, by rw [Int.mul_comm, ex, Int.mul_comm]⟩
    rw [Int.gcd_mul_left] at a1
    have a2 : p.d ∣ q.d * (Int.gcd p.d p.x : Int) := by
      rw [Int.natCast_mul] at a1
      rcases Int.natAbs_eq q.d with z | z
      · rw [z]; exact a1
      · rw [z, Int.neg_mul]; exact (Int.dvd_neg).mpr a1
    have a3 : p.d ∣ (Int.gcd (q.d * (Int.gcd p.d p.x : Int)) (q.d * p.y) : Int) := Int.dvd_coe_gcd a2 ⟨q.y, by rw [Int.mul_comm, ey, Int.mul_comm]⟩
    rw [Int.gcd_mul_left, hp.red, Nat.mul_one] at a3
    exact Int.dvd_natAbs.mp a3
  have d1 := key hp ex ey
  have d2 := key hq ex.symm ey.symm
  have ed : p.d = q.d := Int.dvd_antisymm (by have := hp.pos; omega) (by have := hq.pos; omega) d1 d2
  have e1 : p.x = q.x := by
    rw [ed] at ex
    exact Int.eq_of_mul_eq_mul_right (by have := hq.pos; omega) ex
  have e2 : p.y = q.y := by
    rw [ed] at ey
    exact Int.eq_of_mul_eq_mul_right (by have := hq.pos; omega) ey
  cases p; cases q; simp_all
/-- turning, told by the plane -/
theorem turning_val {p q r : Mir.Pt} (hp : 0 < p.d) (hq : 0 < q.d) (hr : 0 < r.d) : (Mir.turning p q r : Rat) = ((p.d : Rat) * q.d * r.d) * turn (vP p) (vP q) (vP r) := by
  have := int_ne hp
  have := int_ne hq
  have := int_ne hr
  simp only [Mir.turning, Mir.side, Mir.line, turn, vP]
  push_cast
  grind
theorem turning_pos {p q r : Mir.Pt} (hp : 0 < p.d) (hq : 0 < q.d) (hr : 0 < r.d) : 0 < Mir.turning p q r ↔ 0 < turn (vP p) (vP q) (vP r) := by
  have h := turning_val hp hq hr
  have k : (0 : Rat) < (p.d : Rat) * q.d * r.d := Rat.mul_pos (Rat.mul_pos (int_pos hp) (int_pos hq)) (int_pos hr)
  constructor
  · intro z
    have z' : (0 : Rat) < (Mir.turning p q r : Rat) := by exact_mod_cast z
    rw [h] at z'
    false_or_by_contra
    have := Rat.mul_nonneg (Rat.le_of_lt k) (show 0 ≤ - turn (vP p) (vP q) (vP r) by grind)
    grind
  · intro z
    have := Rat.mul_pos k z
    rw [← h] at this
    exact_mod_cast this
theorem turning_neg {p q r : Mir.Pt} (hp : 0 < p.d) (hq : 0 < q.d) (hr : 0 < r.d) : Mir.turning p q r < 0 ↔ turn (vP p) (vP q) (vP r) < 0 := by
  have h := turning_val hp hq hr
  have k : (0 : Rat) < (p.d : Rat) * q.d * r.d := Rat.mul_pos (Rat.mul_pos (int_pos hp) (int_pos hq)) (int_pos hr)
  constructor
  · intro z
    have z' : (Mir.turning p q r : Rat) < 0 := by exact_mod_cast z
    rw [h] at z'
    false_or_by_contra
    have := Rat.mul_nonneg (Rat.le_of_lt k) (show 0 ≤ turn (vP p) (vP q) (vP r) by grind)
    grind
  · intro z
    have := Rat.mul_pos k (show 0 < - turn (vP p) (vP q) (vP r) by grind)
    have z' : (Mir.turning p q r : Rat) < 0 := by rw [h]; grind
    exact_mod_cast z'
theorem ahead_iff {p q : Mir.Pt} (hp : 0 < p.d) (hq : 0 < q.d) : Mir.isAhead p q = true ↔ Bef (vP p) (vP q) := by
  have np := int_ne hp
  have nq := int_ne hq
  have k : (0 : Rat) < (p.d : Rat) * q.d := Rat.mul_pos (int_pos hp) (int_pos hq)
  have lt : ∀ a b : Int, (a : Rat) / p.d < (b : Rat) / q.d ↔ a * q.d < b * p.d := fun a b => by
    have e : ((b * p.d - a * q.d : Int) : Rat) = ((p.d : Rat) * q.d) * ((b : Rat) / q.d - (a : Rat) / p.d) := by push_cast; grind
    constructor
    · intro z
      have := Rat.mul_pos k (show 0 < (b : Rat) / q.d - (a : Rat) / p.d by grind)
      rw [← e] at this
      have : 0 < b * p.d - a * q.d := by exact_mod_cast this
      omega
    · intro z
      have z' : (0 : Rat) < ((b * p.d - a * q.d : Int) : Rat) := by
        have : 0 < b * p.d - a * q.d := by omega
        exact_mod_cast this
      rw [e] at z'
      false_or_by_contra
      have := Rat.mul_nonneg (Rat.le_of_lt k) (show 0 ≤ - ((b : Rat) / q.d - (a : Rat) / p.d) by grind)
      grind
  have eq : ∀ a b : Int, (a : Rat) / p.d = (b : Rat) / q.d ↔ a * q.d = b * p.d := fun a b => by
    constructor
    · intro z
      have : (a : Rat) * q.d = (b : Rat) * p.d := by grind
      exact_mod_cast this
    · intro z
      have : (a : Rat) * q.d = (b : Rat) * p.d := by exact_mod_cast z
      grind
  unfold Mir.isAhead Mir.isHigher Bef
  simp only [vP]
  rw [lt, lt, eq]
  by_cases h : p.x * q.d = q.x * p.d
  · rw [if_pos h, decide_eq_true_iff]
    constructor
    · intro z; exact .inr ⟨h, z⟩
    · rintro (z | z)
      · omega
      · exact z.2
  · rw [if_neg h, decide_eq_true_iff]
    constructor
    · intro z; exact .inl z
    · rintro (z | z)
      · exact z
      · exact absurd z.1 h
/-! ### Fractions told -/
theorem ratio_ok {n d : Int} (hd : 0 < d) : Ok ⟨(Mir.ratio n d).1, (Mir.ratio n d).2.toNat⟩ ∧ 0 < (Mir.ratio n d).2 ∧ val ⟨(Mir.ratio n d).1, (Mir.ratio n d).2.toNat⟩ = (n : Rat) / d := by
  obtain ⟨g, hg⟩ : ∃ g : Nat, Int.gcd n d = g := ⟨_, rfl⟩
  obtain ⟨n', en⟩ : (g : Int) ∣ n := by rw [← hg]; exact Int.gcd_dvd_left ..
  obtain ⟨d', ed⟩ : (g : Int) ∣ d := by rw [← hg]; exact Int.gcd_dvd_right ..
  have g0 : 0 < g := by
    rcases Nat.eq_zero_or_pos g with z | z
    · subst z; simp at ed; omega
    · exact z
  have gz : (0 : Int) < (g : Int) := by omega
  have d0 : 0 < d' := by
    rw [ed] at hd
    exact pos_of gz hd
  have e : Mir.ratio n d = (n', d') := by
    have s : Mir.sgn (Mir.cf n d) d = (g : Int) := by
      unfold Mir.sgn Mir.cf
      rw [if_neg (by omega), hg]
    unfold Mir.ratio
    rw [s, en, ed]
    rw [Int.mul_fdiv_cancel_left _ (by omega), Int.mul_fdiv_cancel_left _ (by omega)]
  rw [e]
  have r : Int.gcd n' d' = 1 := by
    have k : Int.gcd ((g : Int) * n') ((g : Int) * d') = g := by rw [← en, ← ed]; exact hg
    rw [Int.gcd_mul_left] at k
    simp only [Int.natAbs_natCast] at k
    exact Nat.eq_of_mul_eq_mul_left g0 (by rw [k, Nat.mul_one])
  have td : (d'.toNat : Int) = d' := Int.toNat_of_nonneg (by omega)
  refine ⟨⟨show 1 ≤ d'.toNat by omega, ?_⟩, d0, ?_⟩
  · show Nat.gcd n'.natAbs d'.toNat = 1
    have : d'.toNat = d'.natAbs := by omega
    rw [this]; exact r
  · have n1 := int_ne gz
    have n2 := int_ne d0
    have ix : (n : Rat) = (g : Int) * (n' : Rat) := by exact_mod_cast en
    have id : (d : Rat) = (g : Int) * (d' : Rat) := by exact_mod_cast ed
    have id2 : ((d'.toNat : Nat) : Rat) = (d' : Rat) := by rw [← Rat.intCast_natCast, td]
    simp only [val]
    rw [ix, id, id2]
    grind
theorem toldFr_ok {n d : Int} (hd : 0 < d) {q : Q} (hq : Ok q) (h : val q = (n : Rat) / d) : Mir.toldFr (Mir.ratio n d) = Kzq1.writtenQ q := by
  obtain ⟨h1, h2, h3⟩ := ratio_ok (n := n) hd
  have e := val_inj hq h1 (by rw [h, h3])
  rw [e]
  unfold Mir.toldFr Kzq1.writtenQ
  simp only [Int.toNat_of_nonneg (Int.le_of_lt h2)]
theorem toldPt_ok {p : Mir.Pt} (hp : 0 < p.d) {z : P} (hz : OkP z) (h : vP p = toV z) : Mir.toldPt p = Kzq1.writtenQ z.x ++ Kzq1.writtenQ z.y := by
  unfold Mir.toldPt Mir.rightOf Mir.upOf
  rw [toldFr_ok hp hz.x (congrArg V.x h).symm, toldFr_ok hp hz.y (congrArg V.y h).symm]
end Geo
end

section
set_option linter.all false
/-! The program's rows of corners. -/
namespace Geo
open Mir (Pt atI rotL inner)
/-! ### rotations -/
theorem rotL_rot {α : Type} (l : List α) (k : Nat) : Rot l (rotL l k) := ⟨l.take k, l.drop k, by simp, rfl⟩
theorem rot_rotL {α : Type} {l m : List α} (h : Rot l m) (ne : l ≠ []) : ∃ k, k < l.length ∧ m = rotL l k := by
  obtain ⟨a, b, rfl, rfl⟩ := h
  cases b with
  | nil =>
    refine ⟨0, by cases a with | nil => exact absurd rfl ne | cons _ _ => simp, by simp [rotL]⟩
  | cons x b => exact ⟨a.length, by simp, by simp [rotL]⟩
theorem rot_unmap {α β : Type} {f : α → β} {l : List α} {m : List β} (h : Rot (l.map f) m) : ∃ m', Rot l m' ∧ m = m'.map f := by
  obtain ⟨a, b, e, rfl⟩ := h
  obtain ⟨a', b', rfl, rfl, rfl⟩ := List.map_eq_append_iff.mp e
  exact ⟨b' ++ a', ⟨a', b', rfl, rfl⟩, by simp⟩
theorem rot_step {α : Type} {l : List α} {a : α} {r : List α} (h : Rot l (a :: r)) : Rot l (r ++ [a]) := h.trans ⟨[a], r, rfl, rfl⟩
theorem rot_back {α : Type} {l : List α} {a : α} {r : List α} (h : Rot l (r ++ [a])) : Rot l (a :: r) := h.trans ⟨r, [a], rfl, rfl⟩
theorem rot_uniq {α : Type} {x : α} {l m : List α} (h : Rot (x :: l) (x :: m)) (hn : (x :: l).Nodup) : l = m := by
  obtain ⟨a, b, e1, e2⟩ := h
  cases a with
  | nil => simp at e1 e2; rw [← e1] at e2; exact (List.cons.inj e2).2.symm
  | cons y a =>
    simp at e1
    cases b with
    | nil => simp at e1 e2; rw [e2.2, e1.2]
    | cons z b =>
      simp at e2
      rw [List.nodup_cons] at hn
      exfalso
      apply hn.1
      rw [e1.2]
      simp [e2.1]
theorem row_ends {α : Type} {m : List α} (h : 2 ≤ m.length) : ∃ x r t, m = x :: (r ++ [t]) := by
  cases m with
  | nil => simp at h
  | cons x m =>
    have : m ≠ [] := by intro e; subst e; simp at h
    exact ⟨x, m.dropLast, m.getLast this, by rw [List.dropLast_concat_getLast]⟩
theorem inner_row {α : Type} (x : α) (r : List α) (t : α) : inner (x :: (r ++ [t])) = r := by simp [inner]
theorem atI_nat (l : List Pt) (k : Nat) : atI l (k : Int) = l.getD k ⟨0, 0, 1⟩ := by
  unfold atI; rw [if_pos (by omega)]; simp
theorem rotL_head {l : List Pt} {k : Nat} (h : k < l.length) : (rotL l k).getD 0 ⟨0, 0, 1⟩ = atI l k := by
  rw [atI_nat]
  unfold rotL
  rw [List.getD_eq_getElem?_getD, List.getD_eq_getElem?_getD, List.getElem?_append_left (by simp; omega)]
  simp
theorem rotL_last {l : List Pt} {k : Nat} (h : k < l.length) : (rotL l k).getD (l.length - 1) ⟨0, 0, 1⟩ = atI l ((k : Int) - 1) := by
  unfold rotL
  rw [List.getD_eq_getElem?_getD]
  cases k with
  | zero =>
    unfold atI
    rw [if_neg (by omega)]
    rw [List.getD_eq_getElem?_getD]
    have : (((0 : Nat) : Int) - 1 + (l.length : Int)).toNat = l.length - 1 := by omega
    rw [this]; simp
  | succ k =>
    have : ((k + 1 : Nat) : Int) - 1 = (k : Int) := by omega
    rw [this, atI_nat, List.getD_eq_getElem?_getD, List.getElem?_append_right (by simp; omega)]
    rw [List.getElem?_take]
    simp only [List.length_drop]
    rw [if_pos (by omega)]
    congr 2
    omega
theorem rotL_len {α : Type} (l : List α) (k : Nat) : (rotL l k).length = l.length := (rotL_rot l k).length.symm
theorem rotL_row {l : List Pt} {k : Nat} (h : k < l.length) (h2 : 2 ≤ l.length) : rotL l k = atI l k :: (inner (rotL l k) ++ [atI l ((k : Int) - 1)]) := by
  obtain ⟨x, r, t, e⟩ := row_ends (m := rotL l k) (by rw [rotL_len]; exact h2)
  have hl := rotL_len l k
  have a := rotL_head h
  have b := rotL_last h
  rw [e] at a b hl ⊢
  rw [inner_row]
  simp at a
  have : l.length - 1 = r.length + 1 := by simp at hl; omega
  rw [this] at b
  simp at b
  rw [a, b]
theorem atI_row0 (x : Pt) (r : List Pt) : atI (x :: r) 0 = x := by rw [show (0 : Int) = ((0 : Nat) : Int) from rfl, atI_nat]; simp
theorem atI_rowL (x : Pt) (r : List Pt) (t : Pt) : atI (x :: (r ++ [t])) (-1) = t := by
  unfold atI
  rw [if_neg (by omega)]
  have : ((-1 : Int) + ((x :: (r ++ [t])).length : Int)).toNat = r.length + 1 := by simp; omega
  rw [this]
  simp
/-! ### pieces -/
structure Good (l : List Pt) : Prop where
  nm : ∀ p ∈ l, Nm p
  t3 : T3 (l.map vP)
  len : 3 ≤ l.length
theorem Good.len' {l : List Pt} (h : Good l) : 3 ≤ (l.map vP).length := by simp; exact h.len
theorem Good.rot {l m : List Pt} (h : Good l) (r : Rot l m) : Good m := ⟨fun p hp => h.nm p (r.mem.2 hp), (r.map vP).t3 h.t3, by rw [← r.length]; exact h.len⟩
theorem okAt_iff {l : List Pt} {k : Nat} (h : k < l.length) (h2 : 2 ≤ l.length) : Mir.okAt l k = true ↔ ∀ c ∈ inner (rotL l k), 0 < Mir.turning (atI l ((k : Int) - 1)) (atI l k) c := by
  have e := rotL_row h h2
  unfold Mir.okAt
  rw [List.all_eq_true]
  have e1 : atI (rotL l k) (-1) = atI l ((k : Int) - 1) := by rw [e, atI_rowL]
  have e2 : atI (rotL l k) 0 = atI l k := by rw [e, atI_row0]
  rw [e1, e2]
  constructor
  · intro z c hc; exact of_decide_eq_true (z c hc)
  · intro z c hc; exact decide_eq_true (z c hc)
theorem piece_iff {l : List Pt} (hn : ∀ p ∈ l, Nm p) (h3 : 3 ≤ l.length) : Mir.isPiece l = true ↔ T3 (l.map vP) := by
  unfold Mir.isPiece
  rw [List.all_eq_true]
  constructor
  · intro z
    refine conv_T3 fun a b r hr v hv => ?_
    obtain ⟨m, hm, e⟩ := rot_unmap hr
    match m, e with
    | pa :: pb :: pr, e =>
      simp only [List.map_cons, List.cons.injEq] at e
      obtain ⟨rfl, rfl, rfl⟩ := e
      obtain ⟨c, hc, rfl⟩ := List.mem_map.1 hv
      obtain ⟨k, hk, ek⟩ := rot_rotL (rot_step hm) (by intro e; subst e; simp at h3)
      have := (okAt_iff hk (by omega)).1 (z k (List.mem_range.2 hk))
      have er := rotL_row hk (by omega)
      rw [← ek] at er this
      have e' : pb :: (pr ++ [pa]) = atI l k :: (inner (pb :: (pr ++ [pa])) ++ [atI l ((k : Int) - 1)]) := er
      rw [inner_row] at e'
      simp at e'
      have this : ∀ c ∈ inner (pb :: (pr ++ [pa])), 0 < Mir.turning (atI l ((k : Int) - 1)) (atI l k) c := this
      rw [inner_row, ← e'.1, ← e'.2] at this
      have n : ∀ {x}, x ∈ pa :: pb :: pr → 0 < x.d := fun {x} hx => (hn x (hm.mem.2 hx)).pos
      exact (turning_pos (n (by simp)) (n (by simp)) (n (by simp [hc]))).1 (this c hc)
    | [_], e => simp at e
    | [], e => simp at e
  · intro t k hk
    have hk := List.mem_range.1 hk
    refine (okAt_iff hk (by omega)).2 fun c hc => ?_
    have r := rotL_rot l k
    rw [rotL_row hk (by omega)] at r
    have r2 := rot_back (a := atI l ((k : Int) - 1)) (r := atI l k :: inner (rotL l k)) r
    have n : ∀ {x}, x ∈ atI l ((k : Int) - 1) :: atI l k :: inner (rotL l k) → 0 < x.d := fun {x} hx => (hn x (r2.mem.2 hx)).pos
    exact (turning_pos (n (by simp)) (n (by simp)) (n (by simp [hc]))).2 (t.edge_pos (r2.map vP) _ (List.mem_map.2 ⟨c, hc, rfl⟩))
/-! ### corners kept -/
def trips {α : Type} : List α → List (α × α × α)
  | a :: b :: c :: r => (a, b, c) :: trips (b :: c :: r)
  | _ => []
theorem trips_split {α : Type} : ∀ (u : List α) (a b : α) (v : List α), trips (u ++ a :: b :: v) = trips (u ++ [a, b]) ++ trips (a :: b :: v)
  | [], a, b, v => by simp [trips]
  | [x], a, b, v => by simp [trips]
  | [x, y], a, b, v => by simp [trips]
  | x :: y :: z :: u, a, b, v => by
    have := trips_split (y :: z :: u) a b v
    simp only [List.cons_append, trips, List.cons.injEq, true_and] at this ⊢
    exact this
theorem trips_mid {α : Type} : ∀ (m : List α), (trips m).map (fun t => t.2.1) = inner m
  | [] => rfl
  | [x] => rfl
  | [x, y] => rfl
  | x :: y :: z :: r => by
    have := trips_mid (y :: z :: r)
    simp only [trips, List.map_cons, this]
    simp [inner]
theorem trips_sub {α : Type} : ∀ {m : List α} {t : α × α × α}, t ∈ trips m → [t.1, t.2.1, t.2.2].Sublist m
  | [], t, h => by simp [trips] at h
  | [x], t, h => by simp [trips] at h
  | [x, y], t, h => by simp [trips] at h
  | x :: y :: z :: r, t, h => by
    simp only [trips, List.mem_cons] at h
    rcases h with rfl | h
    · simp
    · exact (trips_sub h).cons _
theorem trips_at {α : Type} (o : α) : ∀ (m : List α) (k : Nat), k + 2 < m.length → (trips m)[k]? = some (m.getD k o, m.getD (k + 1) o, m.getD (k + 2) o)
  | [], k, h => by simp at h
  | [x], k, h => by simp at h
  | [x, y], k, h => by simp at h; omega
  | x :: y :: z :: r, 0, h => by simp [trips]
  | x :: y :: z :: r, k + 1, h => by
    have := trips_at o (y :: z :: r) k (by simp at h ⊢; omega)
    simp only [trips, List.getElem?_cons_succ, this]
    simp
theorem trips_len {α : Type} : ∀ (m : List α), (trips m).length = m.length - 2
  | [] => rfl
  | [x] => rfl
  | [x, y] => rfl
  | x :: y :: z :: r => by
    have := trips_len (y :: z :: r)
    simp only [trips, List.length_cons, this]
    simp
abbrev tv (t : Pt × Pt × Pt) : Int := Mir.turning t.1 t.2.1 t.2.2
/-- the row with its last two ahead of it -/
theorem around {l : List Pt} (h : 2 ≤ l.length) : (List.range l.length).map (fun k : Nat => (atI l ((k : Int) - 2), atI l ((k : Int) - 1), atI l (k : Int))) = trips (atI l (-2) :: atI l (-1) :: l) := by
  have hm : ∀ k : Nat, k < l.length + 2 → (atI l (-2) :: atI l (-1) :: l).getD k ⟨0, 0, 1⟩ = atI l ((k : Int) - 2) := fun k hk => by
    match k with
    | 0 => simp
    | 1 => simp
    | k + 2 =>
      have : ((k + 2 : Nat) : Int) - 2 = (k : Int) := by omega
      rw [this, atI_nat]; simp
  apply List.ext_getElem?
  intro k
  by_cases hk : k < l.length
  · rw [trips_at ⟨0, 0, 1⟩ _ k (by simp; omega), hm _ (by omega), hm _ (by omega), hm _ (by omega)]
    rw [List.getElem?_map, List.getElem?_range hk]
    simp only [Option.map_some]
    have e1 : ((k + 1 : Nat) : Int) - 2 = (k : Int) - 1 := by omega
    have e2 : ((k + 2 : Nat) : Int) - 2 = (k : Int) := by omega
    rw [e1, e2]
  · rw [List.getElem?_eq_none (by simp; omega), List.getElem?_eq_none (by rw [trips_len]; simp; omega)]
theorem bent_trips {l : List Pt} (h : 2 ≤ l.length) : Mir.bent l = if (trips (atI l (-2) :: atI l (-1) :: l)).all (fun t => !decide (tv t < 0)) = true then ((trips (atI l (-2) :: atI l (-1) :: l)).filter fun t => decide (0 < tv t)).map (fun t => t.2.1) else [] := by
  rw [← around h]
  unfold Mir.bent Mir.bentTo Mir.bentAt
  rw [List.all_map, List.filter_map, List.map_map]
  rfl
end Geo
end

section
set_option linter.all false
/-! Two pieces of the program joined. -/
namespace Geo
open Mir (Pt atI rotL inner)
theorem glued_cases (a b : List Pt) : (Mir.glued a b = [] ∧ ∀ i, i < a.length → ∀ j, j < b.length → Mir.gluedAt a b i j = false) ∨
    ∃ i j, i < a.length ∧ j < b.length ∧ Mir.gluedAt a b i j = true ∧ Mir.glued a b = Mir.gluedRow a b i j := by
  unfold Mir.glued
  cases h : (List.range a.length).findSome? fun i => (List.range b.length).findSome? fun j => if Mir.gluedAt a b i j = true then some (Mir.gluedRow a b i j) else none with
  | none =>
    refine .inl ⟨rfl, fun i hi j hj => ?_⟩
    have h1 := List.findSome?_eq_none_iff.1 h i (List.mem_range.2 hi)
    have h2 := List.findSome?_eq_none_iff.1 h1 j (List.mem_range.2 hj)
    cases hg : Mir.gluedAt a b i j with
    | false => rfl
    | true => rw [if_pos hg] at h2; cases h2
  | some r =>
    obtain ⟨i, hi, h1⟩ := List.exists_of_findSome?_eq_some h
    obtain ⟨j, hj, h2⟩ := List.exists_of_findSome?_eq_some h1
    refine .inr ⟨i, j, List.mem_range.1 hi, List.mem_range.1 hj, ?_⟩
    by_cases hg : Mir.gluedAt a b i j = true
    · rw [if_pos hg] at h2; cases h2; exact ⟨hg, rfl⟩
    · rw [if_neg hg] at h2; cases h2
/-- a side in common, turned about -/
def Match (a b : List Pt) (x2 x1 : Pt) (A B : List Pt) : Prop := Rot a (x2 :: (A ++ [x1])) ∧ Rot b (x1 :: (B ++ [x2]))
theorem match_at {a b : List Pt} {i j : Nat} (hi : i < a.length) (hj : j < b.length) (la : 3 ≤ a.length) (lb : 3 ≤ b.length) (h : Mir.gluedAt a b i j = true) :
    Match a b (atI a i) (atI b j) (inner (rotL a i)) (inner (rotL b j)) ∧ Mir.gluedRow a b i j = Mir.bent (atI a i :: (inner (rotL a i) ++ atI b j :: inner (rotL b j))) := by
  unfold Mir.gluedAt at h
  rw [Bool.and_eq_true, decide_eq_true_iff, decide_eq_true_iff] at h
  have ra := rotL_row hi (by omega)
  have rb := rotL_row hj (by omega)
  refine ⟨⟨?_, ?_⟩, ?_⟩
  · have := rotL_rot a i; rw [ra, h.2] at this; exact this
  · have := rotL_rot b j; rw [rb, ← h.1] at this; exact this
  · unfold Mir.gluedRow
    rw [show rotL a i ++ inner (rotL b j) = (atI a i :: (inner (rotL a i) ++ [atI a ((i : Int) - 1)])) ++ inner (rotL b j) by rw [← ra], h.2]
    simp
theorem match_iff {a b : List Pt} (la : 3 ≤ a.length) (lb : 3 ≤ b.length) {x1 x2 : Pt} {A B : List Pt} (m : Match a b x2 x1 A B) : ∃ i j, i < a.length ∧ j < b.length ∧ Mir.gluedAt a b i j = true := by
  obtain ⟨i, hi, ei⟩ := rot_rotL m.1 (by intro e; subst e; simp at la)
  obtain ⟨j, hj, ej⟩ := rot_rotL m.2 (by intro e; subst e; simp at lb)
  refine ⟨i, j, hi, hj, ?_⟩
  have ra := rotL_row hi (by omega)
  have rb := rotL_row hj (by omega)
  rw [← ei] at ra
  rw [← ej] at rb
  rw [inner_row] at ra rb
  simp at ra rb
  unfold Mir.gluedAt
  rw [← ra.1, ← ra.2, ← rb.1, ← rb.2]
  simp
/-- what's kept of it, where A and B aren't empty -/
theorem bent_row {x1 x2 pf pl nf nl : Pt} {A B A1 A2 B1 B2 : List Pt} (eA1 : A = A1 ++ [pl]) (eA2 : A = pf :: A2) (eB1 : B = B1 ++ [nl]) (eB2 : B = nf :: B2)
    (hn : ∀ p ∈ x2 :: (A ++ x1 :: B), Nm p) (tA : T3 ((x2 :: (A ++ [x1])).map vP)) (tB : T3 ((x1 :: (B ++ [x2])).map vP)) :
    Mir.bent (x2 :: (A ++ x1 :: B)) = if Mir.turning nl x2 pf < 0 ∨ Mir.turning pl x1 nf < 0 then [] else nl :: ((if 0 < Mir.turning nl x2 pf then [x2] else []) ++ (A ++ ((if 0 < Mir.turning pl x1 nf then [x1] else []) ++ B1))) := by
  have dp : ∀ {p}, p ∈ x2 :: (A ++ x1 :: B) → 0 < p.d := fun {p} h => (hn p h).pos
  have pos : ∀ {m : List Pt}, T3 (m.map vP) → (∀ p ∈ m, p ∈ x2 :: (A ++ x1 :: B)) → ∀ t ∈ trips m, 0 < tv t := fun {m} tm hm t ht => by
    have s := trips_sub ht
    have g : ∀ {p}, p ∈ [t.1, t.2.1, t.2.2] → 0 < p.d := fun {p} hp => dp (hm p (s.subset hp))
    refine (turning_pos (g (by simp)) (g (by simp)) (g (by simp))).2 ?_
    exact tm.turn3 (by have := s.map vP; simpa using this)
  -- the last two
  obtain ⟨z, Z, ez⟩ : ∃ z Z, x1 :: B = Z ++ [z, nl] := by
    cases B1 with
    | nil => exact ⟨x1, [], by rw [eB1]; rfl⟩
    | cons y B1 => 
      have : y :: B1 ≠ [] := by simp
      refine ⟨(y :: B1).getLast this, x1 :: (y :: B1).dropLast, ?_⟩
      rw [eB1]
      have e := List.dropLast_concat_getLast this
      conv => lhs; rw [← e]
      simp
  have l0 : 2 ≤ (x2 :: (A ++ x1 :: B)).length := by simp; omega
  have er : x2 :: (A ++ x1 :: B) = (x2 :: (A ++ Z)) ++ [z, nl] := by rw [ez]; simp
  have at1 : atI (x2 :: (A ++ x1 :: B)) (-1) = nl := by
    rw [er]
    have := atI_rowL x2 (A ++ Z ++ [z]) nl
    simp at this ⊢
    exact this
  have at2 : atI (x2 :: (A ++ x1 :: B)) (-2) = z := by
    rw [er]
    unfold atI
    rw [if_neg (by omega)]
    have : ((-2 : Int) + ((x2 :: (A ++ Z) ++ [z, nl]).length : Int)).toNat = (x2 :: (A ++ Z)).length := by simp; omega
    rw [this]
    simp [List.getD_eq_getElem?_getD]
  rw [bent_trips l0, at1, at2]
  -- the triples
  have eT : trips (z :: nl :: x2 :: (A ++ x1 :: B)) = (z, nl, x2) :: (nl, x2, pf) :: (trips (x2 :: (A ++ [x1])) ++ (pl, x1, nf) :: trips (x1 :: B)) := by
    have e1 : trips (z :: nl :: x2 :: (A ++ x1 :: B)) = (z, nl, x2) :: (nl, x2, pf) :: trips (x2 :: (A ++ x1 :: B)) := by
      rw [eA2]; simp [trips]
    have e2 : trips (x2 :: (A ++ x1 :: B)) = trips (x2 :: (A ++ [x1])) ++ trips (pl :: x1 :: B) := by
      have := trips_split (x2 :: A1) pl x1 B
      rw [eA1]; simpa using this
    have e3 : trips (pl :: x1 :: B) = (pl, x1, nf) :: trips (x1 :: B) := by rw [eB2]; simp [trips]
    rw [e1, e2, e3]
  rw [eT]
  have q1 : 0 < tv (z, nl, x2) := by
    refine pos tB (fun p hp => ?_) _ ?_
    · simp at hp ⊢; grind
    · have e : x1 :: (B ++ [x2]) = Z ++ z :: nl :: [x2] := by
        have : x1 :: (B ++ [x2]) = (x1 :: B) ++ [x2] := by simp
        rw [this, ez]; simp
      rw [e, trips_split]
      simp [trips]
  have q2 : ∀ t ∈ trips (x2 :: (A ++ [x1])), 0 < tv t := pos tA (fun p hp => by simp at hp ⊢; grind)
  have q3 : ∀ t ∈ trips (x1 :: B), 0 < tv t := pos (tB.sub (by
    have : (x1 :: B).Sublist (x1 :: (B ++ [x2])) := by simp
    exact this.map vP)) (fun p hp => by simp at hp ⊢; grind)
  have m2 := trips_mid (x2 :: (A ++ [x1]))
  rw [inner_row] at m2
  have m3 := trips_mid (x1 :: B)
  rw [eB1, ← List.cons_append, show inner ((x1 :: B1) ++ [nl]) = B1 by simp [inner]] at m3
  by_cases hneg : Mir.turning nl x2 pf < 0 ∨ Mir.turning pl x1 nf < 0
  · rw [if_pos hneg, if_neg]
    rw [List.all_eq_true]
    intro h
    rcases hneg with h' | h'
    · have := h (nl, x2, pf) (by simp)
      simp at this
      change 0 ≤ Mir.turning nl x2 pf at this
      omega
    · have := h (pl, x1, nf) (by simp)
      simp at this
      change 0 ≤ Mir.turning pl x1 nf at this
      omega
  · rw [if_neg hneg, if_pos]
    · have f2 : (trips (x2 :: (A ++ [x1]))).filter (fun t => decide (0 < tv t)) = trips (x2 :: (A ++ [x1])) := List.filter_eq_self.2 fun t ht => decide_eq_true (q2 t ht)
      have f3 : (trips (x1 :: B)).filter (fun t => decide (0 < tv t)) = trips (x1 :: B) := List.filter_eq_self.2 fun t ht => decide_eq_true (q3 t ht)
      rw [List.filter_cons, if_pos (decide_eq_true q1), List.filter_cons, List.filter_append, f2, List.filter_cons, f3]
      have eB : trips (x1 :: B) = trips (x1 :: (B1 ++ [nl])) := by rw [eB1]
      by_cases c1 : 0 < Mir.turning nl x2 pf <;> by_cases c2 : 0 < Mir.turning pl x1 nf <;> simp [tv, c1, c2, m2, eB] <;> simpa using m3
    · rw [List.all_eq_true]
      intro t ht
      simp only [List.mem_cons, List.mem_append] at ht
      have : ¬ tv t < 0 := by
        rcases ht with rfl | rfl | ht | rfl | ht
        · omega
        · exact fun h => hneg (.inl h)
        · have := q2 t ht; omega
        · exact fun h => hneg (.inr h)
        · have := q3 t ht; omega
      simp [this]
end Geo
end

section
set_option linter.all false
namespace Geo
open Mir (Pt atI rotL inner)
/-- the side in common is the only one -/
theorem v_uniq {p q : List V} (tp : T3 p) (lp : 3 ≤ p.length) (tq : T3 q) (lq : 3 ≤ q.length) {x1 x2 y1 y2 : V} {P N P' N' : List V}
    (r1 : Rot p (P ++ [x1, x2])) (r2 : Rot q (N ++ [x2, x1])) (s1 : Rot p (P' ++ [y1, y2])) (s2 : Rot q (N' ++ [y2, y1])) : y1 = x1 ∧ y2 = x2 ∧ P' = P ∧ N' = N := by
  have np := tp.nodup lp
  have nq := tq.nodup lq
  have a1 : Rot p (x1 :: x2 :: P) := r1.trans ⟨P, [x1, x2], rfl, rfl⟩
  have a2 : Rot q (x2 :: x1 :: N) := r2.trans ⟨N, [x2, x1], rfl, rfl⟩
  have b1 : Rot p (y1 :: y2 :: P') := s1.trans ⟨P', [y1, y2], rfl, rfl⟩
  have b2 : Rot q (y2 :: y1 :: N') := s2.trans ⟨N', [y2, y1], rfl, rfl⟩
  have e1 := tp.edge_pos a1
  have e2 := tq.edge_pos a2
  have at_ : ∀ y, y ∈ p → y ∈ q → y = x1 ∨ y = x2 := fun y h1 h2 => by
    have h1 := a1.mem.1 h1
    have h2 := a2.mem.1 h2
    simp only [List.mem_cons] at h1 h2
    rcases h1 with h | h | h
    · exact .inl h
    · exact .inr h
    · rcases h2 with k | k | k
      · exact .inr k
      · exact .inl k
      · have u := e1 y h
        have v := e2 y k
        rw [turn_swap] at v
        exact absurd u (by grind)
  have y1m := at_ y1 (b1.mem.2 (by simp)) (b2.mem.2 (by simp))
  have y2m := at_ y2 (b1.mem.2 (by simp)) (b2.mem.2 (by simp))
  have nb := (b1.perm.nodup_iff).1 np
  have hne : y1 ≠ y2 := by rw [List.nodup_cons] at nb; intro e; apply nb.1; simp [e]
  have na := (a1.perm.nodup_iff).1 np
  have nc := (a2.perm.nodup_iff).1 nq
  have main : y1 = x1 ∧ y2 = x2 := by
    rcases y1m with h | h
    · rcases y2m with k | k
      · exact absurd (h.trans k.symm) hne
      · exact ⟨h, k⟩
    · rcases y2m with k | k
      · exfalso
        subst h; subst k
        have b3 : Rot p (y2 :: (P' ++ [y1])) := rot_step b1
        have u := rot_uniq (a1.symm.trans b3) na
        have hP : P ≠ [] := by
          intro e; subst e
          have := a1.length; simp at this; omega
        have l1 := congrArg List.getLast? u
        rw [List.getLast?_cons, List.getLast?_append] at l1
        simp at l1
        have hm : P.getLast? = some y1 := by
          cases hq : P.getLast? with
          | none => exact absurd (List.getLast?_eq_none_iff.1 hq) hP
          | some w => rw [hq] at l1; simp at l1; rw [l1]
        have := List.mem_of_getLast? hm
        rw [List.nodup_cons, List.nodup_cons] at na
        exact na.2.1 this
      · exact absurd (h.trans k.symm) hne
  obtain ⟨h, k⟩ := main
  subst h; subst k
  refine ⟨rfl, rfl, ?_, ?_⟩
  · have := rot_uniq (a1.symm.trans b1) na
    exact (List.cons.inj this).2.symm
  · have := rot_uniq (a2.symm.trans b2) nc
    exact (List.cons.inj this).2.symm
theorem last_uniq {α : Type} {A B : List α} {a b : α} (h : A ++ [a] = B ++ [b]) : a = b := (List.append_inj' h rfl).2 |> List.cons.inj |>.1
/-- a match: what's made of it -/
theorem match_made {a b : List Pt} (ga : Good a) (gb : Good b) {x1 x2 : Pt} {A B : List Pt} (m : Match a b x2 x1 A B) :
    (Mir.bent (x2 :: (A ++ x1 :: B)) = [] ∧ ¬ ∃ P N pf pl nf nl y1 y2, Makes (a.map vP) (b.map vP) P N pf pl nf nl y1 y2) ∨
    (Good (Mir.bent (x2 :: (A ++ x1 :: B))) ∧ (∃ P N pf pl nf nl y1 y2, Makes (a.map vP) (b.map vP) P N pf pl nf nl y1 y2 ∧ Rot ((Mir.bent (x2 :: (A ++ x1 :: B))).map vP) (glueRow P N pf pl nf nl y1 y2)) ∧
      (∀ p ∈ Mir.bent (x2 :: (A ++ x1 :: B)), p ∈ a ∨ p ∈ b) ∧ (Mir.bent (x2 :: (A ++ x1 :: B))).length + 2 ≤ a.length + b.length) := by
  obtain ⟨m1, m2⟩ := m
  have lA : A ≠ [] := by intro e; subst e; have := m1.length; have := ga.len; simp at *; omega
  have lB : B ≠ [] := by intro e; subst e; have := m2.length; have := gb.len; simp at *; omega
  obtain ⟨pf, A2, eA2⟩ := ends lA
  obtain ⟨A1, pl, eA1⟩ := ends' lA
  obtain ⟨nf, B2, eB2⟩ := ends lB
  obtain ⟨B1, nl, eB1⟩ := ends' lB
  have hn : ∀ p ∈ x2 :: (A ++ x1 :: B), Nm p := fun p hp => by
    simp only [List.mem_cons, List.mem_append] at hp
    rcases hp with h | h | h | h
    · exact ga.nm p (m1.mem.2 (by simp [h]))
    · exact ga.nm p (m1.mem.2 (by simp [h]))
    · exact ga.nm p (m1.mem.2 (by simp [h]))
    · exact gb.nm p (m2.mem.2 (by simp [h]))
  have tA := (m1.map vP).t3 ga.t3
  have tB := (m2.map vP).t3 gb.t3
  have e := bent_row eA1 eA2 eB1 eB2 hn tA tB
  have dp : ∀ {p}, p ∈ x2 :: (A ++ x1 :: B) → 0 < p.d := fun {p} h => (hn p h).pos
  have i1 : nl ∈ x2 :: (A ++ x1 :: B) := by rw [eB1]; simp
  have i2 : nf ∈ x2 :: (A ++ x1 :: B) := by rw [eB2]; simp
  have i3 : pl ∈ x2 :: (A ++ x1 :: B) := by rw [eA1]; simp
  have i4 : pf ∈ x2 :: (A ++ x1 :: B) := by rw [eA2]; simp
  have i5 : x1 ∈ x2 :: (A ++ x1 :: B) := by simp
  have i6 : x2 ∈ x2 :: (A ++ x1 :: B) := by simp
  have v2 : Rot (a.map vP) (A.map vP ++ [vP x1, vP x2]) := by
    have := rot_step m1
    have := this.map vP
    simpa using this
  have w2 : Rot (b.map vP) (B.map vP ++ [vP x2, vP x1]) := by
    have := rot_step m2
    have := this.map vP
    simpa using this
  by_cases hneg : Mir.turning nl x2 pf < 0 ∨ Mir.turning pl x1 nf < 0
  · rw [if_pos hneg] at e
    refine .inl ⟨e, ?_⟩
    rintro ⟨P, N, qf, ql, mf, ml, y1, y2, k1, k2, g⟩
    obtain ⟨h1, h2, h3, h4⟩ := v_uniq ga.t3 ga.len' gb.t3 gb.len' v2 w2 k1 k2
    subst h1; subst h2; subst h3; subst h4
    obtain ⟨U1, u1⟩ := g.hP1
    obtain ⟨U2, u2⟩ := g.hP2
    obtain ⟨U3, u3⟩ := g.hN1
    obtain ⟨U4, u4⟩ := g.hN2
    rw [eA1] at u1
    rw [eA2] at u2
    rw [eB1] at u3
    rw [eB2] at u4
    simp only [List.map_append, List.map_cons, List.map_nil] at u1 u2 u3 u4
    have c1 := last_uniq u1
    have c2 := (List.cons.inj u2).1
    have c3 := last_uniq u3
    have c4 := (List.cons.inj u4).1
    have t1 := g.t1
    have t2 := g.t2
    rw [← c1, ← c4] at t1
    rw [← c3, ← c2] at t2
    rcases hneg with z | z
    · have := (turning_neg (dp i1) (dp i6) (dp i4)).1 z; grind
    · have := (turning_neg (dp i3) (dp i5) (dp i2)).1 z; grind
  · rw [if_neg hneg] at e
    have n1 : 0 ≤ turn (vP pl) (vP x1) (vP nf) := by
      false_or_by_contra
      exact hneg (.inr ((turning_neg (dp i3) (dp i5) (dp i2)).2 (by grind)))
    have n2 : 0 ≤ turn (vP nl) (vP x2) (vP pf) := by
      false_or_by_contra
      exact hneg (.inl ((turning_neg (dp i1) (dp i6) (dp i4)).2 (by grind)))
    have g : Glue (A.map vP) (B.map vP) (vP pf) (vP pl) (vP nf) (vP nl) (vP x1) (vP x2) :=
      ⟨v2.t3 ga.t3, w2.t3 gb.t3, ⟨A1.map vP, by rw [eA1]; simp⟩, ⟨A2.map vP, by rw [eA2]; simp⟩, ⟨B1.map vP, by rw [eB1]; simp⟩, ⟨B2.map vP, by rw [eB2]; simp⟩, n1, n2⟩
    have z1 := turning_pos (dp i3) (dp i5) (dp i2)
    have z2 := turning_pos (dp i1) (dp i6) (dp i4)
    have k1 : (if 0 < Mir.turning pl x1 nf then [x1] else []).map vP = keep (turn (vP pl) (vP x1) (vP nf)) (vP x1) := by
      unfold keep
      by_cases c : 0 < Mir.turning pl x1 nf
      · have := z1.1 c
        rw [if_pos c, if_neg (by intro h; rw [h] at this; exact Rat.lt_irrefl this)]; rfl
      · have : turn (vP pl) (vP x1) (vP nf) = 0 := by
          have := fun h => c (z1.2 h)
          grind
        rw [if_neg c, if_pos this]; rfl
    have k2 : (if 0 < Mir.turning nl x2 pf then [x2] else []).map vP = keep (turn (vP nl) (vP x2) (vP pf)) (vP x2) := by
      unfold keep
      by_cases c : 0 < Mir.turning nl x2 pf
      · have := z2.1 c
        rw [if_pos c, if_neg (by intro h; rw [h] at this; exact Rat.lt_irrefl this)]; rfl
      · have : turn (vP nl) (vP x2) (vP pf) = 0 := by
          have := fun h => c (z2.2 h)
          grind
        rw [if_neg c, if_pos this]; rfl
    have r : Rot ((Mir.bent (x2 :: (A ++ x1 :: B))).map vP) (glueRow (A.map vP) (B.map vP) (vP pf) (vP pl) (vP nf) (vP nl) (vP x1) (vP x2)) := by
      rw [e]
      simp only [List.map_cons, List.map_append, k1, k2]
      unfold glueRow
      refine ⟨vP nl :: keep (turn (vP nl) (vP x2) (vP pf)) (vP x2), A.map vP ++ (keep (turn (vP pl) (vP x1) (vP nf)) (vP x1) ++ B1.map vP), by simp, ?_⟩
      rw [eB1]; simp
    refine .inr ⟨⟨?_, r.symm.t3 g.t3, ?_⟩, ⟨_, _, _, _, _, _, _, _, ⟨v2, w2, g⟩, r⟩, ?_, ?_⟩
    · intro p hp
      rw [e] at hp
      apply hn
      rw [eB1]
      simp only [List.mem_cons, List.mem_append] at hp ⊢
      rcases hp with h | h | h | h | h
      · simp [h]
      · split at h <;> simp at h; simp [h]
      · simp [h]
      · split at h <;> simp at h; simp [h]
      · simp [h]
    · have := g.len
      rw [← r.length] at this
      simpa using this
    · intro p hp
      rw [e] at hp
      have ma : ∀ {p}, p ∈ x2 :: (A ++ [x1]) → p ∈ a := fun h => m1.mem.2 h
      have mb : ∀ {p}, p ∈ x1 :: (B ++ [x2]) → p ∈ b := fun h => m2.mem.2 h
      rw [eB1] at mb
      simp only [List.mem_cons, List.mem_append] at hp
      rcases hp with h | h | h | h | h
      · exact .inr (mb (by simp [h]))
      · split at h <;> simp at h; exact .inl (ma (by simp [h]))
      · exact .inl (ma (by simp [h]))
      · split at h <;> simp at h; exact .inl (ma (by simp [h]))
      · exact .inr (mb (by simp [h]))
    · rw [e]
      have h1 := m1.length
      have h2 := m2.length
      rw [eB1] at h2
      have hs : ∀ (c : Prop) [Decidable c] (x : Pt), (if c then [x] else []).length ≤ 1 := fun c _ x => by split <;> simp
      have := hs (0 < Mir.turning nl x2 pf) x2
      have := hs (0 < Mir.turning pl x1 nf) x1
      simp only [List.length_cons, List.length_append, List.length_nil] at *
      omega
/-- two pieces glued: nothing, where they make none; or what they make -/
theorem glued_made {a b : List Pt} (ga : Good a) (gb : Good b) :
    (Mir.glued a b = [] ∧ ¬ ∃ P N pf pl nf nl y1 y2, Makes (a.map vP) (b.map vP) P N pf pl nf nl y1 y2) ∨
    (Good (Mir.glued a b) ∧ (∃ P N pf pl nf nl y1 y2, Makes (a.map vP) (b.map vP) P N pf pl nf nl y1 y2 ∧ Rot ((Mir.glued a b).map vP) (glueRow P N pf pl nf nl y1 y2)) ∧
      (∀ p ∈ Mir.glued a b, p ∈ a ∨ p ∈ b) ∧ (Mir.glued a b).length + 2 ≤ a.length + b.length) := by
  rcases glued_cases a b with ⟨h1, h2⟩ | ⟨i, j, hi, hj, h1, h2⟩
  · refine .inl ⟨h1, ?_⟩
    rintro ⟨P, N, qf, ql, mf, ml, y1, y2, k1, k2, g⟩
    obtain ⟨u, hu, eu⟩ := rot_unmap k1
    obtain ⟨w, hw, ew⟩ := rot_unmap k2
    obtain ⟨A, u', rfl, eA, eu'⟩ := List.map_eq_append_iff.mp eu.symm
    obtain ⟨B, w', rfl, eB, ew'⟩ := List.map_eq_append_iff.mp ew.symm
    match u', eu' with
    | [p1, p2], eu' =>
      match w', ew' with
      | [q2, q1], ew' =>
        simp only [List.map_cons, List.map_nil, List.cons.injEq, and_true] at eu' ew'
        have n1 : q1 = p1 := (gb.nm _ (hw.mem.2 (by simp))).inj (ga.nm _ (hu.mem.2 (by simp))) (by rw [ew'.2, eu'.1])
        have n2 : q2 = p2 := (gb.nm _ (hw.mem.2 (by simp))).inj (ga.nm _ (hu.mem.2 (by simp))) (by rw [ew'.1, eu'.2])
        subst n1; subst n2
        have m : Match a b q2 q1 A B := ⟨rot_back (r := A ++ [q1]) (by simpa using hu), rot_back (r := B ++ [q2]) (by simpa using hw)⟩
        obtain ⟨i, j, hi, hj, e⟩ := match_iff ga.len gb.len m
        rw [h2 i hi j hj] at e
        cases e
  · obtain ⟨m, e⟩ := match_at hi hj ga.len gb.len h1
    rw [h2, e]
    exact match_made ga gb m
theorem makes_symm {p q P N : List V} {pf pl nf nl x1 x2 : V} (m : Makes p q P N pf pl nf nl x1 x2) : Makes q p N P nf nl pf pl x2 x1 := ⟨m.2.1, m.1, m.2.2.symm⟩
end Geo
end

section
set_option Elab.async false
set_option linter.all false
set_option maxRecDepth 100000
set_option maxHeartbeats 2000000
/-! A walk over values that don't change: what's known lies in a heap of its own (the base), which the heap at hand holds. -/
namespace Y
open PySem L2
open Evl (Ex)
abbrev Frag := PySem.W.Frag

/-- data: numbers, lists and tuples of data; a list of numbers that's read alone -/
inductive Dat where
  | non
  | bl (b : Bool)
  | int (i : Int)
  | lst (ds : List Dat)
  | tup (ds : List Dat)
  | raw (ns : List Int)

mutual
inductive Rp (K : Frag) (H : Hp) : V → Dat → Prop
  | non : Rp K H .non .non
  | bl (b : Bool) : Rp K H (.bl b) (.bl b)
  | int (i : Int) : Rp K H (.int i) (.int i)
  | lst {a : Addr} {xs : List V} {ds : List Dat} : H a = some (.lst xs) → RpAll K H xs ds → Rp K H (.ref a) (.lst ds)
  | tup {a : Addr} {xs : List V} {ds : List Dat} : SqT K H a xs → RpAll K H xs ds → Rp K H (.ref a) (.tup ds)
  | raw {a : Addr} {ns : List Int} : SqL K H a (ns.map V.int) → Rp K H (.ref a) (.raw ns)
inductive RpAll (K : Frag) (H : Hp) : List V → List Dat → Prop
  | nil : RpAll K H [] []
  | cons {v : V} {vs : List V} {d : Dat} {ds : List Dat} : Rp K H v d → RpAll K H vs ds → RpAll K H (v :: vs) (d :: ds)
end

variable {K : Frag}
mutual
theorem Rp.ex {H H' : Hp} (e : Ex H H') : ∀ {v : V} {d : Dat}, Rp K H v d → Rp K H' v d
  | _, _, .non => .non
  | _, _, .bl b => .bl b
  | _, _, .int i => .int i
  | _, _, .lst h a => .lst (e _ _ h) (RpAll.ex e a)
  | _, _, .tup h a => .tup (Evl.ex_t e h) (RpAll.ex e a)
  | _, _, .raw h => .raw (Evl.ex_l e h)
theorem RpAll.ex {H H' : Hp} (e : Ex H H') : ∀ {vs : List V} {ds : List Dat}, RpAll K H vs ds → RpAll K H' vs ds
  | _, _, .nil => .nil
  | _, _, .cons h r => .cons (Rp.ex e h) (RpAll.ex e r)
end
theorem RpAll.len {H : Hp} : ∀ {vs : List V} {ds : List Dat}, RpAll K H vs ds → vs.length = ds.length
  | _, _, .nil => rfl
  | _, _, .cons _ r => by simp [RpAll.len r]
theorem RpAll.get {H : Hp} : ∀ {vs : List V} {ds : List Dat} {i : Nat} {d : Dat}, RpAll K H vs ds → ds[i]? = some d → ∃ v, vs[i]? = some v ∧ Rp K H v d
  | _, _, i, d, .nil, h => by simp at h
  | _, _, 0, d, .cons r _, h => by simp at h; subst h; exact ⟨_, rfl, r⟩
  | _, _, i + 1, d, .cons _ t, h => by
    obtain ⟨v, a, b⟩ := RpAll.get (i := i) (d := d) t (by simpa using h)
    exact ⟨v, by simpa using a, b⟩
theorem RpAll.get' {H : Hp} : ∀ {vs : List V} {ds : List Dat} {i : Nat} {v : V}, RpAll K H vs ds → vs[i]? = some v → ∃ d, ds[i]? = some d ∧ Rp K H v d
  | _, _, i, d, .nil, h => by simp at h
  | _, _, 0, d, .cons r _, h => by simp at h; subst h; exact ⟨_, rfl, r⟩
  | _, _, i + 1, d, .cons _ t, h => by
    obtain ⟨v, a, b⟩ := RpAll.get' (i := i) (v := d) t (by simpa using h)
    exact ⟨v, by simpa using a, b⟩
theorem RpAll.append {H : Hp} : ∀ {xs ys : List V} {ds es : List Dat}, RpAll K H xs ds → RpAll K H ys es → RpAll K H (xs ++ ys) (ds ++ es)
  | _, _, _, _, .nil, s => s
  | _, _, _, _, .cons r t, s => .cons r (RpAll.append t s)
theorem RpAll.take {H : Hp} : ∀ {xs : List V} {ds : List Dat} (n : Nat), RpAll K H xs ds → RpAll K H (xs.take n) (ds.take n)
  | _, _, 0, _ => .nil
  | _, _, _ + 1, .nil => .nil
  | _, _, n + 1, .cons r t => .cons r (RpAll.take n t)
theorem RpAll.drop {H : Hp} : ∀ {xs : List V} {ds : List Dat} (n : Nat), RpAll K H xs ds → RpAll K H (xs.drop n) (ds.drop n)
  | _, _, 0, r => r
  | _, _, _ + 1, .nil => .nil
  | _, _, n + 1, .cons _ t => RpAll.drop n t
theorem RpAll.set {H : Hp} {x : V} {d : Dat} (r : Rp K H x d) : ∀ {xs : List V} {ds : List Dat} (n : Nat), RpAll K H xs ds → RpAll K H (xs.set n x) (ds.set n d)
  | _, _, _, .nil => .nil
  | _, _, 0, .cons _ t => .cons r t
  | _, _, n + 1, .cons q t => .cons q (RpAll.set r n t)
theorem RpAll.erase {H : Hp} : ∀ {xs : List V} {ds : List Dat} (n : Nat), RpAll K H xs ds → RpAll K H (xs.eraseIdx n) (ds.eraseIdx n)
  | _, _, _, .nil => .nil
  | _, _, 0, .cons _ t => t
  | _, _, n + 1, .cons q t => .cons q (RpAll.erase n t)
theorem RpAll.ints {H : Hp} : ∀ {vs : List V} {ns : List Int}, RpAll K H vs (ns.map Dat.int) → vs = ns.map V.int
  | _, [], h => by cases h; rfl
  | _, n :: ns, h => by
    cases h with
    | cons a b => cases a; rw [RpAll.ints b]; rfl
theorem RpAll.ofInts {H : Hp} : ∀ (ns : List Int), RpAll K H (ns.map V.int) (ns.map Dat.int)
  | [] => .nil
  | n :: ns => .cons (.int n) (RpAll.ofInts ns)

/-- base B, heap A; then B', A': all that was there is there, and what's known now was known or is new -/
structure Grow (B A B' A' : Hp) : Prop where
  aa : Ex A A'
  bb : Ex B B'
  ba : Ex B' A'
  new : ∀ a, B' a ≠ none → B a ≠ none ∨ A a = none
theorem Grow.refl {B A : Hp} (h : Ex B A) : Grow B A B A := ⟨Ex.refl A, Ex.refl B, h, fun _ x => .inl x⟩
theorem Grow.trans {B A B1 A1 B2 A2 : Hp} (g : Grow B A B1 A1) (h : Grow B1 A1 B2 A2) : Grow B A B2 A2 :=
  ⟨g.aa.trans h.aa, g.bb.trans h.bb, h.ba, fun a x => by
    rcases h.new a x with y | y
    · exact g.new a y
    · right
      cases e : A a with
      | none => rfl
      | some o => have := g.aa a o e; rw [y] at this; cases this⟩
theorem Grow.fresh {B A B' A' : Hp} (g : Grow B A B' A') {p : Addr} (hb : B p = none) {o : HO} (ha : A p = some o) : B' p = none ∧ A' p = some o := by
  refine ⟨?_, g.aa p o ha⟩
  cases e : B' p with
  | none => rfl
  | some u =>
    rcases g.new p (by rw [e]; exact Option.some_ne_none _) with y | y
    · exact absurd hb y
    · rw [ha] at y; cases y
/-- a new object -/
theorem Grow.lay {B A : Hp} (h : Ex B A) {p : Addr} (hp : A p = none) (o : HO) : Grow B A (upd B p o) (upd A p o) := by
  have hb : B p = none := by
    cases e : B p with
    | none => rfl
    | some u => have := h p u e; rw [hp] at this; cases this
  refine ⟨Ex.new hp, Ex.new hb, fun a u e => ?_, fun a x => ?_⟩
  · by_cases ha : a = p
    · subst ha; rw [upd_same] at e ⊢; exact e
    · rw [upd_ne ha] at e ⊢; exact h a u e
  · by_cases ha : a = p
    · subst ha; exact .inr hp
    · rw [upd_ne ha] at x; exact .inl x

abbrev Env := List (Option Dat)
def Holds (K : Frag) (G : Env) (σ : L2.St) (B : Hp) : Prop := σ.length = G.length ∧ ∀ (i : Nat) (d : Dat), G[i]? = some (some d) → ∃ v, σ[i]? = some (some v) ∧ Rp K B v d
theorem Holds.ex {G : Env} {σ : L2.St} {B B' : Hp} (h : Holds K G σ B) (e : Ex B B') : Holds K G σ B' := ⟨h.1, fun i d x => by
  obtain ⟨v, a, b⟩ := h.2 i d x
  exact ⟨v, a, b.ex e⟩⟩
theorem Holds.set {G : Env} {σ : L2.St} {B : Hp} (h : Holds K G σ B) {i : Nat} {v : V} {d : Dat} (hv : Rp K B v d) (hl : i < σ.length) : Holds K (G.set i (some d)) (σ.set i (some v)) B := ⟨by simp [h.1], fun j e x => by
  by_cases hj : i = j
  · subst hj
    have : G.length > i := by rw [← h.1]; exact hl
    rw [List.getElem?_set_self this] at x
    cases x
    exact ⟨v, List.getElem?_set_self hl, hv⟩
  · rw [List.getElem?_set_ne hj] at x ⊢
    exact h.2 j e x⟩
/-- a slot is forgotten -/
theorem Holds.drop {G : Env} {σ : L2.St} {B : Hp} (h : Holds K G σ B) {i : Nat} {o : Option V} : Holds K (G.set i none) (σ.set i o) B := ⟨by simp [h.1], fun j e x => by
  by_cases hj : i = j
  · subst hj
    by_cases hl : i < G.length
    · rw [List.getElem?_set_self hl] at x; cases x
    · rw [List.getElem?_eq_none (by simp; omega)] at x; cases x
  · rw [List.getElem?_set_ne hj] at x ⊢
    exact h.2 j e x⟩

/-! ### expressions -/
def Val (K : Frag) (te : TE) (G : Env) (d : Dat) : Prop := ∀ σ B, Holds K G σ B → ∀ A, Ex B A → ∀ Q : VK, (∀ v B' A', Grow B A B' A' → Rp K B' v d → Q v A') → te σ A Q
def Vals (K : Frag) (ta : TA) (G : Env) (ds : List Dat) : Prop := ∀ σ B, Holds K G σ B → ∀ A, Ex B A → ∀ Q : List V → Hp → Prop, (∀ vs B' A', Grow B A B' A' → RpAll K B' vs ds → Q vs A') → ta σ A Q
def Tst (K : Frag) (tt : TT) (G : Env) (b : Bool) : Prop := ∀ σ B, Holds K G σ B → ∀ A, Ex B A → ∀ Q : Bool → Hp → Prop, (∀ B' A', Grow B A B' A' → Q b A') → tt σ A Q
def Prt (K : Frag) (to : TO) (G : Env) (o : Option Int) : Prop := ∀ σ B, Holds K G σ B → ∀ A, Ex B A → ∀ Q : Option Int → Hp → Prop, (∀ B' A', Grow B A B' A' → Q o A') → to σ A Q

section
variable {G : Env} {ta tb te : TE} {d d1 d2 : Dat} {t u : TT}
theorem v_is {d' : Dat} (h : Val K te G d) (e : d = d') : Val K te G d' := e ▸ h
theorem v_var {i : Nat} (h : G[i]? = some (some d)) : Val K (tVar i) G d := fun σ B hs A e Q q => by
  obtain ⟨v, a, b⟩ := hs.2 i d h
  exact ⟨v, a, q v B A (Grow.refl e) b⟩
theorem v_int {i : Int} : Val K (tC (.int i)) G (.int i) := fun σ B hs A e Q q => q _ B A (Grow.refl e) (.int i)
theorem v_non : Val K (tC .non) G .non := fun σ B hs A e Q q => q _ B A (Grow.refl e) .non
theorem v_bl {b : Bool} : Val K (tC (.bl b)) G (.bl b) := fun σ B hs A e Q q => q _ B A (Grow.refl e) (.bl b)
/-- two operands, one after the other -/
theorem v_two {r : R2} (ha : Val K ta G d1) (hb : Val K tb G d2)
    (hr : ∀ x y B A, Ex B A → Rp K B x d1 → Rp K B y d2 → ∀ Q : VK, (∀ v B' A', Grow B A B' A' → Rp K B' v d → Q v A') → r x y A Q) : Val K (tOp r ta tb) G d := fun σ B hs A e Q q =>
  ha σ B hs A e _ fun x B1 A1 g1 r1 => hb σ B1 (hs.ex g1.bb) A1 g1.ba _ fun y B2 A2 g2 r2 =>
    hr x y B2 A2 g2.ba (r1.ex g2.bb) r2 Q fun v B3 A3 g3 r3 => q v B3 A3 ((g1.trans g2).trans g3) r3
theorem v_I0 {g : Int → Int → V} {f : Int → Int → Dat} {i j : Int} (ha : Val K ta G (.int i)) (hb : Val K tb G (.int j)) (hg : ∀ B, Rp K B (g i j) (f i j)) : Val K (tOp (rI0 g) ta tb) G (f i j) :=
  v_two ha hb fun x y B A e rx ry Q q => by
    cases rx; cases ry
    exact ⟨i, j, rfl, rfl, q _ B A (Grow.refl e) (hg B)⟩
theorem v_I {C : Int → Int → Prop} {g : Int → Int → V} {f : Int → Int → Dat} {i j : Int} (hc : C i j) (ha : Val K ta G (.int i)) (hb : Val K tb G (.int j)) (hg : ∀ B, Rp K B (g i j) (f i j)) : Val K (tOp (rI C g) ta tb) G (f i j) :=
  v_two ha hb fun x y B A e rx ry Q q => by
    cases rx; cases ry
    exact ⟨i, j, rfl, rfl, hc, q _ B A (Grow.refl e) (hg B)⟩
theorem v_add {i j : Int} (ha : Val K ta G (.int i)) (hb : Val K tb G (.int j)) : Val K (tOp (rI0 fun i j => .int (i + j)) ta tb) G (.int (i + j)) := v_I0 (f := fun i j => .int (i + j)) ha hb fun _ => .int _
theorem v_sub {i j : Int} (ha : Val K ta G (.int i)) (hb : Val K tb G (.int j)) : Val K (tOp (rI0 fun i j => .int (i - j)) ta tb) G (.int (i - j)) := v_I0 (f := fun i j => .int (i - j)) ha hb fun _ => .int _
/-- numbers of so many bits at most -/
structure Sz (n : Nat) (i : Int) : Prop where
  lt : i.natAbs < 2 ^ n
theorem v_mul {i j : Int} (ha : Val K ta G (.int i)) (hb : Val K tb G (.int j)) (hi : Sz 400000 i) (hj : Sz 400000 j) : Val K (tOp (rI CMulW fun i j => .int (i * j)) ta tb) G (.int (i * j)) :=
  v_I (f := fun i j => .int (i * j)) (wide_mul hi.lt hj.lt (by decide) (by decide) (by decide)) ha hb fun _ => .int _
def CDivZ (_ j : Int) : Prop := j ≠ 0 ∧ Sz 9000 j
theorem op_fdivZ {X : Cx} : OpR X (binaryOp .FloorDiv) (rI CDivZ fun i j => .int (i.fdiv j)) := opI fun i j _ _ _ _ _ hc q =>
  PyProof.Rows.floordiv_int hc.1 q (.inl (PyProof.noPylong_of_log2 (PySem.Flt.log2_lt_of (by decide) hc.2.lt)))
theorem v_div {i j : Int} (ha : Val K ta G (.int i)) (hb : Val K tb G (.int j)) (h0 : j ≠ 0) (hj : Sz 9000 j) : Val K (tOp (rI CDivZ fun i j => .int (i.fdiv j)) ta tb) G (.int (i.fdiv j)) :=
  v_I (f := fun i j => .int (i.fdiv j)) ⟨h0, hj⟩ ha hb fun _ => .int _
theorem v_mod {i j : Int} (ha : Val K ta G (.int i)) (hb : Val K tb G (.int j)) (h0 : j ≠ 0) : Val K (tOp (rI (fun _ j => j ≠ 0) fun i j => .int (i.fmod j)) ta tb) G (.int (i.fmod j)) :=
  v_I (f := fun i j => .int (i.fmod j)) h0 ha hb fun _ => .int _
theorem v_xor {i j : Int} (ha : Val K ta G (.int i)) (hb : Val K tb G (.int j)) : Val K (tOp (rI0 fun i j => .int (Builtin.bitXor i j)) ta tb) G (.int (Builtin.bitXor i j)) := v_I0 (f := fun i j => .int (Builtin.bitXor i j)) ha hb fun _ => .int _
theorem v_lt {i j : Int} (ha : Val K ta G (.int i)) (hb : Val K tb G (.int j)) : Val K (tOp (rI0 fun i j => .bl (decide (i < j))) ta tb) G (.bl (decide (i < j))) := v_I0 (f := fun i j => .bl (decide (i < j))) ha hb fun _ => .bl _
theorem v_le {i j : Int} (ha : Val K ta G (.int i)) (hb : Val K tb G (.int j)) : Val K (tOp (rI0 fun i j => .bl (decide (i ≤ j))) ta tb) G (.bl (decide (i ≤ j))) := v_I0 (f := fun i j => .bl (decide (i ≤ j))) ha hb fun _ => .bl _
theorem v_gt {i j : Int} (ha : Val K ta G (.int i)) (hb : Val K tb G (.int j)) : Val K (tOp (rI0 fun i j => .bl (decide (j < i))) ta tb) G (.bl (decide (j < i))) := v_I0 (f := fun i j => .bl (decide (j < i))) ha hb fun _ => .bl _
theorem v_ge {i j : Int} (ha : Val K ta G (.int i)) (hb : Val K tb G (.int j)) : Val K (tOp (rI0 fun i j => .bl (decide (j ≤ i))) ta tb) G (.bl (decide (j ≤ i))) := v_I0 (f := fun i j => .bl (decide (j ≤ i))) ha hb fun _ => .bl _
theorem v_eqI {i j : Int} (ha : Val K ta G (.int i)) (hb : Val K tb G (.int j)) : Val K (tOp rEq ta tb) G (.bl (decide (i = j))) :=
  v_two ha hb fun x y B A e rx ry Q q => by
    cases rx; cases ry
    refine ⟨rfl, q _ B A (Grow.refl e) ?_⟩
    have : decide (V.int i = V.int j) = decide (i = j) := by
      by_cases h : i = j
      · subst h; simp
      · rw [decide_eq_false h, decide_eq_false]; intro h'; exact h (by cases h'; rfl)
    rw [this]; exact .bl _
theorem v_neI {i j : Int} (ha : Val K ta G (.int i)) (hb : Val K tb G (.int j)) : Val K (tOp rNe ta tb) G (.bl (!decide (i = j))) :=
  v_two ha hb fun x y B A e rx ry Q q => by
    cases rx; cases ry
    refine ⟨rfl, q _ B A (Grow.refl e) ?_⟩
    have : decide (V.int i = V.int j) = decide (i = j) := by
      by_cases h : i = j
      · subst h; simp
      · rw [decide_eq_false h, decide_eq_false]; intro h'; exact h (by cases h'; rfl)
    rw [this]; exact .bl _
theorem v_neg {i : Int} (ha : Val K ta G (.int i)) : Val K (tUn (rU fun i => .int (-i)) ta) G (.int (-i)) := fun σ B hs A e Q q =>
  ha σ B hs A e _ fun x B1 A1 g1 r1 => by
    cases r1
    exact ⟨i, rfl, q _ B1 A1 g1 (.int _)⟩
/-- a tuple's, a list's item -/
theorem v_ixT {ds : List Dat} {j : Nat} (ha : Val K ta G (.tup ds)) (hb : Val K tb G (.int (j : Int))) (h : ds[j]? = some d) : Val K (tOp (rIxT K) ta tb) G d :=
  v_two ha hb fun x y B A e rx ry Q q => by
    cases rx with
    | tup h1 h2 =>
      cases ry
      obtain ⟨v, a, b⟩ := h2.get h
      exact ⟨_, _, _, v, rfl, rfl, Evl.ex_t e h1, atI_nat a, q _ B A (Grow.refl e) b⟩
theorem atI_neg {α : Type} {xs : List α} {j : Nat} {v : α} (h0 : 0 < j) (hj : j ≤ xs.length) (h : xs[xs.length - j]? = some v) : atI xs (-(j : Int)) = some v := by
  have e : ixN xs.length (-(j : Int)) = some (xs.length - j) := by
    unfold ixN
    rw [if_neg (by omega), if_pos (by omega)]
    congr 1; omega
  unfold atI; rw [e]; exact h
/-- the place of an index that may be below 0 -/
def plc (n : Nat) (i : Int) : Nat := if 0 ≤ i then i.toNat else (i + n).toNat
theorem atI_plc {α : Type} {xs : List α} {i : Int} {v : α} (h : xs[plc xs.length i]? = some v) (h0 : -(xs.length : Int) ≤ i) : atI xs i = some v := by
  unfold plc at h
  by_cases hi : 0 ≤ i
  · rw [if_pos hi] at h
    have := atI_nat h
    rwa [Int.toNat_of_nonneg hi] at this
  · rw [if_neg hi] at h
    have := atI_neg (j := i.natAbs) (xs := xs) (v := v) (by omega) (by omega) (by
      have : xs.length - i.natAbs = (i + xs.length).toNat := by omega
      rw [this]; exact h)
    have e : -(i.natAbs : Int) = i := by omega
    rwa [e] at this
theorem v_ixL {ds : List Dat} {i : Int} (ha : Val K ta G (.lst ds)) (hb : Val K tb G (.int i)) (h0 : -(ds.length : Int) ≤ i) (h : ds[plc ds.length i]? = some d) : Val K (tOp (rIxL K) ta tb) G d :=
  v_two ha hb fun x y B A e rx ry Q q => by
    cases rx with
    | lst h1 h2 =>
      cases ry
      have hl := h2.len
      obtain ⟨v, a, b⟩ := h2.get h
      exact ⟨_, _, _, v, rfl, rfl, Evl.sq_of (e _ _ h1), atI_plc (by rw [hl]; exact a) (by rw [hl]; exact h0), q _ B A (Grow.refl e) b⟩
theorem v_ixR {ns : List Int} {i n : Int} (ha : Val K ta G (.raw ns)) (hb : Val K tb G (.int i)) (h0 : -(ns.length : Int) ≤ i) (h : ns[plc ns.length i]? = some n) : Val K (tOp (rIxL K) ta tb) G (.int n) :=
  v_two ha hb fun x y B A e rx ry Q q => by
    cases rx with
    | raw h1 =>
      cases ry
      refine ⟨_, _, _, V.int n, rfl, rfl, Evl.ex_l e h1, atI_plc ?_ ?_, q _ B A (Grow.refl e) (.int n)⟩
      · rw [List.length_map, List.getElem?_map, h]; rfl
      · rw [List.length_map]; exact h0
theorem va_nil : Vals K tNil G [] := fun σ B hs A e Q q => q [] B A (Grow.refl e) .nil
theorem va_cons {tr : TA} {ds : List Dat} (h : Val K ta G d) (hr : Vals K tr G ds) : Vals K (tCons ta tr) G (d :: ds) := fun σ B hs A e Q q =>
  h σ B hs A e _ fun v B1 A1 g1 r1 => hr σ B1 (hs.ex g1.bb) A1 g1.ba _ fun vs B2 A2 g2 r2 => q (v :: vs) B2 A2 (g1.trans g2) (.cons (r1.ex g2.bb) r2)
theorem v_tup {tr : TA} {ds : List Dat} (h : Vals K tr G ds) (hl : ds.length ≤ 100000) : Val K (tTup tr) G (.tup ds) := fun σ B hs A e Q q =>
  h σ B hs A e _ fun vs B1 A1 g1 r1 => ⟨by rw [r1.len]; exact Evl.sz_of hl, fun p hp => q _ _ _ (g1.trans (Grow.lay g1.ba hp _)) (.tup (Evl.st_of upd_same) (r1.ex (Grow.lay g1.ba hp _).bb))⟩
theorem v_lst {tr : TA} {ds : List Dat} (h : Vals K tr G ds) (hl : ds.length ≤ 100000) : Val K (tLst tr) G (.lst ds) := fun σ B hs A e Q q =>
  h σ B hs A e _ fun vs B1 A1 g1 r1 => ⟨by rw [r1.len]; exact Evl.sz_of hl, fun p hp => q _ _ _ (g1.trans (Grow.lay g1.ba hp _)) (.lst upd_same (r1.ex (Grow.lay g1.ba hp _).bb))⟩
theorem v_cat {xs ys : List Dat} (ha : Val K ta G (.lst xs)) (hb : Val K tb G (.lst ys)) (hl : xs.length + ys.length ≤ 100000) : Val K (tOp rCat ta tb) G (.lst (xs ++ ys)) :=
  v_two ha hb fun x y B A e rx ry Q q => by
    cases rx with
    | @lst _ us _ h1 h2 =>
      cases ry with
      | @lst _ ws _ h3 h4 =>
        refine ⟨_, _, _, _, rfl, rfl, e _ _ h1, e _ _ h3, ?_, fun p hp => ?_⟩
        · rw [h2.len, h4.len]; exact Evl.sz_of hl
        · have g := Grow.lay e hp (HO.lst (us ++ ws))
          exact q _ _ _ g (.lst upd_same ((h2.ex g.bb).append (h4.ex g.bb)))
theorem p_none : Prt K tNoPart G none := fun σ B hs A e Q q => q B A (Grow.refl e)
theorem p_some {i : Int} (h : Val K te G (.int i)) : Prt K (tPart te) G (some i) := fun σ B hs A e Q q =>
  h σ B hs A e _ fun v B1 A1 g1 r1 => by
    cases r1
    exact ⟨i, rfl, q B1 A1 g1⟩
def cutD {α : Type} (xs : List α) (lo hi : Option Int) : List α := (xs.drop (HT.sIx xs.length 0 lo)).take (HT.sIx xs.length xs.length hi - HT.sIx xs.length 0 lo)
theorem RpAll.cut {H : Hp} {xs : List V} {ds : List Dat} (h : RpAll K H xs ds) (lo hi : Option Int) : RpAll K H (cutV xs lo hi) (cutD ds lo hi) := by
  have hl := h.len
  unfold cutV cutD
  rw [hl]
  exact (h.drop _).take _
theorem v_sl {tl th : TO} {ds : List Dat} {lo hi : Option Int} (h : Val K te G (.lst ds)) (h1 : Prt K tl G lo) (h2 : Prt K th G hi) : Val K (tSl (rSlL K) te tl th) G (.lst (cutD ds lo hi)) := fun σ B hs A e Q q =>
  h σ B hs A e _ fun v B1 A1 g1 r1 => h1 σ B1 (hs.ex g1.bb) A1 g1.ba _ fun B2 A2 g2 => h2 σ B2 (hs.ex (g1.trans g2).bb) A2 g2.ba _ fun B3 A3 g3 => by
    cases r1 with
    | @lst _ us _ k1 k2 =>
      have e3 : Ex B1 A3 := (g2.bb.trans g3.bb).trans g3.ba
      refine ⟨_, _, rfl, Evl.sq_of (e3 _ _ k1), fun p hp => ?_⟩
      have g := Grow.lay g3.ba hp (HO.lst (cutV us lo hi))
      refine q _ _ _ (((g1.trans g2).trans g3).trans g) (.lst upd_same ?_)
      exact RpAll.cut (k2.ex ((g2.bb.trans g3.bb).trans g.bb)) lo hi
theorem v_slR {tl th : TO} {ns : List Int} {lo hi : Option Int} (h : Val K te G (.raw ns)) (h1 : Prt K tl G lo) (h2 : Prt K th G hi) : Val K (tSl (rSlL K) te tl th) G (.lst ((cutD ns lo hi).map Dat.int)) := fun σ B hs A e Q q =>
  h σ B hs A e _ fun v B1 A1 g1 r1 => h1 σ B1 (hs.ex g1.bb) A1 g1.ba _ fun B2 A2 g2 => h2 σ B2 (hs.ex (g1.trans g2).bb) A2 g2.ba _ fun B3 A3 g3 => by
    cases r1 with
    | raw k1 =>
      have e3 : Ex B1 A3 := (g2.bb.trans g3.bb).trans g3.ba
      refine ⟨_, _, rfl, Evl.ex_l e3 k1, fun p hp => ?_⟩
      have g := Grow.lay g3.ba hp (HO.lst (cutV (ns.map V.int) lo hi))
      refine q _ _ _ (((g1.trans g2).trans g3).trans g) (.lst upd_same ?_)
      have : cutV (ns.map V.int) lo hi = (cutD ns lo hi).map V.int := by
        unfold cutV cutD
        rw [List.length_map, List.map_take, List.map_drop]
      rw [this]
      exact RpAll.ofInts _

/-! ### tests -/
theorem t_is {b b' : Bool} (h : Tst K t G b) (e : b = b') : Tst K t G b' := e ▸ h
theorem t_tst {b : Bool} (h : Val K te G (.bl b)) : Tst K (tTest te) G b := fun σ B hs A e Q q => h σ B hs A e _ fun v B1 A1 g1 r1 => by
  cases r1
  exact ⟨b, rfl, q B1 A1 g1⟩
theorem t_B {b : Bool} (h : Val K te G (.bl b)) : Tst K (tB te) G b := fun σ B hs A e Q q => h σ B hs A e _ fun v B1 A1 g1 r1 => by
  cases r1
  exact ⟨b, rfl, q B1 A1 g1⟩
theorem t_and {a b : Bool} (h1 : Tst K t G a) (h2 : a = true → Tst K u G b) : Tst K (tAnd t u) G (a && b) := fun σ B hs A e Q q => h1 σ B hs A e _ fun B1 A1 g1 => by
  cases a with
  | true => exact h2 rfl σ B1 (hs.ex g1.bb) A1 g1.ba Q fun B2 A2 g2 => q B2 A2 (g1.trans g2)
  | false => exact q B1 A1 g1
theorem t_or {a b : Bool} (h1 : Tst K t G a) (h2 : a = false → Tst K u G b) : Tst K (tOr t u) G (a || b) := fun σ B hs A e Q q => h1 σ B hs A e _ fun B1 A1 g1 => by
  cases a with
  | true => exact q B1 A1 g1
  | false => exact h2 rfl σ B1 (hs.ex g1.bb) A1 g1.ba Q fun B2 A2 g2 => q B2 A2 (g1.trans g2)
theorem t_not {a : Bool} (h1 : Tst K t G a) : Tst K (tNot t) G (!a) := fun σ B hs A e Q q => h1 σ B hs A e _ fun B1 A1 g1 => q B1 A1 g1
theorem v_and {a b : Bool} (h1 : Val K ta G (.bl a)) (h2 : a = true → Val K tb G (.bl b)) : Val K (tAndV ta tb) G (.bl (a && b)) := fun σ B hs A e Q q => h1 σ B hs A e _ fun v B1 A1 g1 r1 => by
  cases r1
  refine ⟨a, rfl, ?_⟩
  cases a with
  | true => exact h2 rfl σ B1 (hs.ex g1.bb) A1 g1.ba Q fun v B2 A2 g2 r2 => q v B2 A2 (g1.trans g2) r2
  | false => exact q _ B1 A1 g1 (.bl _)
theorem v_or {a b : Bool} (h1 : Val K ta G (.bl a)) (h2 : a = false → Val K tb G (.bl b)) : Val K (tOrV ta tb) G (.bl (a || b)) := fun σ B hs A e Q q => h1 σ B hs A e _ fun v B1 A1 g1 r1 => by
  cases r1
  refine ⟨a, rfl, ?_⟩
  cases a with
  | true => exact q _ B1 A1 g1 (.bl _)
  | false => exact h2 rfl σ B1 (hs.ex g1.bb) A1 g1.ba Q fun v B2 A2 g2 r2 => q v B2 A2 (g1.trans g2) r2
theorem v_not {a : Bool} (h1 : Val K ta G (.bl a)) : Val K (tNotV ta) G (.bl (!a)) := fun σ B hs A e Q q => h1 σ B hs A e _ fun v B1 A1 g1 r1 => by
  cases r1
  exact ⟨a, rfl, q _ B1 A1 g1 (.bl _)⟩
theorem v_if {b : Bool} (h : Tst K t G b) (h1 : b = true → Val K ta G d) (h2 : b = false → Val K tb G d) : Val K (tIf t ta tb) G d := fun σ B hs A e Q q => h σ B hs A e _ fun B1 A1 g1 => by
  cases b with
  | true => exact h1 rfl σ B1 (hs.ex g1.bb) A1 g1.ba Q fun v B2 A2 g2 r2 => q v B2 A2 (g1.trans g2) r2
  | false => exact h2 rfl σ B1 (hs.ex g1.bb) A1 g1.ba Q fun v B2 A2 g2 r2 => q v B2 A2 (g1.trans g2) r2

/-! ### calls -/
/-- what a def gives back, of arguments that are so -/
def Fn (K : Frag) (n : Nat) (pre : List Dat → Dat → Prop) : Sp := fun vs A Q _ => vs.length = n ∧ ∃ B ds d, Ex B A ∧ RpAll K B vs ds ∧ pre ds d ∧ ∀ v B' A', Grow B A B' A' → Rp K B' v d → Q v A'
theorem v_call {n : Nat} {pre : List Dat → Dat → Prop} {E : XK} {tr : TA} {ds : List Dat} (h : Vals K tr G ds) (hn : ds.length = n) (hp : pre ds d) : Val K (tCall (Fn K n pre) [] E tr) G d := fun σ B hs A e Q q =>
  h σ B hs A e _ fun vs B1 A1 g1 r1 => by
    rw [List.append_nil]
    exact ⟨by rw [r1.len, hn], B1, ds, d, g1.ba, r1, hp, fun v B2 A2 g2 r2 => q v B2 A2 (g1.trans g2) r2⟩
end
end Y
end

section
set_option Elab.async false
set_option linter.all false
set_option maxRecDepth 100000
set_option maxHeartbeats 2000000
namespace Y
open PySem L2
open Evl (Ex)
variable {K : Frag}

/-- where one stands: entered with B0, A0; the known slots are G -/
structure State (K : Frag) (B0 A0 : Hp) (G : Env) (σ : L2.St) (B A : Hp) : Prop where
  g : Grow B0 A0 B A
  h : Holds K G σ B
  len : σ.length = G.length
theorem State.grow {B0 A0 B A B' A' : Hp} {G : Env} {σ : L2.St} (S : State K B0 A0 G σ B A) (g : Grow B A B' A') : State K B0 A0 G σ B' A' := ⟨S.g.trans g, S.h.ex g.bb, S.len⟩
theorem State.set {B0 A0 B A : Hp} {G : Env} {σ : L2.St} (S : State K B0 A0 G σ B A) {i : Nat} {v : V} {d : Dat} (hv : Rp K B v d) (hi : i < G.length) : State K B0 A0 (G.set i (some d)) (σ.set i (some v)) B A :=
  ⟨S.g, S.h.set hv (by rw [S.len]; exact hi), by simp [S.len]⟩
theorem State.drop {B0 A0 B A : Hp} {G : Env} {σ : L2.St} (S : State K B0 A0 G σ B A) (i : Nat) (o : Option V) : State K B0 A0 (G.set i none) (σ.set i o) B A :=
  ⟨S.g, S.h.drop, by simp [S.len]⟩
/-- less is known -/
theorem State.weak {B0 A0 B A : Hp} {G G' : Env} {σ : L2.St} (S : State K B0 A0 G σ B A) (hl : G'.length = G.length) (h : ∀ (i : Nat) (d : Dat), G'[i]? = some (some d) → G[i]? = some (some d)) : State K B0 A0 G' σ B A :=
  ⟨S.g, ⟨by rw [S.len, hl], fun i d x => S.h.2 i d (h i d x)⟩, by rw [S.len, hl]⟩
/-- the base as it was, the heap later -/
theorem State.back {B0 A0 B A A' : Hp} {G : Env} {σ : L2.St} (S : State K B0 A0 G σ B A) (e : Ex A A') : State K B0 A0 G σ B A' :=
  ⟨⟨S.g.aa.trans e, S.g.bb, S.g.ba.trans e, S.g.new⟩, S.h, S.len⟩

/-- a list that grows, in the slot j: of this def's own -/
structure Mut (K : Frag) (A0 : Hp) (j : Nat) (σ : L2.St) (B A : Hp) (ds : List Dat) : Prop where
  ex : ∃ p xs, σ[j]? = some (some (.ref p)) ∧ A p = some (.lst xs) ∧ RpAll K B xs ds ∧ B p = none ∧ A0 p = none
theorem Mut.grow {A0 B A B' A' : Hp} {j : Nat} {σ : L2.St} {ds : List Dat} (m : Mut K A0 j σ B A ds) (g : Grow B A B' A') : Mut K A0 j σ B' A' ds := by
  obtain ⟨p, xs, h1, h2, h3, h4, h5⟩ := m.ex
  have f := g.fresh h4 h2
  exact ⟨p, xs, h1, f.2, h3.ex g.bb, f.1, h5⟩
theorem Mut.back {A0 B A A' : Hp} {j : Nat} {σ : L2.St} {ds : List Dat} (m : Mut K A0 j σ B A ds) (e : Ex A A') : Mut K A0 j σ B A' ds := by
  obtain ⟨p, xs, h1, h2, h3, h4, h5⟩ := m.ex
  exact ⟨p, xs, h1, e _ _ h2, h3, h4, h5⟩
theorem Mut.set {A0 B A : Hp} {i j : Nat} {σ : L2.St} {ds : List Dat} (m : Mut K A0 j σ B A ds) (hij : i ≠ j) (o : Option V) : Mut K A0 j (σ.set i o) B A ds := by
  obtain ⟨p, xs, h1, h⟩ := m.ex
  exact ⟨p, xs, by rw [List.getElem?_set_ne hij]; exact h1, h⟩
/-- .. is from now on known -/
theorem State.freeze {B0 A0 B A : Hp} {G : Env} {σ : L2.St} {j : Nat} {ds : List Dat} (S : State K B0 A0 G σ B A) (m : Mut K A0 j σ B A ds) (hj : j < G.length) :
    ∃ B', State K B0 A0 (G.set j (some (.lst ds))) σ B' A ∧ Ex B B' := by
  obtain ⟨p, xs, h1, h2, h3, h4, h5⟩ := m.ex
  have e : Ex B (upd B p (.lst xs)) := Ex.new h4
  refine ⟨upd B p (.lst xs), ⟨⟨S.g.aa, S.g.bb.trans e, fun a o q => ?_, fun a q => ?_⟩, ⟨by simp [S.len], fun i d x => ?_⟩, by simp [S.len]⟩, e⟩
  · by_cases ha : a = p
    · subst ha; rw [upd_same] at q; cases q; exact h2
    · rw [upd_ne ha] at q; exact S.g.ba a o q
  · by_cases ha : a = p
    · subst ha; exact .inr h5
    · rw [upd_ne ha] at q; exact S.g.new a q
  · by_cases hij : j = i
    · subst hij
      rw [List.getElem?_set_self hj] at x
      cases x
      exact ⟨_, h1, .lst upd_same (h3.ex e)⟩
    · rw [List.getElem?_set_ne hij] at x
      obtain ⟨v, a, b⟩ := S.h.2 i d x
      exact ⟨v, a, b.ex e⟩

section
variable {G : Env} {te ta : TE} {d : Dat} {B0 A0 B A : Hp} {σ : L2.St} {D : Ends} {tz tu tw : TS} {t : TT}
theorem s_ret (hv : Val K te G d) (S : State K B0 A0 G σ B A) (k : ∀ v B' A', Grow B0 A0 B' A' → Rp K B' v d → D.rt v A') : tRet te D σ A :=
  hv σ B S.h A S.g.ba _ fun v B' A' g r => k v B' A' (S.g.trans g) r
theorem s_set {i : Nat} (hv : Val K te G d) (S : State K B0 A0 G σ B A) (hi : i < G.length)
    (k : ∀ v B' A', Grow B A B' A' → State K B0 A0 (G.set i (some d)) (σ.set i (some v)) B' A' → D.nx (σ.set i (some v)) A') : tAsg te (gName i) D σ A :=
  hv σ B S.h A S.g.ba _ fun v B' A' g r => k v B' A' g ((S.grow g).set r hi)
theorem q_set {i : Nat} (hv : Val K te G d) (S : State K B0 A0 G σ B A) (hi : i < G.length)
    (k : ∀ v B' A', Grow B A B' A' → State K B0 A0 (G.set i (some d)) (σ.set i (some v)) B' A' → tz D (σ.set i (some v)) A') : tSeq (tAsg te (gName i)) tz D σ A :=
  s_set (D := { D with nx := tz D }) hv S hi k
theorem s_if {b : Bool} (ht : Tst K t G b) (S : State K B0 A0 G σ B A) (h1 : b = true → ∀ B' A', Grow B A B' A' → State K B0 A0 G σ B' A' → tu D σ A')
    (h2 : b = false → ∀ B' A', Grow B A B' A' → State K B0 A0 G σ B' A' → tw D σ A') : tIfS t tu tw D σ A :=
  ht σ B S.h A S.g.ba _ fun B' A' g => by
    cases b with
    | true => exact h1 rfl B' A' g (S.grow g)
    | false => exact h2 rfl B' A' g (S.grow g)
theorem q_if {b : Bool} (ht : Tst K t G b) (S : State K B0 A0 G σ B A) (h1 : b = true → ∀ B' A', Grow B A B' A' → State K B0 A0 G σ B' A' → tu { D with nx := tz D } σ A')
    (h2 : b = false → ∀ B' A', Grow B A B' A' → State K B0 A0 G σ B' A' → tw { D with nx := tz D } σ A') : tSeq (tIfS t tu tw) tz D σ A := s_if (D := { D with nx := tz D }) ht S h1 h2
/-- if t: .. with nothing else -/
theorem q_when {b : Bool} (ht : Tst K t G b) (S : State K B0 A0 G σ B A) (h1 : b = true → ∀ B' A', Grow B A B' A' → State K B0 A0 G σ B' A' → tu { D with nx := tz D } σ A')
    (h2 : b = false → ∀ B' A', Grow B A B' A' → State K B0 A0 G σ B' A' → tz D σ A') : tSeq (tIfS t tu tNext) tz D σ A := q_if ht S h1 h2
theorem s_when {b : Bool} (ht : Tst K t G b) (S : State K B0 A0 G σ B A) (h1 : b = true → ∀ B' A', Grow B A B' A' → State K B0 A0 G σ B' A' → tu D σ A')
    (h2 : b = false → ∀ B' A', Grow B A B' A' → State K B0 A0 G σ B' A' → D.nx σ A') : tIfS t tu tNext D σ A := s_if ht S h1 h2
theorem s_drop (hv : Val K te G d) (S : State K B0 A0 G σ B A) (k : ∀ B' A', Grow B A B' A' → State K B0 A0 G σ B' A' → D.nx σ A') : tDrop te D σ A :=
  hv σ B S.h A S.g.ba _ fun v B' A' g r => k B' A' g (S.grow g)
/-- a, b = x, y -/
theorem s_par {i j : Nat} {ta : TA} {d1 d2 : Dat} (hv : Vals K ta G [d1, d2]) (S : State K B0 A0 G σ B A) (hi : i < G.length) (hj : j < G.length)
    (k : ∀ v w B' A', Grow B A B' A' → State K B0 A0 ((G.set i (some d1)).set j (some d2)) ((σ.set i (some v)).set j (some w)) B' A' → D.nx ((σ.set i (some v)).set j (some w)) A') : tPar i j ta D σ A :=
  hv σ B S.h A S.g.ba _ fun vs B' A' g r => by
    cases r with
    | cons r1 r =>
      cases r with
      | cons r2 r =>
        cases r
        exact ⟨_, _, rfl, k _ _ B' A' g (((S.grow g).set r1 hi).set r2 (by simp; exact hj))⟩
theorem s_aug {i : Nat} {f : Int → Int → Int} {a b : Int} (hx : G[i]? = some (some (.int a))) (hv : Val K te G (.int b)) (S : State K B0 A0 G σ B A) (hi : i < G.length)
    (k : ∀ B' A', Grow B A B' A' → State K B0 A0 (G.set i (some (.int (f a b)))) (σ.set i (some (.int (f a b)))) B' A' → D.nx (σ.set i (some (.int (f a b)))) A') : tAug i te (ipI f) D σ A := by
  obtain ⟨v, h1, h2⟩ := S.h.2 i _ hx
  cases h2
  exact ⟨_, h1, hv σ B S.h A S.g.ba _ fun v B' A' g r => by
    cases r
    exact ⟨a, b, rfl, rfl, k B' A' g ((S.grow g).set (.int _) hi)⟩⟩
/-- while: what's known is told by x, of which P holds, and m falls -/
theorem s_while {X : Type} (Gx : X → Env) (P : X → Prop) (m : X → Nat) (b : X → Bool) (x0 : X) (S : State K B0 A0 (Gx x0) σ B A) (h0 : P x0) (ht : ∀ x, P x → Tst K t (Gx x) (b x))
    (hs : ∀ x σ B A, P x → b x = true → State K B0 A0 (Gx x) σ B A → tu { D with nx := fun σ A => ∃ B x', State K B0 A0 (Gx x') σ B A ∧ P x' ∧ m x' < m x, ct := fun σ A => ∃ B x', State K B0 A0 (Gx x') σ B A ∧ P x' ∧ m x' < m x, bk := D.nx } σ A)
    (he : ∀ x σ B A, P x → b x = false → State K B0 A0 (Gx x) σ B A → D.nx σ A) : tWhile t tu D σ A := by
  refine ⟨fun n σ A => ∃ B x, State K B0 A0 (Gx x) σ B A ∧ P x ∧ m x = n, ⟨m x0, B, x0, S, h0, rfl⟩, ?_⟩
  rintro n σ A ⟨B, x, S, hp, rfl⟩
  refine ht x hp σ B S.h A S.g.ba _ fun B' A' g => ?_
  cases hb : b x with
  | true =>
    refine ⟨_, fun σ' A' h => ?_, hs x σ B' A' hp hb (S.grow g)⟩
    obtain ⟨B, x', h1, h2, h3⟩ := h
    exact ⟨m x', h3, B, x', h1, h2, rfl⟩
  | false => exact he x σ B' A' hp hb (S.grow g)
theorem q_while {X : Type} (Gx : X → Env) (P : X → Prop) (m : X → Nat) (b : X → Bool) (x0 : X) (S : State K B0 A0 (Gx x0) σ B A) (h0 : P x0) (ht : ∀ x, P x → Tst K t (Gx x) (b x))
    (hs : ∀ x σ B A, P x → b x = true → State K B0 A0 (Gx x) σ B A → tu { D with nx := fun σ A => ∃ B x', State K B0 A0 (Gx x') σ B A ∧ P x' ∧ m x' < m x, ct := fun σ A => ∃ B x', State K B0 A0 (Gx x') σ B A ∧ P x' ∧ m x' < m x, bk := tz D } σ A)
    (he : ∀ x σ B A, P x → b x = false → State K B0 A0 (Gx x) σ B A → tz D σ A) : tSeq (tWhile t tu) tz D σ A := s_while (D := { D with nx := tz D }) Gx P m b x0 S h0 ht hs he
/-- for x in a list -/
theorem s_for {ds : List Dat} {gt : TG} (hv : Val K te G (.lst ds)) (S : State K B0 A0 G σ B A)
    (k : ∀ B1 A1, Grow B A B1 A1 → State K B0 A0 G σ B1 A1 → ∃ Pv : Nat → L2.St → Hp → Hp → Prop, Pv 0 σ B1 A1 ∧ (∀ j σ B A, Pv j σ B A → Ex B1 B ∧ Ex B A) ∧
      (∀ j d x σ B A, ds[j]? = some d → Rp K B x d → Pv j σ B A → gt x σ A fun σ2 A2 => tu { D with nx := fun σ A => ∃ B, Pv (j + 1) σ B A, ct := fun σ A => ∃ B, Pv (j + 1) σ B A, bk := D.nx } σ2 A2) ∧
      (∀ σ B A, Pv ds.length σ B A → D.nx σ A)) : tFor (iList K te) gt tu D σ A :=
  hv σ B S.h A S.g.ba _ fun v B1 A1 g r => by
    cases r with
    | @lst a xs _ h1 h2 =>
      obtain ⟨Pv, p0, pe, ps, pd⟩ := k B1 A1 g (S.grow g)
      refine ⟨a, rfl, ⟨xs, Evl.sq_of (g.ba _ _ h1)⟩, for_list (xs := xs) (fun j σ A => ∃ B, Pv j σ B A) ⟨B1, p0⟩ (fun j σ A _ h => ?_) (fun j x σ A hx h => ?_) (fun σ A h => ?_)⟩
      · obtain ⟨B, h⟩ := h
        have e := pe j σ B A h
        exact Evl.sq_of (e.2 _ _ (e.1 _ _ h1))
      · obtain ⟨B, h⟩ := h
        have e := pe j σ B A h
        obtain ⟨d, hd, rd⟩ := h2.get' hx
        exact ps j d x σ B A hd (rd.ex e.1) h
      · obtain ⟨B, h⟩ := h
        rw [h2.len] at h
        exact pd σ B A h
theorem q_for {ds : List Dat} {gt : TG} (hv : Val K te G (.lst ds)) (S : State K B0 A0 G σ B A)
    (k : ∀ B1 A1, Grow B A B1 A1 → State K B0 A0 G σ B1 A1 → ∃ Pv : Nat → L2.St → Hp → Hp → Prop, Pv 0 σ B1 A1 ∧ (∀ j σ B A, Pv j σ B A → Ex B1 B ∧ Ex B A) ∧
      (∀ j d x σ B A, ds[j]? = some d → Rp K B x d → Pv j σ B A → gt x σ A fun σ2 A2 => tu { D with nx := fun σ A => ∃ B, Pv (j + 1) σ B A, ct := fun σ A => ∃ B, Pv (j + 1) σ B A, bk := tz D } σ2 A2) ∧
      (∀ σ B A, Pv ds.length σ B A → tz D σ A)) : tSeq (tFor (iList K te) gt tu) tz D σ A := s_for (D := { D with nx := tz D }) hv S k
/-- for i in range(n), range(lo, n) -/
theorem s_rng1 {i : Nat} {ta : TA} {n : Int} (hv : Vals K ta G [.int n]) (hn : -(2 ^ 62) ≤ n ∧ n < 2 ^ 62) (S : State K B0 A0 G σ B A)
    (k : ∀ B1 A1, Grow B A B1 A1 → State K B0 A0 G σ B1 A1 → ∃ Pv : Nat → L2.St → Hp → Prop, Pv 0 σ A1 ∧
      (∀ (j : Nat) σ A, (j : Int) < n → Pv j σ A → tu { D with nx := Pv (j + 1), ct := Pv (j + 1), bk := D.nx } (σ.set i (some (.int (j : Int)))) A) ∧
      (∀ σ A, Pv n.toNat σ A → D.nx σ A)) : tFor (iRng1 ta) (gName i) tu D σ A :=
  hv σ B S.h A S.g.ba _ fun vs B1 A1 g r => by
    cases r with
    | cons r1 r2 =>
      cases r1; cases r2
      obtain ⟨Pv, p0, ps, pd⟩ := k B1 A1 g (S.grow g)
      refine ⟨n, rfl, hn.1, hn.2, for_range (lo := 0) (n := n.toNat) Pv p0 (fun j σ A hj h => ?_) pd⟩
      have e0 : (0 : Int) + (j : Int) = (j : Int) := Int.zero_add _
      show tu _ (σ.set i (some (.int ((0 : Int) + (j : Int))))) A
      rw [e0]
      exact ps j σ A (by omega) h
theorem q_rng1 {i : Nat} {ta : TA} {n : Int} (hv : Vals K ta G [.int n]) (hn : -(2 ^ 62) ≤ n ∧ n < 2 ^ 62) (S : State K B0 A0 G σ B A)
    (k : ∀ B1 A1, Grow B A B1 A1 → State K B0 A0 G σ B1 A1 → ∃ Pv : Nat → L2.St → Hp → Prop, Pv 0 σ A1 ∧
      (∀ (j : Nat) σ A, (j : Int) < n → Pv j σ A → tu { D with nx := Pv (j + 1), ct := Pv (j + 1), bk := tz D } (σ.set i (some (.int (j : Int)))) A) ∧
      (∀ σ A, Pv n.toNat σ A → tz D σ A)) : tSeq (tFor (iRng1 ta) (gName i) tu) tz D σ A := s_rng1 (D := { D with nx := tz D }) hv hn S k
theorem s_rng2 {i : Nat} {ta : TA} {lo n : Int} (hv : Vals K ta G [.int lo, .int n]) (hn : (-(2 ^ 62) ≤ lo ∧ lo < 2 ^ 62 ∧ -(2 ^ 62) ≤ n ∧ n < 2 ^ 62)) (S : State K B0 A0 G σ B A)
    (k : ∀ B1 A1, Grow B A B1 A1 → State K B0 A0 G σ B1 A1 → ∃ Pv : Nat → L2.St → Hp → Prop, Pv 0 σ A1 ∧
      (∀ (j : Nat) σ A, lo + (j : Int) < n → Pv j σ A → tu { D with nx := Pv (j + 1), ct := Pv (j + 1), bk := D.nx } (σ.set i (some (.int (lo + (j : Int))))) A) ∧
      (∀ σ A, Pv (n - lo).toNat σ A → D.nx σ A)) : tFor (iRng2 ta) (gName i) tu D σ A :=
  hv σ B S.h A S.g.ba _ fun vs B1 A1 g r => by
    cases r with
    | cons r1 r2 =>
      cases r2 with
      | cons r2 r3 =>
        cases r1; cases r2; cases r3
        obtain ⟨Pv, p0, ps, pd⟩ := k B1 A1 g (S.grow g)
        exact ⟨lo, n, rfl, hn, for_range (lo := lo) (n := (n - lo).toNat) Pv p0 (fun j σ A hj h => ps j σ A (by omega) h) pd⟩
theorem q_rng2 {i : Nat} {ta : TA} {lo n : Int} (hv : Vals K ta G [.int lo, .int n]) (hn : (-(2 ^ 62) ≤ lo ∧ lo < 2 ^ 62 ∧ -(2 ^ 62) ≤ n ∧ n < 2 ^ 62)) (S : State K B0 A0 G σ B A)
    (k : ∀ B1 A1, Grow B A B1 A1 → State K B0 A0 G σ B1 A1 → ∃ Pv : Nat → L2.St → Hp → Prop, Pv 0 σ A1 ∧
      (∀ (j : Nat) σ A, lo + (j : Int) < n → Pv j σ A → tu { D with nx := Pv (j + 1), ct := Pv (j + 1), bk := tz D } (σ.set i (some (.int (lo + (j : Int))))) A) ∧
      (∀ σ A, Pv (n - lo).toNat σ A → tz D σ A)) : tSeq (tFor (iRng2 ta) (gName i) tu) tz D σ A := s_rng2 (D := { D with nx := tz D }) hv hn S k
/-- xs = [] -/
theorem q_new {j : Nat} (S : State K B0 A0 G σ B A) (hj : j < G.length)
    (k : ∀ v A', Ex A A' → State K B0 A0 (G.set j none) (σ.set j (some v)) B A' → Mut K A0 j (σ.set j (some v)) B A' [] → tz D (σ.set j (some v)) A') : tSeq (tAsg (tLst tNil) (gName j)) tz D σ A := by
  show (0 : Nat) ≤ sizeLine ∧ ∀ p, A p = none → _
  refine ⟨Nat.zero_le _, fun p hp => ?_⟩
  have e : Ex A (upd A p (.lst [])) := Ex.new hp
  have hb : B p = none := by
    cases q : B p with
    | none => rfl
    | some u => have := S.g.ba p u q; rw [hp] at this; cases this
  have h0 : A0 p = none := by
    cases q : A0 p with
    | none => rfl
    | some u => have := S.g.aa p u q; rw [hp] at this; cases this
  exact k (.ref p) _ e ((S.back e).drop j _) ⟨p, [], List.getElem?_set_self (by rw [S.len]; exact hj), upd_same, .nil, hb, h0⟩
/-- xs.append(e) -/
theorem s_app {j : Nat} {ds : List Dat} (hv : Val K te G d) (S : State K B0 A0 G σ B A) (m : Mut K A0 j σ B A ds) (hl : ds.length < 100000)
    (k : ∀ B' A', Ex B B' → State K B0 A0 G σ B' A' → Mut K A0 j σ B' A' (ds ++ [d]) → (∀ j' ds', σ[j']? ≠ σ[j]? → Mut K A0 j' σ B A ds' → Mut K A0 j' σ B' A' ds') → D.nx σ A') :
    tDrop (tBM K "list" rAppend (tVar j) (tCons te tNil)) D σ A := by
  obtain ⟨p, xs, h1, h2, h3, h4, h5⟩ := m.ex
  refine ⟨_, h1, .inl ⟨rfl, xs, Evl.sq_of h2⟩, hv σ B S.h A S.g.ba _ fun v B' A' g r => ?_⟩
  have f := g.fresh h4 h2
  have S' := S.grow g
  refine ⟨p, xs, v, rfl, rfl, f.2, Evl.sz_lt (by rw [h3.len]; exact hl), k B' _ g.bb ?_ ?_ ?_⟩
  · refine ⟨⟨S'.g.aa.mut h5, S'.g.bb, S'.g.ba.mut f.1, S'.g.new⟩, S'.h, S'.len⟩
  · exact ⟨p, xs ++ [v], h1, upd_same, (h3.ex g.bb).append (.cons r .nil), f.1, h5⟩
  · intro j' ds' hne m'
    obtain ⟨p', xs', k1, k2, k3, k4, k5⟩ := (m'.grow g).ex
    have : p' ≠ p := by rintro rfl; exact hne (by rw [k1, h1])
    exact ⟨p', xs', k1, by rw [upd_ne this]; exact k2, k3, k4, k5⟩
/-- xs.extend(e) -/
theorem s_ext {j : Nat} {ds es : List Dat} (hv : Val K te G (.lst es)) (S : State K B0 A0 G σ B A) (m : Mut K A0 j σ B A ds) (hl : ds.length + es.length ≤ 100000)
    (k : ∀ B' A', Ex B B' → State K B0 A0 G σ B' A' → Mut K A0 j σ B' A' (ds ++ es) → (∀ j' ds', σ[j']? ≠ σ[j]? → Mut K A0 j' σ B A ds' → Mut K A0 j' σ B' A' ds') → D.nx σ A') :
    tDrop (tBM K "list" rExtend (tVar j) (tCons te tNil)) D σ A := by
  obtain ⟨p, xs, h1, h2, h3, h4, h5⟩ := m.ex
  refine ⟨_, h1, .inl ⟨rfl, xs, Evl.sq_of h2⟩, hv σ B S.h A S.g.ba _ fun v B' A' g r => ?_⟩
  cases r with
  | @lst b zs _ r1 r2 =>
    have f := g.fresh h4 h2
    have S' := S.grow g
    refine ⟨p, b, xs, zs, rfl, rfl, f.2, g.ba _ _ r1, ?_, k B' _ g.bb ?_ ?_ ?_⟩
    · rw [h3.len, r2.len]; exact Evl.sz_of hl
    · refine ⟨⟨S'.g.aa.mut h5, S'.g.bb, S'.g.ba.mut f.1, S'.g.new⟩, S'.h, S'.len⟩
    · exact ⟨p, xs ++ zs, h1, upd_same, (h3.ex g.bb).append r2, f.1, h5⟩
    · intro j' ds' hne m'
      obtain ⟨p', xs', k1, k2, k3, k4, k5⟩ := (m'.grow g).ex
      have : p' ≠ p := by rintro rfl; exact hne (by rw [k1, h1])
      exact ⟨p', xs', k1, by rw [upd_ne this]; exact k2, k3, k4, k5⟩
end

/-! ### a def -/
theorem holds_start {vs : List V} {ds : List Dat} {B : Hp} (h : RpAll K B vs ds) (N : List Str) : Holds K (ds.map some ++ List.replicate (N.length - vs.length) none) (start N vs) B := by
  have hl := h.len
  refine ⟨by show (vs.map some ++ List.replicate (N.length - vs.length) none).length = _; simp [hl], fun i d x => ?_⟩
  by_cases hi : i < ds.length
  · rw [List.getElem?_append_left (by simpa using hi), List.getElem?_map] at x
    have hd : ds[i]? = some d := by
      cases e : ds[i]? with
      | none => rw [e] at x; cases x
      | some u => rw [e] at x; simp at x; rw [x]
    obtain ⟨v, a, b⟩ := h.get hd
    refine ⟨v, ?_, b⟩
    show (vs.map some ++ List.replicate (N.length - vs.length) none)[i]? = _
    rw [List.getElem?_append_left (by simp; omega), List.getElem?_map, a]; rfl
  · rw [List.getElem?_append_right (by simp; omega), List.getElem?_replicate] at x
    split at x <;> cases x
theorem state_start {vs : List V} {ds : List Dat} {B A : Hp} (e : Ex B A) (h : RpAll K B vs ds) (N : List Str) : State K B A (ds.map some ++ List.replicate (N.length - ds.length) none) (start N vs) B A := by
  refine ⟨Grow.refl e, ?_, ?_⟩
  · rw [← h.len]; exact holds_start h N
  · have := h.len
    show (vs.map some ++ List.replicate (N.length - vs.length) none).length = _
    simp; omega

/-! ### built-in calls -/
section
variable {G : Env} {ta tb te : TE} {d : Dat}
theorem v_cb {r : List V → Hp → VK → Prop} {tr : TA} {ds : List Dat} (h : Vals K tr G ds) (hr : ∀ vs B A, Ex B A → RpAll K B vs ds → ∀ Q : VK, (∀ v B' A', Grow B A B' A' → Rp K B' v d → Q v A') → r vs A Q) : Val K (tCB r tr) G d := fun σ B hs A e Q q =>
  h σ B hs A e _ fun vs B1 A1 g1 r1 => hr vs B1 A1 g1.ba r1 Q fun v B2 A2 g2 r2 => q v B2 A2 (g1.trans g2) r2
theorem v_abs {i : Int} (h : Val K ta G (.int i)) : Val K (tCB (fun xs H Q => ∃ i, xs = [V.int i] ∧ Q (.int (if i < 0 then -i else i)) H) (tCons ta tNil)) G (.int (i.natAbs : Int)) :=
  v_cb (va_cons h va_nil) fun vs B A e r Q q => by
    cases r with
    | cons r1 r2 =>
      cases r1; cases r2
      refine ⟨i, rfl, ?_⟩
      have : (if i < 0 then -i else i) = (i.natAbs : Int) := by split <;> omega
      rw [this]
      exact q _ B A (Grow.refl e) (.int _)
end
end Y
end

section
set_option Elab.async false
set_option linter.all false
set_option maxRecDepth 100000
set_option maxHeartbeats 2000000
/-! A comprehension whose item may raise; an own exception without a text. -/
namespace L2
open PySem PySem.Spec PyProof.Rows

/-- X(), X an own exception class without own __init__ -/
theorem pmk_own0 {X : Cx} {C : Addr} {bmB : List Value} {B newId initId : String} {x : Str} {p pos : Pos} (F : ExcBaseFacts B newId initId bmB) (q : PySem.W.excIn X.K C bmB newId = true) (gC : X.mg x = some (.ref C))
    (kC : PySem.W.keepIn X.K (.ref C) = true) (r : Raises X (.ref C)) (hg : Gl X x) (hdb : (x == ("__debug__" : Str)) = false := by decide) :
    PMk X (.Call (.Name x p) [] [] pos) (fun _ H Q => Q (.ref C) none H) := by
  intro pins s σ H Q I h
  refine wpAny_Call_Name_kw (ld_glob I hg gC ?_ hdb)
  refine PySem.W.callWith_K0 I.kIn kC ?_
  show wpAny _ _ (call (.ref C) []) _ _ _
  obtain ⟨bm, N, nm, qn, bs, hdct, sn, sub, ab, col, dd, k0, k1, k2, k3, k5, mN, hC, hN, hni, T⟩ := exc_obj I.kIn q
  refine wpAny_call_exc_subT F T hC hN hni (fun h' e hm => ?_) (Nat.zero_le _)
  exact mk_of I hm r h (I.hok.gone hm.new)

/-- what a comprehension leaves behind; of an exception: the frame of the block is known -/
def compPostX (M : Model) (A : Around) (E : Value → Shared → Prop) (use : Option (Value → Sem Unit)) (Q : Value → Shared → Prop) (acc : Value) (C : Addr) (fr : Option Addr) (r : Result) (s' : Shared) : Prop :=
  match r, use with
  | .ok _, none => ∃ m, s'.heap.Ns C m ∧ ∀ h', Heap.SameBut C s'.heap h' → Q acc { s' with heap := h' }
  | .ok _, some u => wpAny M A (u acc) (fun _ s'' => ∃ m, s''.heap.Ns C m ∧ ∀ h', Heap.SameBut C s''.heap h' → Q .none { s'' with heap := h' }) E s'
  | .error x, _ => ∃ m, s'.heap.Ns C m ∧ ∀ h', Heap.SameBut C s'.heap h' → ∀ cenv : Env, cenv.frame = fr → wpAny M A (passOn "comprehension.variables-let-go" x cenv : Sem Value) (fun _ _ => False) E { s' with heap := h' }

theorem wpAny_comprehension_freeX {M : Model} {A : Around} {E : Value → Shared → Prop} {s : Shared} {env : Env} {e : Expr} {scope : Scope} {pos : Pos} {newAcc first : Sem Value} {g : Comprehension} {gs : List Comprehension} {cl : List (Str × Addr)} {use : Option (Value → Sem Unit)}
    {Q : Value → Shared → Prop}
    (hcl : clausesOf e = g :: gs) (hs : ∀ x, foldedSetIterable g.iter env x = pure x) (hclos : closureFor scope env = pure cl)
    (hkind : scope.kind = .function) (hnames : ∀ x ∈ scope.names, x.2 = .local → scope.names.lookup x.1 = some .local)
    (h : wpAny M A first (fun x s₁ => wpAny M A (pyIter x) (fun it s₂ => wpAny M A newAcc (fun acc s₃ =>
      wpAny M A (newFunctionEnv scope env.globals cl [] env.qual none .none (some env)) (fun cenv s₄ =>
        codeAny M A (.compStart e 0 it acc { cenv with scope := relabel scope env }) (compPostX M A E use Q acc cenv.locals cenv.frame) s₄) E s₃) E s₂) E s₁) E s) :
    wpAny M A (comprehension e scope env pos newAcc false first use) Q E s := by
  unfold comprehension
  rw [hclos, hcl]
  refine wpAny_bind (wpAny_mono h (fun x s₁ h₁ => wpAny_bind (wpAny_standAt (wpAny_bind (wpAny_of_eq (hs x) (wpAny_bind (wpAny_holding (wpAny_mono h₁ (fun it s₂ h₂ =>
    wpAny_standIf (wpAny_bind (wpAny_mono h₂ (fun acc s₃ h₃ => wpAny_bind (wpAny_pure (wpAny_bind (wpAny_mono h₃ (fun cenv s₄ h₄ => ?_) fun _ _ h' => h')))) fun _ _ h' => h')))
      fun _ _ h' => h'))))))) fun _ _ h' => h')
  dsimp only
  have hv : ∀ x ∈ (scope.names.filter fun x => (x.2 == .local || x.2 == .cell) && x.1 != (".0" : Str)).reverse, x.2 = .local →
      Env.kindOf { cenv with scope := relabel scope env } x.1 = some .local := fun x hx hl => lookup_relabel_local (hnames x (List.mem_filter.mp (List.mem_reverse.mp hx)).1 hl)
  have hv' : ∀ x ∈ (scope.names.filter fun x => (x.2 == .local || x.2 == .cell) && x.1 != (".0" : Str)).reverse.drop 1 ++ (scope.names.filter fun x => (x.2 == .local || x.2 == .cell) && x.1 != (".0" : Str)).reverse.take 1,
      x.2 = .local → Env.kindOf { cenv with scope := relabel scope env } x.1 = some .local := fun x hx hl => by
    rcases List.mem_append.mp hx with h1 | h1
    · exact hv x (List.mem_of_mem_drop h1) hl
    · exact hv x (List.mem_of_mem_take h1) hl
  refine wpAny_holding (wpAny_bind (wpAny_attempt (wpAny_holding (wpAny_run (codeAny_mono h₄ fun r s' hr => ?_)))))
  cases r with
  | ok f =>
    cases use with
    | none =>
      obtain ⟨m, hn, hr⟩ := hr
      exact wpAny_bind (wpAny_holding (wpAny_comp_letGo (cenv := { cenv with scope := relabel scope env }) hkind _ s' m hv hn fun h' m' _ hs' => wpAny_pure (hr h' hs')))
    | some u =>
      refine wpAny_bind (wpAny_rule (wpAny_bind (wpAny_holding (wpAny_mono hr (fun _ s'' hr' => ?_) fun _ _ h' => h'))))
      obtain ⟨m, hn, hr'⟩ := hr'
      exact wpAny_bind (wpAny_comp_letGo (cenv := { cenv with scope := relabel scope env }) hkind _ s'' m hv' hn fun h' m' _ hs' => wpAny_pure (hr' h' hs'))
  | error x =>
    have hr' : ∃ m, s'.heap.Ns cenv.locals m ∧ ∀ h', Heap.SameBut cenv.locals s'.heap h' → ∀ cenv' : Env, cenv'.frame = cenv.frame → wpAny M A (passOn "comprehension.variables-let-go" x cenv' : Sem Value) (fun _ _ => False) E { s' with heap := h' } := by cases use <;> exact hr
    obtain ⟨m, hn, hr⟩ := hr'
    exact wpAny_bind (wpAny_holding (wpAny_comp_letGo (cenv := { cenv with scope := relabel scope env }) hkind _ s' m hv hn fun h' m' _ hs' => wpAny_mono (hr h' hs' _ rfl) (fun _ _ f => f.elim) fun _ _ y => y))

theorem noteFrame_same {e : Value} {a b : Env} (h : a.frame = b.frame) : noteFrame e a = noteFrame e b := by
  unfold noteFrame PySem.frameOf
  rw [h]

/-- the ground without one object -/
theorem heldZ_hide {B h : Heap} {l : List Env} {e L : Addr} {Z : Obj → Prop} (C : Addr) (x : HandSPX.HeldZ B l e Z L h) : HandSPX.HeldZ (PySem.W.hideAll B [C]) l e Z L h := by
  obtain ⟨k1, k2, k3, oe, vs, T, oT, ts, he, hz, hd, h1, hT, hTe, hoT, hdT, h3⟩ := x
  have nn : ∀ b, B.get? b = none → (PySem.W.hideAll B [C]).get? b = none := fun b n => by
    cases q : (PySem.W.hideAll B [C]).get? b with
    | none => rfl
    | some o =>
      have := PySem.W.of_hideAll [C] q
      rw [n] at this; cases this
  refine ⟨fun b o q => k1 b o (PySem.W.of_hideAll [C] q), nn _ k2, funFrames_none k3 fun L' hL => nn _ (k3.mem hL).1, oe, vs, T, oT, ts, he, hz, hd, h1, nn _ hT, hTe, hoT, hdT, h3⟩
/-- an object that isn't of the ground is changed -/
theorem heldZ_but {B h h' : Heap} {l : List Env} {e L : Addr} {Z : Obj → Prop} {C : Addr} (x : HandSPX.HeldZ B l e Z L h) (hC : B.get? C ≠ none) (hF : C ∉ frs l) (sb : Heap.SameBut C h h') : HandSPX.HeldZ (PySem.W.hideAll B [C]) l e Z L h' := by
  have y := heldZ_hide C x
  obtain ⟨k1, k2, k3, oe, vs, T, oT, ts, he, hz, hd, h1, hT, hTe, hoT, hdT, h3⟩ := x
  obtain ⟨j1, j2, j3, _⟩ := y
  have nn : ∀ b, B.get? b = none → b ≠ C := fun b n q => by subst q; exact hC n
  have nh : ∀ b o, (PySem.W.hideAll B [C]).get? b = some o → b ≠ C := fun b o q z => by
    subst z
    rw [PySem.W.hideAll_none [b] (List.mem_singleton.mpr rfl)] at q
    cases q
  refine ⟨fun b o q => (sb.2 b (nh b o q)).trans (j1 b o q), j2, ?_, oe, vs, T, oT, ts, (sb.2 _ (nn _ k2)).trans he, hz, hd, h1, ?_, hTe, (sb.2 _ (nn _ hT)).trans hoT, hdT, h3⟩
  · have go : ∀ {l : List Env}, h.FunFrames (PySem.W.hideAll B [C]) l → C ∉ frs l → h'.FunFrames (PySem.W.hideAll B [C]) l := by
      intro l
      induction l with
      | nil => intro _ _; trivial
      | cons env l ih =>
        intro hh hn
        obtain ⟨hk, ⟨L, o, hf, n0, ho, hd⟩, hr⟩ := hh
        have e1 : L ≠ C := fun z => hn (by rw [← z]; exact List.mem_filterMap.mpr ⟨env, List.mem_cons_self, hf⟩)
        refine ⟨hk, ⟨L, o, hf, n0, (sb.2 L e1).trans ho, hd⟩, ih hr fun z => hn ?_⟩
        obtain ⟨e', he', q⟩ := List.mem_filterMap.mp z
        exact List.mem_filterMap.mpr ⟨e', List.mem_cons_of_mem _ he', q⟩
    exact go j3 hF
  · cases q : (PySem.W.hideAll B [C]).get? T with
    | none => rfl
    | some o =>
      have := PySem.W.of_hideAll [C] q
      rw [hT] at this; cases this

section
variable {X : Cx}
/-- the context of a block whose items may raise -/
abbrev Cx.blkX (X : Cx) (s : Shared) (H : Hp) (scope : Scope) (cenv : Env) (fp : List Addr) (xe : Value → Shared → Prop) : Cx := (X.blk s H scope cenv fp).wish xe

/-- a call's exception, told without the air -/
theorem of_call2 {pins : List (Addr × Obj)} {σ : St} {H H' : Hp} {s s' : Shared} {B : Heap} {a : Addr} {Z : Obj → Prop} (I : Inv X pins σ H s) (fl : HandSPX.FlyingZ B X.stack a Z s'.heap) (hok : HOk X.prog X.w H' B) (ub : UB (frs X.stack) H H' s.heap B s'.heap) (ag : AllBare s'.gens) :
    ∃ sI : Shared, sI.os = s.os ∧ Inv X pins σ H' sI ∧ (∀ b o, sI.heap.get? b = some o → b ∉ frs X.stack → B.get? b = some o) ∧ ∀ b o, sI.heap.get? b = some o → s'.heap.get? b = some o := by
  obtain ⟨G, g1, g2⟩ := restrict s'.heap fun b => (B.get? b).isSome || decide (b ∈ frs X.stack)
  have st : B.StaysIn s'.heap := fl.1
  have gB : ∀ b o, B.get? b = some o → G.get? b = some o := fun b o e => by
    rw [g1 b (by simp [e])]
    exact st b o e
  have gF : ∀ b, b ∈ frs X.stack → G.get? b = s'.heap.get? b := fun b hb => g1 b (by simp [hb])
  have og : ∀ b o, G.get? b = some o → s'.heap.get? b = some o ∧ ((B.get? b).isSome = true ∨ b ∈ frs X.stack) := fun b o e => by
    cases q : ((B.get? b).isSome || decide (b ∈ frs X.stack)) with
    | false => rw [g2 b q] at e; cases e
    | true =>
      rw [g1 b q] at e
      exact ⟨e, by simpa [Bool.or_eq_true] using q⟩
  refine ⟨{ s with heap := G, gens := s'.gens, drawn := s'.drawn, toks := s'.toks }, rfl, ?_, fun b o e hb => ?_, fun b o e => (og b o e).1⟩
  · refine I.call (ch := []) ⟨fun b o e n hb _ => gB b o (ub.keep b o e n hb), fun b o e n hb _ => ?_, fun b o e n _ => ub.free b o e n, fun b o e _ => ?_, ub.tups, ub.frzs, ub.tbls⟩ (hok.kept gB) ag (fun _ z => nomatch z)
    · obtain ⟨sl, q⟩ := ub.slot b o e hb
      exact ⟨sl, by rw [gF b hb]; exact q⟩
    · by_cases hb : b ∈ frs X.stack
      · obtain ⟨sl, q⟩ := ub.slot b o e hb
        exact ⟨_, by rw [gF b hb]; exact q⟩
      · obtain ⟨o', q⟩ := ub.there b o e hb
        exact ⟨o', gB b o' q⟩
  · obtain ⟨e', h⟩ := og b o e
    rcases h with h | h
    · obtain ⟨o', q⟩ := Option.isSome_iff_exists.mp h
      have z := st b o' q
      rw [e'] at z; cases z
      exact q
    · exact absurd h hb

/-- what leaves an item leaves the comprehension -/
theorem blk_passes {pins : List (Addr × Obj)} {σ : St} {H3 : Hp} {s3 : Shared} {scope : Scope} {ce : Env} {fp : List Addr} {use : Option (Value → Sem Unit)} {Qf : Value → Shared → Prop} {acc : Value} {C : Addr} {E : XK}
    (I3 : Inv X pins σ H3 s3) (hst : X.stack = X.env :: X.outer) (hf : X.env.frame = some X.env.locals) (tk : Takes X (fun cls d _ H => E cls d H)) (hC : ce.locals = C) (hsz : C = s3.heap.objs.size) (hcf : ce.frame = X.env.frame)
    (f3 : ∀ b ∈ fp, FpOk X pins H3 b ∧ b < s3.heap.objs.size) (σ' : St) :
    PassesAt (L2.CX X.prog X.w) (X.blkX s3 H3 scope ce fp fun e s' => notedBy (model X.prog X.w) X.A ce (fun e s' => compPostX (model X.prog X.w) X.A X.xe use Qf acc C ce.frame (.error e) s') e s') σ' E := by
  intro pins' H s e s' I c
  obtain ⟨a, B, H', cls, d, rfl, fl, hok, ub, na, os, ag, hE⟩ := c
  obtain ⟨sI, osI, J, nb, up⟩ := of_call2 I fl hok ub ag
  have J : Inv (X.blkX s3 H3 scope ce fp _) pins' σ' H' sI := J
  have hfr : X.A.frames = some (X.env :: X.outer) := by rw [I3.ok.frames, hst]
  have fl' : HandSPX.FlyingZ B (X.env :: X.outer) a (Zc cls d) s'.heap := by rw [← hst]; exact fl
  show wpAny (model X.prog X.w) X.A (noteFrame (.ref a) ce) _ _ _
  rw [noteFrame_same (b := X.env) hcf]
  refine HandSPX.looks_onZ Zc.steady hfr hf fl' fun h1 hh up1 => ?_
  -- the block's own names
  have hCn : H' C = none := by
    have z : H' ce.locals = none := J.free
    rw [hC] at z; exact z
  obtain ⟨m, hn, _⟩ := J.loc
  have hn : sI.heap.Ns ce.locals m := hn
  rw [hC] at hn
  have hCF : C ∉ frs X.stack := fun z => by
    rcases List.mem_cons.mp (I3.stkSub _ z) with e | e
    · have := I3.lt
      rw [← e, hsz] at this
      exact Nat.lt_irrefl _ this
    · exact I3.nofs (Nat.le_of_eq hsz.symm) e
  have hCB : B.get? C ≠ none := by
    obtain ⟨o, _, _, ho, _⟩ := id hn
    rw [nb C o ho hCF]; exact Option.some_ne_none _
  have hn1 : h1.Ns C m := by
    obtain ⟨o, es, ep, ho, r⟩ := id hn
    exact ⟨o, es, ep, hh.1 C o (nb C o ho hCF), r⟩
  have hCF' : C ∉ frs (X.env :: X.outer) := by rw [← hst]; exact hCF
  refine (show ∃ m, h1.Ns C m ∧ ∀ h', Heap.SameBut C h1 h' → ∀ cenv : Env, cenv.frame = ce.frame → wpAny (model X.prog X.w) X.A (passOn "comprehension.variables-let-go" (.ref a) cenv : Sem Value) (fun _ _ => False) X.xe { s' with heap := h' } from ⟨m, hn1, fun h2 sb cenv hce => ?_⟩)
  have hh2 := heldZ_but hh hCB hCF' sb
  obtain ⟨k1, k2, k3, oe, vs, T, oT, ts', he, hz, hd, hv1, hr⟩ := id hh2
  unfold PySem.passOn
  refine wpAny_bind (wpAny_field he hd hv1 ?_)
  rw [if_neg (show ¬ ((Value.ref T == Value.none) = true) from by simp)]
  have fin : wpAny (model X.prog X.w) X.A (setFlight (.ref a) cenv.frame) (fun _ s4 => wpAny (model X.prog X.w) X.A (throw (.ref a) : Sem Value) (fun _ _ => False) X.xe s4) X.xe { s' with heap := h2 } := by
    rw [hce, hcf, hf]
    refine HandSPX.setFlight_onZ hh2 fun h4 hh4 up4 => wpAny_throw (tk _ _ ?_)
    -- the state without it, and without the block's names
    have I5 : Inv X pins σ H' sI := I3.call' (ch := fp) J.os J.base J.hok J.bare fun b hb => ⟨(f3 b hb).1.2.2.2.1, (f3 b hb).1.2.1, (f3 b hb).1.2.2.2.2.1, (f3 b hb).1.2.2.2.2.2⟩
    obtain ⟨g0, g1, g2, g3, g4, g5⟩ := I3.fpOk (b := C) (Nat.le_of_eq hsz.symm) hCn
    have I6 : Inv X pins σ H' { sI with heap := PySem.W.hideAll sI.heap [C], toks := sI.toks } := I5.turned (it := C) (fun b o hb e => PySem.W.hideAll_get [C] e (by simpa using hb)) g0 g1 g3 g4 g5
    refine ⟨a, PySem.W.hideAll B [C], { sI with heap := PySem.W.hideAll sI.heap [C], toks := sI.toks }, pins, σ, H', cls, d, rfl, I6, fun b o e hb => ?_, ?_, .inr (.inr (by rw [hst]; exact hh4)), na, os.trans osI.symm, ag, hE⟩
    · have e1 := PySem.W.of_hideAll [C] e
      have e2 : b ≠ C := fun z => by
        subst z
        rw [show ({ sI with heap := PySem.W.hideAll sI.heap [b], toks := sI.toks } : Shared).heap.get? b = (PySem.W.hideAll sI.heap [b]).get? b from rfl, PySem.W.hideAll_none [b] (List.mem_singleton.mpr rfl)] at e
        cases e
      exact PySem.W.hideAll_get [C] (nb b o e1 hb) (by simpa using e2)
    · intro b o e hnf
      have e1 : sI.heap.get? b = some o := PySem.W.of_hideAll [C] e
      have e2 : b ≠ C := fun z => by
        subst z
        rw [show ({ sI with heap := PySem.W.hideAll sI.heap [b], toks := sI.toks } : Shared).heap.get? b = (PySem.W.hideAll sI.heap [b]).get? b from rfl, PySem.W.hideAll_none [b] (List.mem_singleton.mpr rfl)] at e
        cases e
      obtain ⟨sl1, q1⟩ := up1 b o (up b o e1) hnf
      have q2 : h2.get? b = some { o with slots := sl1 } := (sb.2 b e2).trans q1
      exact up4 b ({ o with slots := sl1 }) q2 hnf
  first
    | exact wpAny_bind (wpAny_pure (wpAny_bind fin))
    | exact wpAny_bind fin

/-- a comprehension over anything, what an item raises let out -/
theorem lc_coreX {pins : List (Addr × Obj)} {s : Shared} {σ : St} {H : Hp} {Q : VK} {elt tg iter : Expr} {ifs : List Expr} {scope : Scope} {own : List (Str × Nat)} {pos pos' : Pos} {wi : TI} {g : TG} {tt : TT} {te : TE} {use : Option (Value → Sem Unit)} {Qf : Value → Shared → Prop} {EX : XK}
    (hst : X.stack = X.env :: X.outer) (hfr : X.env.frame = some X.env.locals) (tk : Takes X (fun cls d _ H => EX cls d H))
    (hc : X.calm = true) (hN : X.N.Nodup) (I : Inv X pins σ H s) (hi : PI X tg iter wi) (ok : BlkOk X.N X.env.scope scope own)
    (hg : ∀ (s : Shared) (H : Hp) (C : Addr) (cl : List (Str × Addr)) (fp : List Addr), PG (X.blk s H scope (compEnvC scope cl C X.env) fp) tg g)
    (ht : ∀ (s : Shared) (H : Hp) (C : Addr) (cl : List (Str × Addr)) (fp : List Addr), PTs (X.blk s H scope (compEnvC scope cl C X.env) fp) ifs tt)
    (he : ∀ (s : Shared) (H : Hp) (C : Addr) (cl : List (Str × Addr)) (fp : List Addr) (xe : Value → Shared → Prop), (∀ σ', PassesAt (L2.CX X.prog X.w) (X.blkX s H scope (compEnvC scope cl C X.env) fp xe) σ' EX) → PE (X.blkX s H scope (compEnvC scope cl C X.env) fp xe) elt te)
    (hs : ∀ x, foldedSetIterable iter X.env x = pure x) (h : tLc wi g tt te (own.map (·.2)) σ H Q)
    (fin : ∀ D C s' m H', Inv X pins σ H' s' → Q (.ref D) H' → s'.heap.Ns C m → FpOk X pins H' C → compPostX (model X.prog X.w) X.A X.xe use Qf (.ref D) C X.env.frame (.ok .next) s') :
    wpAny (model X.prog X.w) X.A (comprehension (.ListComp elt [⟨tg, iter, ifs, 0⟩] scope pos) scope X.env pos' (newList []) false (eval iter X.env) use) Qf X.xe s := by
  have cap : ∀ y ∈ scope.names, y.2 = .free → ∃ c, X.env.cells.lookup y.1 = some c := fun y hy e => (ok.free y hy e).elim (fun k => I.ok.has _ (.inl k)) fun k => I.ok.has _ (.inr k)
  refine wpAny_comprehension_freeX (use := use) rfl hs (closure_ok cap) ok.kind (fun y hy e => (ok.uniq y hy).trans (congrArg some e)) (thn (hi.run pins s σ H _ I h) fun _ _ p => thn p fun itv s2 q2 => ?_)
  obtain ⟨it, fp, tn, J, H2, rfl, I2, T, st2, f2, q⟩ := q2
  refine wpAny_newObj_type (newEnv_comp ?_) (Nat.zero_le _)
  obtain ⟨D, hD⟩ : ∃ D, s2.heap.objs.size = D := ⟨_, rfl⟩
  rw [hD]
  obtain ⟨W, ⟨m0, w0⟩, turn⟩ := q D (I2.hok.fresh (Nat.le_of_eq hD))
  obtain ⟨s3, hs3⟩ : ∃ s3 : Shared, ({ s2 with heap := s2.heap.push { cls := .type "list", data := .seq ([] : List Value).toArray } } : Shared) = s3 := ⟨_, rfl⟩
  have h3 : s3.heap = s2.heap.push { cls := .type "list", data := .seq ([] : List Value).toArray } := by rw [← hs3]
  have up3 : ∀ b o, s2.heap.get? b = some o → s3.heap.get? b = some o := fun b o e => by rw [h3]; exact Heap.get?_push_of_some _ e
  have I3 : Inv X pins σ (upd H2 D (.lst [])) s3 := by
    have atD : s3.heap.get? D = some { cls := .type "list", data := .seq ([] : List Value).toArray } := by rw [h3, ← hD]; exact Heap.get?_push_size _ rfl
    rw [← hs3] at up3 atD ⊢
    exact I2.laid (t' := s2.toks) up3 (Nat.le_of_eq hD) ⟨Nat.zero_le _, [], 0, .nil, atD⟩
  have f3 : ∀ b ∈ fp, FpOk X pins (upd H2 D (.lst [])) b ∧ b < s3.heap.objs.size := fun b hb => by
    obtain ⟨o, e, _⟩ := T.obj _ _ st2 b hb
    have hne : b ≠ D := fun z => Nat.lt_irrefl _ (by have := Heap.lt_size e; rwa [z, hD] at this)
    exact ⟨⟨(upd_ne hne).trans (f2 b hb).1, (f2 b hb).2⟩, Heap.lt_size (up3 b o e)⟩
  have st3 : tn 0 s3.heap := T.keep _ _ _ st2 fun b _ o e => up3 b o e
  rw [hs3]
  obtain ⟨cl, hcl⟩ : ∃ cl, cellsFrom (s3.heap.objs.size + 1) scope.names (cloFrom X.env.cells scope.names []) = cl := ⟨_, rfl⟩
  have I4 := block_start I3 ok hN f3
  rw [hcl] at I4
  show codeAny (model X.prog X.w) X.A (.compStart (.ListComp elt [⟨tg, iter, ifs, 0⟩] scope pos) 0 (.ref it) (.ref D) (compEnvC scope (cellsFrom (s3.heap.objs.size + 1) scope.names (cloFrom X.env.cells scope.names [])) s3.heap.objs.size X.env))
    (compPostX (model X.prog X.w) X.A X.xe use Qf (.ref D) s3.heap.objs.size X.env.frame) { s3 with heap := pushCells (s3.heap.push { cls := .type "dict", data := .dict #[] }) scope.names }
  rw [hcl]
  obtain ⟨H3, hH3⟩ : ∃ H3, upd H2 D (.lst []) = H3 := ⟨_, rfl⟩
  rw [hH3] at I3 I4 f3 w0
  obtain ⟨ce, hce⟩ : ∃ ce, compEnvC scope cl s3.heap.objs.size X.env = ce := ⟨_, rfl⟩
  have pg := hg s3 H3 s3.heap.objs.size cl fp
  have pt := ht s3 H3 s3.heap.objs.size cl fp
  have pe := he s3 H3 s3.heap.objs.size cl fp
  have cL : ce.locals = s3.heap.objs.size := by rw [← hce]; rfl
  have cF : ce.frame = X.env.frame := by rw [← hce]; rfl
  rw [hce] at I4 pg pt pe ⊢
  have ps := fun σ' => blk_passes (use := use) (Qf := Qf) (acc := .ref D) (ce := ce) (scope := scope) (fp := fp) I3 hst hfr tk cL rfl cF f3 σ'
  rw [cF] at ps
  have pe := pe _ ps
  obtain ⟨s4, hs4⟩ : ∃ s4 : Shared, ({ s3 with heap := pushCells (s3.heap.push { cls := .type "dict", data := .dict #[] }) scope.names } : Shared) = s4 := ⟨_, rfl⟩
  have st4 : tn 0 s4.heap := T.keep _ _ _ st3 fun b _ o e => by rw [← hs4]; exact pushCells_keeps _ _ _ _ (Heap.get?_push_of_some _ e)
  rw [hs4] at I4 ⊢
  -- the iterator's objects stand apart from what the block tracks
  have apart : ∀ {σ' : St} {H' : Hp} {s' : Shared}, Inv (X.blk s3 H3 scope ce fp) [] σ' H' s' → (∀ b ∈ fp, H' b = none) → ∀ b ∈ fp, FpOk (X.blk s3 H3 scope ce fp) [] H' b := fun I' hn b hb =>
    ⟨hn b hb, (I'.ok.exf b hb).1, I'.ok.exfs b hb, .inl hb, fun x c e => (I'.ok.exf b hb).2 x c e, fun p hp => nomatch (show p ∈ ([] : List (Addr × Obj)) from hp)⟩
  have loop : codeAny (model X.prog X.w) X.A (.compLoop (.ListComp elt [⟨tg, iter, ifs, 0⟩] scope pos) 0 (.ref it) (.ref D) ce) (compPostX (model X.prog X.w) X.A X.xe use Qf (.ref D) s3.heap.objs.size X.env.frame) s4 := by
    refine compLoop_any (fun n s' => ∃ i H', Inv (X.blk s3 H3 scope ce fp) [] (wipe σ (own.map (·.2))) H' s' ∧ tn i s'.heap ∧ (∀ b ∈ fp, H' b = none) ∧ W i n H') (fun n s5 hn => ?_) m0 ⟨0, H3, I4, st4, fun b hb => (f3 b hb).1.1, w0⟩
    obtain ⟨i, H5, I5, st5, n5, w5⟩ := hn
    rcases turn i n H5 w5 with ⟨stop, qq⟩ | ⟨go, Nx, hNx, step⟩
    · refine thnF (T.done (X.blk s3 H3 scope ce fp) rfl rfl rfl hc i [] s5 _ H5 (fun _ _ => False) I5 (apart I5 n5) st5 stop) fun r s6 z => ?_
      obtain ⟨rfl, I6⟩ := z
      obtain ⟨m, hm, _⟩ := I6.loc
      have hm : s6.heap.Ns ce.locals m := hm
      have nC : H5 ce.locals = none := I6.free
      rw [cL] at hm nC
      refine fin D s3.heap.objs.size s6 m H5 ?_ qq hm (I3.fpOk (Nat.le_refl _) nC)
      exact I3.call' (ch := fp) I6.os I6.base I6.hok I6.bare fun b hb => ⟨(f3 b hb).1.2.2.2.1, (f3 b hb).1.2.1, (f3 b hb).1.2.2.2.2.1, (f3 b hb).1.2.2.2.2.2⟩
    · refine thnF (T.item (X.blk s3 H3 scope ce fp) rfl rfl rfl hc i [] s5 _ H5 (fun _ _ => False) I5 (apart I5 n5) st5 go) fun r s6 z => ?_
      obtain ⟨u, rfl, h6⟩ := z
      refine thnF h6 fun _ s7 z => ?_
      obtain ⟨x, H7, I7, r7, y7, st7, n7⟩ := z
      refine thnF (pg.run _ s7 _ H7 x u _ (I7.pinned (apart I7 n7) (T.obj _ _ st7)) r7 (step x H7 y7)) fun _ s8 z => ?_
      obtain ⟨σ8, H8, I8, hw8, q8⟩ := z
      refine thnF (pt.run _ s8 σ8 H8 _ I8 q8) fun b s9 z => ?_
      obtain ⟨H9, I9, q9⟩ := z
      have next : ∀ {s' : Shared} {H' : Hp}, Inv (X.blk s3 H3 scope ce fp) ([] ++ pinsAt fp s7.heap) σ8 H' s' → Nx H' → ∃ m, m < n ∧ ∃ i H', Inv (X.blk s3 H3 scope ce fp) [] (wipe σ (own.map (·.2))) H' s' ∧ tn i s'.heap ∧ (∀ b ∈ fp, H' b = none) ∧ W i m H' := fun {s' H'} I' nx => by
        obtain ⟨m', hm, w'⟩ := hNx H' nx
        have pin : ∀ b ∈ fp, ∀ o, s7.heap.get? b = some o → s'.heap.get? b = some o ∧ H' b = none := fun b hb o e => by
          have z := I'.pin (b, o) (List.mem_append_right _ (List.mem_append_right _ (mem_pinsAt hb e)))
          exact ⟨z.1, z.2.1⟩
        refine ⟨m', hm, i + 1, H', (I'.unpinned (pins := [])).weak (by rw [wipe_length, ← wipe_length σ8 (own.map (·.2)), hw8, wipe_length]) (fun j v e => ?_), T.keep _ _ _ st7 fun b hb o e => (pin b hb o e).1, fun b hb => ?_, w'⟩
        · exact (wipe_some (by rw [hw8]; exact e)).1
        · obtain ⟨o, e, _⟩ := T.obj _ _ st7 b hb
          exact (pin b hb o e).2
      cases b with
      | false => exact next I9 q9
      | true =>
        refine wpAny_mono (pe.run _ s9 σ8 H9 _ (I9.wish _) q9) (fun z s10 y => ?_) fun e s10 y => y
        obtain ⟨yv, H10, I10, r10, acc, hD10, hz10, nx⟩ := y
        exact app_ok (X := X.blk s3 H3 scope ce fp) I10.unwish hD10 hz10 r10 fun s11 I11 => next I11 nx
  exact codeAny_compStart_list loop (T.self X.A 0 _ _ _ st4 loop)
/-- name = [..], what an item raises let out; the name a local, on one line -/
theorem ps_setLcX {i : Nat} {y : Str} {py : Pos} {elt tg iter : Expr} {ifs : List Expr} {scope : Scope} {own : List (Str × Nat)} {pos spos : Pos} {wi : TI} {g : TG} {tt : TT} {te : TE} {EX : XK} (hc : X.calm = true)
    (hst : X.stack = X.env :: X.outer) (hfr : X.env.frame = some X.env.locals) (tk : Takes X (fun cls d _ H => EX cls d H)) (hN : X.N.Nodup) (hy : X.N[i]? = some y) (hyl : X.env.scope.names.lookup y = some .local)
    (hsw : swapsWith (.ListComp elt [⟨tg, iter, ifs, 0⟩] scope pos) (some (.Name y py)) spos.line X.env = pure true) (hi : PI X tg iter wi) (ok : BlkOk X.N X.env.scope scope own)
    (hg : ∀ (s : Shared) (H : Hp) (C : Addr) (cl : List (Str × Addr)) (fp : List Addr), PG (X.blk s H scope (compEnvC scope cl C X.env) fp) tg g)
    (ht : ∀ (s : Shared) (H : Hp) (C : Addr) (cl : List (Str × Addr)) (fp : List Addr), PTs (X.blk s H scope (compEnvC scope cl C X.env) fp) ifs tt)
    (he : ∀ (s : Shared) (H : Hp) (C : Addr) (cl : List (Str × Addr)) (fp : List Addr) (xe : Value → Shared → Prop), (∀ σ', PassesAt (L2.CX X.prog X.w) (X.blkX s H scope (compEnvC scope cl C X.env) fp xe) σ' EX) → PE (X.blkX s H scope (compEnvC scope cl C X.env) fp xe) elt te)
    (hs : ∀ x, foldedSetIterable iter X.env x = pure x := by intro _; rfl) :
    PS X (.Assign [.Name y py] (.ListComp elt [⟨tg, iter, ifs, 0⟩] scope pos) spos) (tAsg (tLc wi g tt te (own.map (·.2))) (gName i)) := by
  refine ⟨fun pins s σ H D I h => ?_⟩
  have h : tLc wi g tt te (own.map (·.2)) σ H (fun x H1 => gName i x σ H1 D.nx) := h
  rw [exec_Assign_Name_used _ _ _ _ hsw]
  refine wpAny_bind (wpAny_standAt (wpAny_bind ?_))
  refine (show wpAny _ X.A (do let _ ← comprehension (.ListComp elt [⟨tg, iter, ifs, 0⟩] scope pos) scope X.env (firstIterPos [⟨tg, iter, ifs, 0⟩] pos) (newList []) false (eval iter X.env) (some (assign (.Name y py) X.env))) _ _ s from ?_)
  refine wpAny_bind (thn (lc_coreX (Qf := fun _ s' => SP X pins D .next s') hst hfr tk hc hN I hi ok hg ht he hs h fun L C s' m H' I' q hn f => ?_) fun _ s' hq => wpAny_pure (wpAny_pure hq))
  refine (show wpAny _ _ (assign (.Name y py) X.env (.ref L)) _ _ _ from wpAny_assign_Name (store_ok2 (v := V.ref L) I' hN hy (.inl hyl) rfl (fun s2 I2 z => ?_) (.inr hyl)))
  obtain ⟨a, sb, ha⟩ := z
  obtain ⟨f0, f1, f2, f3, f4, f5⟩ := f
  have haC : C ≠ a := ha.elim (fun z => by rw [z]; exact f1) fun z => fun e => f4 y a z e.symm
  exact ⟨m, hn.sameBut sb haC, fun h3 sb3 => ⟨_, H', I2.turned (t' := s2.toks) (fun b o hb e => (sb3.2 b hb).trans e) f0 f1 f3 f4 f5, q⟩⟩
end
end L2
end

section
set_option Elab.async false
set_option linter.all false
set_option maxRecDepth 100000
set_option maxHeartbeats 2000000
/-! A lambda that's handed to a def beside another argument, and called there with one or more. -/
namespace LamY
open PySem PySem.Spec PyProof.Rows L2 LamX NdefX
/-- the lambda's words as those of a function (its body stands apart) -/
abbrev lamF (q : Str) (params : Arguments) (scope : Scope) (cl : List (Str × Addr)) (c : Addr) : NF := ⟨"<lambda>", q, params, [], scope, cl, c⟩
/-- what is to be read of its body: a value -/
def BodyOk (P : Program) (w : World) (K : PySem.W.Frag) (mg : Str → Option Value) (base : Heap) (N : List Str) (F : NF) (f : Addr) (A : Around) (outer : List Env) (k : Nat) (ws : List (Option V)) (body : Expr) (spL : List V → Hp → VK → Prop) : Prop :=
  ∀ (s : Shared) (H : Hp) (vs : List V) (Q : VK), Room k (A.deeper (envF F f s.heap.objs.size)) → spL vs H Q → ∃ te : TE, PE (ncx CX0 P w K mg base N F f A outer s H E0).nox body te ∧ te (startF N vs ws) H Q
section
variable {P : Program} {w : World} {K : PySem.W.Frag} {mg : Str → Option Value} {base : Heap} {N ps fr : List Str} {q : Str} {params : Arguments} {scope : Scope} {cl : List (Str × Addr)} {c f : Addr} {body : Expr} {k : Nat}
theorem lam_call {A : Around} {outer : List Env} {s : Shared} {H : Hp} {us : List Value} {vs : List V} {ws : List (Option V)} {Q : VK} {pm ctv : Value} {spL : List V → Hp → VK → Prop} (S : NScope N ps fr scope) (hf : s.heap.get? f = some (PySem.W.kla_obj "<lambda>" q params body scope cl pm c ctv)) (hc : s.heap.CodeRec (.ref c) q)
    (C : CellsAt cl fr ws s.heap H) (hb : ∀ us : List Value, us.length = ps.length → bindArgs (PySem.W.kla_fn "<lambda>" q params body scope cl pm (.ref c) ctv) ⟨us, []⟩ = pure (ps.zip us)) (r : Vals vs us) (hl : vs.length = ps.length) (hr : Room (k + 1) A) (e0 : Env0 P w K mg base A outer s H)
    (hbody : BodyOk P w K mg base N (lamF q params scope cl c) f A outer k ws body spL) (h : spL vs H Q) : codeAny (model P w) A (.call (.ref f) ⟨us, []⟩) (CR CX0 outer P w H s Q E0) s := by
  have lim : s.heap.NoLimit := e0.mod.nolimit.keeps fun b o e => (e0.bs b o e).1
  refine PySem.W.kla_callFunE hr.depth hf rfl S.co S.gen rfl hc ?_
  rw [hb us (by rw [← r.length]; exact hl)]
  refine wpAny_pure (wpAny_newFunctionEnv S.nocell (fun y hy => S.par y.1 (List.of_mem_zip hy).1) (fun h₁ hns hsb => ⟨lim.fresh _ hsb, ?_⟩) S.kind)
  have up : ∀ b o, s.heap.get? b = some o → h₁.get? b = some o := fun b o e => hsb.extBut b o (Nat.ne_of_lt (Heap.lt_size e)) (Heap.get?_push_of_some _ e)
  have J : Inv (ncx CX0 P w K mg base N (lamF q params scope cl c) f A outer s H E0) [] (startF N vs ws) H { s with heap := h₁, toks := s.toks + (ps.zip us).length } := inv_startN S hr.hd e0 hl r C hns up
  obtain ⟨te, ht, hq⟩ := hbody s H vs Q (hr.deeper _) h
  refine (show codeAny (model P w) A (.expr body (envF (lamF q params scope cl c) f s.heap.objs.size)) _ _ from PySem.W.kla_codeExpr ?_)
  refine wpAny_mono (ht.run [] _ (startF N vs ws) H Q (J.wish _) hq) (fun v s' z => ?_) fun e s' z => z.elim
  obtain ⟨y, H', J', rv, q'⟩ := z
  have J' := J'.unwish
  exact ⟨y, H', J'.os, J'.bare, J'.base, J'.hok, rv, q'⟩
end
/-- the def that got it calls it -/
def tCallH (i : Nat) (f c : Addr) (q : Str) (n : Nat) (spL : List V → Hp → VK → Prop) (t : TA) : TE := fun σ H Q => σ[i]? = some (some (.ref f)) ∧ t σ H fun vs H1 => H1 c = some (CodeO c q) ∧ vs.length = n ∧ spL vs H1 Q
section
variable {Z : Cx} {N ps fr : List Str} {q a : Str} {params : Arguments} {scope : Scope} {cl : List (Str × Addr)} {c f : Addr} {body e : Expr} {es : List Expr} {i k : Nat} {t : TA} {p1 p2 : Pos} {ws : List (Option V)} {pm ctv : Value} {spL : List V → Hp → VK → Prop}
theorem pe_callH (S : NScope N ps fr scope) (hf : Z.s_0.heap.get? f = some (PySem.W.kla_obj "<lambda>" q params body scope cl pm c ctv)) (hfn : Z.H_0 f = none) (hfr : f ∉ Z.fs) (hfx : f ∉ Z.ex)
    (C : CellsAt cl fr ws Z.s_0.heap Z.H_0) (nf : ∀ y a, cl.lookup y = some a → a ∉ Z.fs) (nx : ∀ y a, cl.lookup y = some a → a ∉ Z.ex)
    (hb : ∀ us : List Value, us.length = ps.length → bindArgs (PySem.W.kla_fn "<lambda>" q params body scope cl pm (.ref c) ctv) ⟨us, []⟩ = pure (ps.zip us)) (hr : Room (k + 1) Z.A)
    (hbody : BodyOk Z.prog Z.w Z.K Z.mg Z.base N (lamF q params scope cl c) f Z.A Z.stack k ws body spL)
    (hN : Z.N[i]? = some a) (hv : Vis Z.env.scope a) (ha : PA Z (e :: es) t) (hd : (a == ("__debug__" : Str)) = false := by decide) (hcd : (a == ("__classdict__" : Str)) = false := by decide)
    (he : starEach (e :: es) Z.env = (false, eval e Z.env) :: starEach es Z.env := by rfl) (hpl : (backTo p2 (starEach es Z.env)).any (·.1) = false := by rfl) :
    PE Z (.Call (.Name a p1) (e :: es) [] p2) (tCallH i f c q ps.length spL t) := by
  refine ⟨fun pins s σ H Q I h => ?_⟩
  obtain ⟨hs, ht⟩ := h
  have is : ∀ {σ' H' s'}, Inv Z pins σ' H' s' → s'.heap.get? f = some (PySem.W.kla_obj "<lambda>" q params body scope cl pm c ctv) := fun J => J.base.keep f _ hf hfn hfr hfx
  refine wpAny_Call_Name_kw (thn ((pe_var (pos := p1) hN hv hd hcd).run pins s σ H (fun v H1 => v = .ref f ∧ H1 = H) I ⟨.ref f, hs, rfl, rfl⟩) fun u s1 z => ?_)
  obtain ⟨v, H1, I1, r1, rfl, rfl⟩ := z
  cases r1
  refine PySem.W.callWith_F (first := []) ⟨_, _, _, _, is I1⟩ (thn (ha.run p2 pins s1 σ _ _ I1 ht) fun us s2 z => ?_) he hpl
  obtain ⟨vs, H2, I2, r, hc, hl, hq⟩ := z
  refine ⟨⟨_, _, _, _, is I2⟩, wpAny_call (codeAny_mono (lam_call (us := us) S (is I2) (codeO_at I2.hok hc) (C.later nf nx I2) hb r hl hr I2.env0 hbody hq) fun r' s' y => ?_)⟩
  cases r' with
  | error e => exact (show False from y).elim
  | ok fl =>
    cases fl with
    | ret u => exact I2.after y
    | next => exact False.elim y
    | brk => exact False.elim y
    | cont => exact False.elim y
end

/-- what the def that gets the lambda (in its last place) makes of it: TG, from what the lambda promises -/
def Gives2 (X : Cx) (Ng : List Str) (qg : Str) (sg : Scope) (g : Addr) (cdg : Value) (bg : List Stmt) (a : Str) (i n j : Nat) (q : Str) (TG : (List V → Hp → VK → Prop) → List V → Hp → VK → Prop) : Prop :=
  ∀ (f c : Addr) (s : Shared) (H : Hp) (Q : VK) (vs : List V) (spL : List V → Hp → VK → Prop), vs.length = i →
    (∀ (e : Expr) (es : List Expr) (t : TA) (p1 p2 : Pos), PA (cxOf CX0 X.prog X.w X.K X.mg X.base Ng qg sg g cdg X.A X.stack s H E0).nox (e :: es) t →
      (starEach (e :: es) (cxOf CX0 X.prog X.w X.K X.mg X.base Ng qg sg g cdg X.A X.stack s H E0).env = (false, eval e (cxOf CX0 X.prog X.w X.K X.mg X.base Ng qg sg g cdg X.A X.stack s H E0).env) :: starEach es (cxOf CX0 X.prog X.w X.K X.mg X.base Ng qg sg g cdg X.A X.stack s H E0).env) →
      ((backTo p2 (starEach es (cxOf CX0 X.prog X.w X.K X.mg X.base Ng qg sg g cdg X.A X.stack s H E0).env)).any (·.1) = false) →
      PE (cxOf CX0 X.prog X.w X.K X.mg X.base Ng qg sg g cdg X.A X.stack s H E0).nox (.Call (.Name a p1) (e :: es) [] p2) (tCallH i f c q n spL t)) →
    H c = some (CodeO c q) → Room j (X.A.deeper (envOfC qg sg s.heap.objs.size g cdg)) → TG spL vs H Q →
    ∃ t, PSs (cxOf CX0 X.prog X.w X.K X.mg X.base Ng qg sg g cdg X.A X.stack s H E0).nox bg t ∧ t { nx := fun _ H' => Q .non H', rt := Q } (L2.start Ng (vs ++ [.ref f])) H

/-- x(e, lambda ..: body): e's value, then what the def makes of the lambda's promise -/
def tLam2 (T : List (Addr × Str)) (TG : (List V → Hp → VK → Prop) → List V → Hp → VK → Prop) (js : List Nat) (spLam : List (Option V) → List V → Hp → VK → Prop) (te : TE) : TE := fun σ H Q =>
  te σ H fun v H0 => Tabs T H0 ∧ ∀ H1, ExtN H0 H1 → Tabs T H1 → TG (spLam (js.map (slotAt σ))) [v] H1 Q
section
variable {X : Cx}
theorem pe_call2L {T : List (Addr × Str)} {TG : (List V → Hp → VK → Prop) → List V → Hp → VK → Prop} {x a a0 : Str} {g c P : Addr} {j k : Nat} {pg : Arguments} {bg : List Stmt} {sg : Scope} {dV kV doc pm cdv ct oc : Value} {an od : Option Addr} {osl : Array (Option Value)} {Ng : List Str}
    {params : Arguments} {body e0 : Expr} {scope : Scope} {te : TE} {p lpos pos : Pos} {N ps fr : List Str} {js : List Nat} {spLam : List (Option V) → List V → Hp → VK → Prop}
    (hg : Gl X x) (hm : X.mg x = some (.ref g)) (hk : PySem.W.keepIn X.K (.ref g) = true) (lk : X.K.lookup g = some ⟨oc, od, .func (PySem.W.fnOf x x pg bg sg dV kV doc pm an cdv ct), osl⟩) (hcg : PySem.W.codeIn X.K cdv x = true)
    (hb : L2.Binds X.K (PySem.W.fnOf x x pg bg sg dV kV doc pm an cdv ct) [a0, a] []) (Sg : FnScope Ng [a0, a] sg) (hNg : Ng[1]? = some a) (hva : Vis sg a)
    (hG : Gives2 X Ng x sg g cdv bg a 1 ps.length j (X.env.qual ++ "<lambda>") TG) (TB : TabB X.base X.mg c P) (hcode : X.env.code = .ref c) (hmT : (P, X.env.qual ++ "<lambda>") ∈ T) (hu : ∀ p ∈ T, p.1 = P → p.2 = X.env.qual ++ "<lambda>")
    (hr : Room (j + 1) X.A) (hkj : k + 1 ≤ j) (S : NScope N ps fr scope) (hdef : defaultsOf params X.env = ([], [])) (hfree : ∀ y ∈ scope.names, y.2 = .free → X.env.scope.names.lookup y.1 = some .cell ∨ X.env.scope.names.lookup y.1 = some .free)
    (hfr : ∀ y ∈ fr, (y, NameKind.free) ∈ scope.names) (hjs : js.map (fun j => X.N[j]?) = fr.map some) (hown : ∀ y, X.fn y = true)
    (hbind : ∀ (q : Str) (cl : List (Str × Addr)) (pm cv ctv : Value) (us : List Value), us.length = ps.length → bindArgs (PySem.W.kla_fn "<lambda>" q params body scope cl pm cv ctv) ⟨us, []⟩ = pure (ps.zip us))
    (hbody : ∀ (A : Around) (outer : List Env) (f c : Addr) (ws : List (Option V)), BodyOk X.prog X.w X.K X.mg X.base N (lamF (X.env.qual ++ "<lambda>") params scope (cloFrom X.env.cells scope.names []) c) f A outer k ws body (spLam ws))
    (he0 : PE X e0 te) (hst : starEach [e0, .Lambda params body scope lpos] X.env = [(false, eval e0 X.env), (false, eval (.Lambda params body scope lpos) X.env)] := by rfl)
    (hdb : (x == ("__debug__" : Str)) = false := by decide) (hd : (a == ("__debug__" : Str)) = false := by decide) (hcd : (a == ("__classdict__" : Str)) = false := by decide) :
    PE X (.Call (.Name x p) [e0, .Lambda params body scope lpos] [] pos) (tLam2 T TG js spLam te) := by
  refine ⟨fun pins s σ H Q I h => ?_⟩
  refine wpAny_Call_Name_kw (ld_glob I hg hm ?_ hdb)
  refine PySem.W.callWith_K (h₀ := X.base) I.ok.mod.kin hk ?_ hst (by rfl)
  rw [hst]
  refine (show wpAny _ _ (spliced ((false, eval e0 X.env) :: [(false, eval (.Lambda params body scope lpos) X.env)])) _ _ s from ?_)
  refine Calls.spliced_cons (thn (he0.run pins s σ H _ I h) fun u0 s1 z => ?_)
  obtain ⟨v0, H0, I0, r0, hT, h⟩ := z
  have cap : ∀ y ∈ scope.names, y.2 = .free → ∃ c, X.env.cells.lookup y.1 = some c := fun y hy e => (hfree y hy e).elim (fun z => I.ok.has _ (.inl z)) fun z => I.ok.has _ (.inr z)
  refine Calls.spliced_cons (lam_make2 I0 TB hcode hmT hu hT hdef cap fun f c' pm' ctv H1 s' I1 eN T1 hf hfn hff hco => ?_)
  refine Calls.spliced_nil ⟨I1.kIn, ?_⟩
  have C : CellsAt (cloFrom X.env.cells scope.names []) fr (js.map (slotAt σ)) s'.heap H1 := cells_of I1 (Caps.made I1.ok hfree hfr hjs)
  have cm : ∀ y b, (cloFrom X.env.cells scope.names []).lookup y = some b → b ∉ frs X.stack := fun y b e z => by
    have e1 := clo_cm cap e
    rcases List.mem_cons.mp (I1.stkSub _ z) with w | w
    · exact I1.cne y b e1 w
    · obtain ⟨_, o, ho, _⟩ := I1.ok.funs.mem w
      exact Nat.lt_irrefl _ (Nat.lt_of_lt_of_le (Heap.lt_size ho) (I1.ok.cab y b (hown y) e1))
  have rc : codeAny (model X.prog X.w) X.A (.call (.ref g) ⟨[u0, .ref f], []⟩) (CR CX0 X.stack X.prog X.w H1 s' Q E0) s' := by
    refine run_ofS (N := Ng) (ps := [a0, a]) (us := [u0, .ref f]) (vs := [v0, .ref f]) lk hcg Sg hr I1.env0 (hb s' [u0, .ref f] I1.kIn rfl) (.cons r0 (.cons rfl .nil)) rfl fun hr' => ?_
    obtain ⟨t', ht', hq'⟩ := hG f c' s' H1 Q [v0] (spLam (js.map (slotAt σ))) rfl (fun e es t p1 p2 ha h1 h2 => pe_callH (i := 1) S hf hfn hff (fun z => nomatch (show f ∈ ([] : List Addr) from z)) C cm (fun y b _ z => nomatch (show b ∈ ([] : List Addr) from z))
      (hbind _ _ _ _ _) (hr'.mono hkj) (hbody _ _ f c' _) hNg hva ha hd hcd h1 h2) hco hr' (h H1 eN T1)
    exact ⟨t', ht'.nox, hq'⟩
  refine wpAny_call (codeAny_mono rc fun r s2 hq => ?_)
  cases r with
  | error e => exact (show False from hq).elim
  | ok fl =>
    cases fl with
    | ret u => exact I1.after hq
    | next => exact False.elim hq
    | brk => exact False.elim hq
    | cont => exact False.elim hq
end
end LamY
end

section
set_option Elab.async false
set_option linter.all false
set_option maxRecDepth 100000
set_option maxHeartbeats 2000000
/-! The end of a Spec row whose defs make lambdas: the tables of code objects are tracked. -/
namespace LamY
open PySem PySem.Spec PyProof.Rows L2 LamX NdefX
open PySem.W (WData Codec OpenSpec WellAll ReadsW)
theorem tabObj_ne {h : Heap} {b : Addr} {c : Value} {vs : List Value} (e : h.get? b = some { cls := .none, data := .fields #[] }) : h.get? b ≠ some { cls := c, data := .seq vs.toArray } := fun z => by
  rw [e] at z
  have z' : Data.fields #[] = Data.seq vs.toArray := congrArg Obj.data (Option.some.inj z)
  cases z'
/-- what's tracked, and empty tables -/
def withTabs (H : Hp) (tt : List Addr) : Hp := fun b => if b ∈ tt then some (.tbl #[]) else H b
theorem withTabs_in {H : Hp} {tt : List Addr} {b : Addr} (h : b ∈ tt) : withTabs H tt b = some (.tbl #[]) := if_pos h
theorem withTabs_out {H : Hp} {tt : List Addr} {b : Addr} (h : b ∉ tt) : withTabs H tt b = H b := if_neg h
section
variable {K : PySem.W.Frag} {H H' : Hp}
theorem rd_ext (e : ∀ a o, H a = some o → H' a = some o) {a : Addr} {u : HO} (r : Rd H a u) : Rd H' a u := r.elim (fun z => .inl (e _ _ z)) fun ⟨o, z⟩ => .inr ⟨o, e _ _ z⟩
mutual
theorem dw_ext (e : ∀ a o, H a = some o → H' a = some o) : ∀ {v : V} {d : WData}, Dw K H v d → Dw K H' v d
  | _, _, .non => .non
  | _, _, .bl b => .bl b
  | _, _, .int i => .int i
  | _, _, .str x => .str x
  | _, _, .byt b => .byt b
  | _, _, .lst h a => .lst (h.elim (fun z => .inl (rd_ext e z)) .inr) (dwAll_ext e a)
  | _, _, .tup h a => .tup (h.elim (fun z => .inl (rd_ext e z)) .inr) (dwAll_ext e a)
theorem dwAll_ext (e : ∀ a o, H a = some o → H' a = some o) : ∀ {vs : List V} {ds : List WData}, DwAll K H vs ds → DwAll K H' vs ds
  | _, _, .nil => .nil
  | _, _, .cons a b => .cons (dw_ext e a) (dwAll_ext e b)
end
end
/-- nothing is tracked but what is known, and empty tables -/
def OnlyFT (tt : List Addr) (H : Hp) : Prop := ∀ b, b ∉ tt → H b = none ∨ ∃ o u, H b = some (.frz o u)
theorem spec_callT {P : Program} {w : World} {K : PySem.W.Frag} {mg mb : Str → Option Value} {CX : CXT} {k : Nat} {fa : Addr} {fd : FuncData} {ps : List Str} {sp : Sp} {s₁ : Shared} {vals : List Value} {ds : List WData} {R : PySem.W.WRecords} {cl : Str → Option Addr} {d0 : WData} {cs : List (Addr × Addr)}
    (KX : K.In s₁.heap) (hns : s₁.heap.Ns mainGlobals mg) (hb : s₁.heap.Ns builtinsNs mb) (hbb : ∀ x : Str, x ≠ "__name__" → mb x = bootBuiltins x) (hlim : s₁.heap.NoLimit) (hg : s₁.gens = #[])
    (hT : ∀ p ∈ cs, s₁.heap.get? p.2 = some { cls := .none, data := .fields #[] }) (nT : ∀ p ∈ cs, K.lookup p.2 = none) (C : ∀ p ∈ cs, PySem.W.CodeHd s₁.heap p.1 p.2)
    (hbm : ∃ (bm : Addr) (ob : Obj), mg "__builtins__" = some (.ref bm) ∧ bm ≠ builtinsNs ∧ s₁.heap.get? bm = some ob ∧ ob.cls = .type "module" ∧ ob.dict = some builtinsNs ∧ ob.data = .plain)
    (NS : s₁.heap.NoSeer) (hwl : WellAll w.params s₁.heap vals ds) (hpl : plWs ds = true) (hwt : ∀ d ∈ ds, d.weight ≤ 1048576) (hr : Room k callerA)
    (F : ∀ base : Heap, K.In base → base.Ns mainGlobals mg → (∀ p ∈ cs, TabB base mg p.1 p.2) → base.NoSeer → FnOk P w K mg base CX k fa fd ps sp) (hbind : ∀ (s : Shared) (us : List Value), us.length = ps.length → BindsTo s fd ⟨us, []⟩ (ps.zip us)) (hlen : ds.length = ps.length)
    (hsp : ∀ (H : Hp) (xs : List V), (∀ p ∈ cs, H p.2 = some (.tbl #[])) → DwAll K H xs ds → sp xs H (fun v H' => Dw K H' v d0) fun _ _ _ => False)
    (hCX : ∀ H e s', CX [] H s₁ (fun _ _ _ => False) e s' → False) :
    codeAny (model P w) callerA (.call (.ref fa) ⟨vals, []⟩) (fun r s' => ∃ u as, r = .ok (.ret u) ∧ ReadsW R cl s'.heap u d0 as ∧ OldK s₁.heap s'.heap ∧ s'.os = s₁.os ∧ AllBare s'.gens) s₁ := by
  obtain ⟨A, ho, ar⟩ := area_all ds vals hwl hpl hwt
  obtain ⟨H0, e0⟩ : ∃ H0, argH K s₁.heap A = H0 := ⟨_, rfl⟩
  have only0 : OnlyF H0 := by rw [← e0]; exact argH_only ar
  have ok0 : HOk P w H0 s₁.heap := by rw [← e0]; exact argH_ok ar
  have dw0 : DwAll K H0 (vals.map toV) ds := by rw [← e0]; exact dw_all KX ar ds vals hwl hpl ho
  -- an argument's object is a list or a tuple that the top hasn't written
  have is0 : ∀ b u, H0 b = some u → K.lookup b = none ∧ ∃ (c : Value) (vs : List Value), s₁.heap.get? b = some { cls := c, data := .seq vs.toArray } := fun b u q => by
    rw [← e0] at q
    obtain ⟨h1, vs, _, _, h2⟩ := argH_is ar q
    exact ⟨h1, h2.elim (fun z => ⟨_, vs, z.1⟩) fun z => ⟨_, vs, z.1⟩⟩
  obtain ⟨tt, ett⟩ : ∃ tt, cs.map (·.2) = tt := ⟨_, rfl⟩
  have inT : ∀ b ∈ tt, ∃ p ∈ cs, p.2 = b := fun b hb => by rw [← ett] at hb; obtain ⟨p, h1, h2⟩ := List.mem_map.mp hb; exact ⟨p, h1, h2⟩
  have ofT : ∀ p ∈ cs, p.2 ∈ tt := fun p hp => by rw [← ett]; exact List.mem_map.mpr ⟨p, hp, rfl⟩
  have getT : ∀ b ∈ tt, s₁.heap.get? b = some { cls := .none, data := .fields #[] } := fun b hb => by obtain ⟨p, h1, h2⟩ := inT b hb; rw [← h2]; exact hT p h1
  have no0 : ∀ b ∈ tt, H0 b = none := fun b hb => by
    cases q : H0 b with
    | none => rfl
    | some u =>
      obtain ⟨_, c, vs, z⟩ := is0 b u q
      exact absurd z (tabObj_ne (getT b hb))
  obtain ⟨H, eH⟩ : ∃ H, withTabs H0 tt = H := ⟨_, rfl⟩
  have atT : ∀ b ∈ tt, H b = some (.tbl #[]) := fun b hb => by rw [← eH]; exact withTabs_in hb
  have atN : ∀ b, b ∉ tt → H b = H0 b := fun b hb => by rw [← eH]; exact withTabs_out hb
  have up : ∀ b o, H0 b = some o → H b = some o := fun b o q => by
    rw [atN b fun z => by rw [no0 b z] at q; cases q]
    exact q
  have hok : HOk P w H s₁.heap := fun b u q => by
    by_cases hb : b ∈ tt
    · rw [atT b hb] at q
      cases q
      exact getT b hb
    · rw [atN b hb] at q
      exact (ok0 b u q).stay (fun _ _ _ r => r) (fun c r => up c _ r) fun c xs r => up c _ r
  -- what's neither a list, a tuple nor an empty table isn't tracked
  have free : ∀ {b : Addr} {o : Obj}, s₁.heap.get? b = some o → (∀ vs n, o.data ≠ .seq vs n) → o.data ≠ .fields #[] → H b = none := fun {b o} e h1 h2 => by
    by_cases hb : b ∈ tt
    · rw [getT b hb] at e
      cases e
      exact (h2 rfl).elim
    · rw [atN b hb]
      cases q : H0 b with
      | none => rfl
      | some u =>
        obtain ⟨_, c, vs, z⟩ := is0 b u q
        rw [e] at z
        cases z
        exact (h1 _ _ rfl).elim
  have keep : ∀ {b : Addr} {o : Obj}, s₁.heap.get? b = some o → H b = none → (hidT s₁.heap H).get? b = some o := fun e n => hidT_get e n
  have nsF : ∀ {b : Addr} {m : Str → Option Value}, s₁.heap.Ns b m → (hidT s₁.heap H).Ns b m := fun {b m} ⟨o, es, ep, e, d, r⟩ =>
    ⟨o, es, ep, keep e (free e (fun vs n z => by rw [d] at z; cases z) fun z => by rw [d] at z; cases z), d, r⟩
  have inK : K.In (hidT s₁.heap H) := fun b o e => keep (KX b o e) (by
    by_cases hb : b ∈ tt
    · obtain ⟨p, h1, h2⟩ := inT b hb
      rw [← h2, nT p h1] at e
      cases e
    · rw [atN b hb]
      cases q : H0 b with
      | none => rfl
      | some u =>
        rw [(is0 b u q).1] at e
        cases e)
  have md : Mod K mg (hidT s₁.heap H) := ⟨inK, nsF hns, ⟨mb, nsF hb, hbb⟩, let ⟨mc, h1, h2⟩ := hlim; ⟨mc, nsF h1, h2⟩⟩
  have tb : ∀ p ∈ cs, TabB (hidT s₁.heap H) mg p.1 p.2 := fun p hp => by
    refine ⟨?_, ?_, fun z => ?_⟩
    · obtain ⟨o, us, file, tf, flags, tg, inF, text, tt', e1, r1, r2, r3, r⟩ := C p hp
      refine ⟨o, us, file, tf, flags, tg, inF, text, tt', keep e1 (free e1 (fun vs n z => by rw [r2] at z; cases z) fun z => ?_), r1, r2, r3, r⟩
      rw [r2] at z
      cases z
      simp at r3
    · obtain ⟨bm, ob, b1, b2, b3, b4, b5, b6⟩ := hbm
      refine ⟨bm, ob, b1, b2, fun q => ?_, fun q => ?_, keep b3 (free b3 (fun vs n z => by rw [b6] at z; cases z) fun z => by rw [b6] at z; cases z), b4, b5, b6⟩
      · obtain ⟨o, es, ep, e, hd, _⟩ := hns
        rw [q, e] at b3
        cases b3
        rw [hd] at b6
        cases b6
      · rw [q, hT p hp] at b3
        cases b3
        cases b6
    · obtain ⟨o, es, ep, e, hd, _⟩ := hns
      rw [z, hT p hp] at e
      cases e
      cases hd
  have ns : (hidT s₁.heap H).NoSeer := by
    obtain ⟨mc, n1, n2⟩ := NS.statics
    obtain ⟨mm, n3, n4⟩ := NS.mods
    obtain ⟨bm, ob, b1, b2, b3, b4, b5, b6⟩ := hbm
    exact ⟨⟨mc, nsF n1, n2⟩, ⟨mm, nsF n3, n4⟩, ⟨mb, nsF hb, hbb⟩, ⟨mg, bm, ob, nsF hns, b1, keep b3 (free b3 (fun vs n z => by rw [b6] at z; cases z) fun z => by rw [b6] at z; cases z), b4, b5⟩⟩
  have env : Env0 P w K mg (hidT s₁.heap H) callerA [] s₁ H := ⟨rfl, md, fun b o e => of_hidT e, Nat.le_of_eq (hidT_size _ _), trivial, fun b z => (nomatch (show b ∈ ([] : List Addr) from z)), hok, .of_eq hg⟩
  have hl : vals.length = ps.length := (wellAll_len hwl).trans hlen
  refine codeAny_mono ((F _ inK (nsF hns) tb ns).run callerA [] s₁ H ⟨vals, []⟩ vals (vals.map toV) _ _ hr env (hbind s₁ vals hl) (vals_toV ho) (hsp H _ (fun p hp => atT _ (ofT p hp)) (dwAll_ext up dw0))) fun r s' x => ?_
  cases r with
  | error e => exact (hCX H e s' x).elim
  | ok fl =>
    cases fl with
    | next => exact False.elim x
    | brk => exact False.elim x
    | cont => exact False.elim x
    | ret u =>
      obtain ⟨v, H', os, bare, un, hok', r', q⟩ := x
      have kept : ∀ b o, b ∉ tt → s₁.heap.get? b = some o → s'.heap.get? b = some o := fun b o nb e => by
        cases q2 : H b with
        | none => exact un.keep b o e q2 (fun z => nomatch (show b ∈ ([] : List Addr) from z)) (fun z => nomatch z)
        | some u2 =>
          rw [atN b nb] at q2
          rcases only0 b with z | ⟨ob, u3, z⟩
          · rw [q2] at z
            cases z
          · have z1 := up b _ z
            obtain ⟨e1, _⟩ := hok b _ z1
            obtain ⟨e2, _⟩ := hok' b _ (un.frzs b ob _ z1)
            rw [e] at e1
            cases e1
            exact e2
      have more : ∀ b ∈ tt, ∃ more : Array Value, s'.heap.get? b = some { cls := .none, data := .fields more } := fun b hb => by
        obtain ⟨m, z⟩ := un.tbls b #[] (atT b hb)
        exact ⟨_, hok' b _ z⟩
      have KX' : K.In s'.heap := fun b o e => kept b o (fun hb => by obtain ⟨p, h1, h2⟩ := inT b hb; rw [← h2, nT p h1] at e; cases e) (KX b o e)
      obtain ⟨as, hrd⟩ := Dw.reads (R := R) (cl := cl) hok' KX' d0 v u q r'
      refine ⟨u, as, rfl, hrd, ⟨fun b o e => ?_, fun b o e => ?_⟩, os, bare⟩
      · by_cases hb : b ∈ tt
        · obtain ⟨m, hm⟩ := more b hb
          obtain ⟨p, h1, h2⟩ := inT b hb
          rw [getT b hb] at e
          cases e
          subst h2
          exact .inr (.inl ⟨((C p h1).tab (hT p h1)).isCodeTable, rfl, #[], m, rfl, by rw [Array.empty_append]; exact hm⟩)
        · exact .inl (kept b o hb e)
      · by_cases hb : b ∈ tt
        · obtain ⟨m, hm⟩ := more b hb
          exact ⟨_, hm⟩
        · exact ⟨o, kept b o hb e⟩

/-- what is known of the row's promise at the head's heap h -/
def SpecAt (r : OpenSpec) (w : World) (K : PySem.W.Frag) (CX : CXT) (k : Nat) (ps : List Str) (mg : Str → Option Value) (fa : Addr) (h : Heap) : Prop :=
  ∃ (fd : FuncData) (cs : List (Addr × Addr)) (sp : Sp), (∀ p ∈ cs, h.get? p.2 = some { cls := .none, data := .fields #[] }) ∧ (∀ p ∈ cs, K.lookup p.2 = none) ∧ (∀ p ∈ cs, PySem.W.CodeHd h p.1 p.2) ∧
    (∀ (s : Shared) (us : List Value), us.length = ps.length → BindsTo s fd ⟨us, []⟩ (ps.zip us)) ∧
    (∀ (H : Hp) (xs : List V) (a : Codec.denoteAll r.args), Codec.withinAll r.args a = true → Codec.app r.args r.asked a = true → (∀ p ∈ cs, H p.2 = some (.tbl #[])) → DwAll K H xs (Codec.encAll r.args a) →
      sp xs H (fun v H' => Dw K H' v (r.ret.enc (Codec.app r.args r.f a))) fun _ _ _ => False) ∧
    ∀ base : Heap, K.In base → base.Ns mainGlobals mg → (∀ p ∈ cs, TabB base mg p.1 p.2) → base.NoSeer → FnOk r.prog w K mg base CX k fa fd ps sp
theorem walk_specT {r : OpenSpec} {k : Nat} {q : Program} {loose : List Str} {XP : (Str → Option Value) → Heap → Prop} {YP : World → Heap → Prop} {d : DefRec} {K : Params → PySem.W.Frag} {CX : CXT} {ps : List Str}
    (hwell : r.wellSaid = true) (himp : importsNone q = true) (hdf : d.params.defaults = []) (hlen : r.args.length = ps.length) (hr : Room k callerA) (hY : ∀ (w : World) (h : Heap), YP w h → (K w.params).In h)
    (F : ∀ (w : World) (mg : Str → Option Value) (fa : Addr) (h : Heap), YP w h → (K w.params).In h → h.Ns mainGlobals mg → mg d.name = some (.ref fa) →
      (∀ (x : Str) (f : Addr), ((recsOf q).any fun e => e.name == x) = true → mg x = some (.ref f) → OwnTab (K w.params) f h) → SpecAt r w (K w.params) CX k ps mg fa h)
    (hCX : ∀ (H : Hp) (s : Shared) (e : Value) (s' : Shared), CX [] H s (fun _ _ _ => False) e s' → False) :
    PySem.W.WalkOS q loose XP YP r d [] (fun f vs => PySem.call f vs) := by
  intro w s₀ s₁ mg mb G Y fa o pm cd doc dV kV ho hd hcd hD hmg hg args vals as hpre hlay hrd hwl hlo
  obtain ⟨a, e1, e2⟩ := PySem.W.os_pre_some hpre
  obtain ⟨e3, hwi⟩ := Codec.encAll_of_decAll r.args args a e1
  subst e3
  have KX := hY w _ Y
  have own : ∀ (x : Str) (f : Addr), ((recsOf q).any fun e => e.name == x) = true → mg x = some (.ref f) → OwnTab (K w.params) f s₁.heap := fun x f hx hm c P o1 fd1 e dd vs1 sl k1 k2 k3 k4 k5 => by
    obtain ⟨dL, hL, hn⟩ := List.any_eq_true.mp hx
    obtain ⟨a', o', fd', c', P', h1, h2, h3, h4, h5, h6⟩ := G.T.tab dL hL
    rw [beq_iff_eq.mp hn, hm] at h1
    cases h1
    rw [KX _ _ k1] at h2
    cases h2
    rw [k2] at h3
    cases h3
    rw [k3] at h4
    cases h4
    obtain ⟨⟨oc, vc, q1, _, q3, q4⟩, hP⟩ := h6
    rw [KX _ _ k4] at q1
    cases q1
    cases q3
    rw [k5] at q4
    cases q4
    exact hP
  obtain ⟨fd, cs, sp, hT, nT, C, hb, hsp, hF⟩ := F w mg fa _ Y KX G.T.g hmg own
  refine PySem.W.enter_call (codeAny_mono (spec_callT (R := []) (cl := classAt s₀.heap) (d0 := r.ret.enc (Codec.app r.args r.f a)) KX G.T.g G.T.b G.T.builtins G.T.nolimit hg hT nT C G.T.bmain (G.T.seer himp) hwl (pl_encAll _ _) (layable_weight hlay) hr hF hb (by rw [encAll_len]; exact hlen)
    (fun H xs hH hS => hsp H xs a hwi e2 hH hS) fun H e s' => hCX H s₁ e s') fun r' s' hq => ?_)
  obtain ⟨u, as', rfl, h1, h2, h3, h4⟩ := hq
  exact ⟨.inl ⟨u, _, as', rfl, fun _ => rfl, h1, (OpenSpec.post_iff hwell hwi _ _).mpr rfl, fun z => Bool.noConfusion (show false = true from z)⟩, h2, h3, h4⟩
end LamY
end

section
set_option Elab.async false
set_option linter.all false
set_option maxRecDepth 100000
set_option maxHeartbeats 2000000
namespace Y
open PySem L2
open Evl (Ex)
variable {K : Frag}

/-! ### sizes of numbers -/
theorem Sz.mono {m n : Nat} {i : Int} (h : Sz m i) (hn : m ≤ n) : Sz n i := ⟨Nat.lt_of_lt_of_le h.lt (Nat.pow_le_pow_right (by decide) hn)⟩
theorem Sz.mul {m n : Nat} {i j : Int} (a : Sz m i) (b : Sz n j) : Sz (m + n) (i * j) := ⟨by
  rw [Int.natAbs_mul, Nat.pow_add]
  exact Nat.mul_lt_mul_of_lt_of_lt a.lt b.lt⟩
theorem Sz.add {n : Nat} {i j : Int} (a : Sz n i) (b : Sz n j) : Sz (n + 1) (i + j) := ⟨by
  have := Int.natAbs_add_le i j
  have := a.lt
  have := b.lt
  rw [Nat.pow_succ]; omega⟩
theorem Sz.sub {n : Nat} {i j : Int} (a : Sz n i) (b : Sz n j) : Sz (n + 1) (i - j) := ⟨by
  have := Int.natAbs_sub_le i j
  have := a.lt
  have := b.lt
  rw [Nat.pow_succ]; omega⟩
theorem Sz.neg {n : Nat} {i : Int} (a : Sz n i) : Sz n (-i) := ⟨by rw [Int.natAbs_neg]; exact a.lt⟩
theorem Sz.add' {n : Nat} {i j : Int} (a : Sz (n - 1) i) (b : Sz (n - 1) j) (h : 0 < n) : Sz n (i + j) := (Sz.add a b).mono (by omega)
theorem Sz.sub' {n : Nat} {i j : Int} (a : Sz (n - 1) i) (b : Sz (n - 1) j) (h : 0 < n) : Sz n (i - j) := (Sz.sub a b).mono (by omega)
theorem Sz.mul' {n : Nat} {i j : Int} (a : Sz (n / 2) i) (b : Sz (n / 2) j) : Sz n (i * j) := (Sz.mul a b).mono (by omega)
theorem Sz.small {n : Nat} {i : Int} (h : i.natAbs < 2 ^ 20) (hn : 20 ≤ n) : Sz n i := Sz.mono (m := 20) ⟨h⟩ hn
theorem Sz.le {n : Nat} {i j : Int} (h : Sz n j) (hn : i.natAbs ≤ j.natAbs) : Sz n i := ⟨Nat.lt_of_le_of_lt hn h.lt⟩

/-! ### values that may be an exception instead -/
inductive Res where
  | ok (d : Dat)
  | err (C : Addr)
def VX (K : Frag) (te : TE) (W : WX) (G : Env) (r : Res) : Prop := ∀ σ B, Holds K G σ B → ∀ A, Ex B A → ∀ Q : VK, (∀ d, r = .ok d → ∀ v B' A', Grow B A B' A' → Rp K B' v d → Q v A') → (∀ C, r = .err C → ∀ B' A', Grow B A B' A' → W (.ref C) none σ A') → te σ A Q
inductive ResL where
  | ok (ds : List Dat)
  | err (C : Addr)
def VXs (K : Frag) (ta : TA) (W : WX) (G : Env) (r : ResL) : Prop := ∀ σ B, Holds K G σ B → ∀ A, Ex B A → ∀ Q : List V → Hp → Prop, (∀ ds, r = .ok ds → ∀ vs B' A', Grow B A B' A' → RpAll K B' vs ds → Q vs A') → (∀ C, r = .err C → ∀ B' A', Grow B A B' A' → W (.ref C) none σ A') → ta σ A Q
/-- what a def gives back, or raises -/
def FnX (K : Frag) (n : Nat) (pre : List Dat → Res → Prop) : Sp := fun vs A Q E => vs.length = n ∧ ∃ B ds r, Ex B A ∧ RpAll K B vs ds ∧ pre ds r ∧
  (∀ d, r = .ok d → ∀ v B' A', Grow B A B' A' → Rp K B' v d → Q v A') ∧ (∀ C, r = .err C → ∀ B' A', Grow B A B' A' → E (.ref C) none A')
section
variable {G : Env} {ta tb te : TE} {d d1 d2 : Dat} {W : WX} {tr : TA}
theorem vx_of (h : Val K te G d) : VX K te W G (.ok d) := fun σ B hs A e Q q _ => h σ B hs A e Q fun v B' A' g r => q d rfl v B' A' g r
theorem vx_is {r r' : Res} (h : VX K te W G r) (e : r = r') : VX K te W G r' := e ▸ h
theorem vxs_of {ds : List Dat} (h : Vals K tr G ds) : VXs K tr W G (.ok ds) := fun σ B hs A e Q q _ => h σ B hs A e Q fun v B' A' g r => q ds rfl v B' A' g r
/-- the first raises, or the rest -/
def Res.cons : Res → ResL → ResL
  | .ok d, .ok ds => .ok (d :: ds)
  | .ok _, .err C => .err C
  | .err C, _ => .err C
theorem vxs_cons {r : Res} {rs : ResL} (h : VX K te W G r) (hr : VXs K tr W G rs) : VXs K (tCons te tr) W G (r.cons rs) := fun σ B hs A e Q q x => by
  cases r with
  | err C => exact h σ B hs A e _ (fun d z => nomatch z) fun C' z B' A' g => by cases z; exact x C rfl B' A' g
  | ok d =>
    refine h σ B hs A e _ (fun d' z v B1 A1 g1 r1 => ?_) fun C' z => nomatch z
    cases z
    refine hr σ B1 (hs.ex g1.bb) A1 g1.ba _ (fun ds z vs B2 A2 g2 r2 => ?_) fun C z B2 A2 g2 => ?_
    · subst z
      exact q _ rfl (v :: vs) B2 A2 (g1.trans g2) (.cons (r1.ex g2.bb) r2)
    · subst z
      exact x C rfl B2 A2 (g1.trans g2)
/-- a call of a def that may raise -/
theorem vx_call {n : Nat} {pre : List Dat → Res → Prop} {ds : List Dat} {r : Res} (h : Vals K tr G ds) (hn : ds.length = n) (hp : pre ds r) : VX K (tCallS (FnX K n pre) (WE W) tr) W G r := fun σ B hs A e Q q x =>
  h σ B hs A e _ fun vs B1 A1 g1 r1 => ⟨by rw [r1.len, hn], B1, ds, r, g1.ba, r1, hp, fun d z v B2 A2 g2 r2 => q d z v B2 A2 (g1.trans g2) r2, fun C z B2 A2 g2 => x C z B2 A2 (g1.trans g2)⟩
/-- .. within a comprehension: what's wished doesn't ask for the slots -/
theorem vx_callE {n : Nat} {pre : List Dat → Res → Prop} {ds : List Dat} {r : Res} {E : XK} (h : Vals K tr G ds) (hn : ds.length = n) (hp : pre ds r) : VX K (tCallS (FnX K n pre) (fun _ => E) tr) (fun c d _ H => E c d H) G r := fun σ B hs A e Q q x =>
  h σ B hs A e _ fun vs B1 A1 g1 r1 => ⟨by rw [r1.len, hn], B1, ds, r, g1.ba, r1, hp, fun d z v B2 A2 g2 r2 => q d z v B2 A2 (g1.trans g2) r2, fun C z B2 A2 g2 => x C z B2 A2 (g1.trans g2)⟩

/-- a call of a def that doesn't raise, of arguments that may -/
def ResL.call (f : List Dat → Dat) : ResL → Res
  | .ok ds => .ok (f ds)
  | .err C => .err C
theorem vx_callN {n : Nat} {pre : List Dat → Dat → Prop} {E : XK} {rs : ResL} {f : List Dat → Dat} (h : VXs K tr W G rs) (hp : ∀ ds, rs = .ok ds → ds.length = n ∧ pre ds (f ds)) : VX K (tCall (Fn K n pre) [] E tr) W G (rs.call f) := fun σ B hs A e Q q x =>
  h σ B hs A e _ (fun ds z vs B1 A1 g1 r1 => by
    subst z
    rw [List.append_nil]
    obtain ⟨h1, h2⟩ := hp ds rfl
    exact ⟨by rw [r1.len, h1], B1, ds, f ds, g1.ba, r1, h2, fun v B2 A2 g2 r2 => q _ rfl v B2 A2 (g1.trans g2) r2⟩) fun C z B2 A2 g2 => by
    subst z
    exact x C rfl B2 A2 g2
theorem vx_tup {rs : ResL} (h : VXs K tr W G rs) (hl : ∀ ds, rs = .ok ds → ds.length ≤ 100000) : VX K (tTup tr) W G (rs.call .tup) := fun σ B hs A e Q q x =>
  h σ B hs A e _ (fun ds z vs B1 A1 g1 r1 => by
    subst z
    exact ⟨by rw [r1.len]; exact Evl.sz_of (hl ds rfl), fun p hp => q _ rfl _ _ _ (g1.trans (Grow.lay g1.ba hp _)) (.tup (Evl.st_of upd_same) (r1.ex (Grow.lay g1.ba hp _).bb))⟩) fun C z B2 A2 g2 => by
    subst z
    exact x C rfl B2 A2 g2

/-! ### built-in calls -/
theorem v_len {ds : List Dat} (h : Val K ta G (.lst ds)) : Val K (tCB (fun xs H Q => ∃ p ys, xs = [.ref p] ∧ (SqL K H p ys ∨ SqT K H p ys) ∧ Q (.int ys.length) H) (tCons ta tNil)) G (.int (ds.length : Int)) :=
  v_cb (va_cons h va_nil) fun vs B A e r Q q => by
    cases r with
    | cons r1 r2 =>
      cases r2
      cases r1 with
      | @lst a xs _ h1 h2 =>
        refine ⟨a, xs, rfl, .inl (Evl.sq_of (e _ _ h1)), ?_⟩
        rw [h2.len]
        exact q _ B A (Grow.refl e) (.int _)
theorem v_lenR {ns : List Int} (h : Val K ta G (.raw ns)) : Val K (tCB (fun xs H Q => ∃ p ys, xs = [.ref p] ∧ (SqL K H p ys ∨ SqT K H p ys) ∧ Q (.int ys.length) H) (tCons ta tNil)) G (.int (ns.length : Int)) :=
  v_cb (va_cons h va_nil) fun vs B A e r Q q => by
    cases r with
    | cons r1 r2 =>
      cases r2
      cases r1 with
      | @raw a _ h1 =>
        refine ⟨a, _, rfl, .inl (Evl.ex_l e h1), ?_⟩
        rw [List.length_map]
        exact q _ B A (Grow.refl e) (.int _)
theorem v_min2 {i j : Int} (ha : Val K ta G (.int i)) (hb : Val K tb G (.int j)) : Val K (tCB (fun xs H Q => ∃ i j, xs = [V.int i, V.int j] ∧ Q (.int (if j < i then j else i)) H) (tCons ta (tCons tb tNil))) G (.int (min i j)) :=
  v_cb (va_cons ha (va_cons hb va_nil)) fun vs B A e r Q q => by
    cases r with
    | cons r1 r2 =>
      cases r2 with
      | cons r2 r3 =>
        cases r1; cases r2; cases r3
        refine ⟨i, j, rfl, ?_⟩
        have : (if j < i then j else i) = min i j := by split <;> omega
        rw [this]
        exact q _ B A (Grow.refl e) (.int _)
theorem v_max2 {i j : Int} (ha : Val K ta G (.int i)) (hb : Val K tb G (.int j)) : Val K (tCB (fun xs H Q => ∃ i j, xs = [V.int i, V.int j] ∧ Q (.int (if j > i then j else i)) H) (tCons ta (tCons tb tNil))) G (.int (max i j)) :=
  v_cb (va_cons ha (va_cons hb va_nil)) fun vs B A e r Q q => by
    cases r with
    | cons r1 r2 =>
      cases r2 with
      | cons r2 r3 =>
        cases r1; cases r2; cases r3
        refine ⟨i, j, rfl, ?_⟩
        have : (if j > i then j else i) = max i j := by split <;> omega
        rw [this]
        exact q _ B A (Grow.refl e) (.int _)
theorem Rp.ints {H : Hp} {v : V} {ns : List Int} (h : Rp K H v (.lst (ns.map Dat.int))) : ∃ a, v = .ref a ∧ H a = some (.lst (ns.map V.int)) := by
  cases h with
  | lst h1 h2 => exact ⟨_, rfl, by rw [h1, h2.ints]⟩
/-- the least of a list: told by what is asked of it -/
theorem v_minL {ns : List Int} {m : Int} (h : Val K ta G (.lst (ns.map Dat.int))) (h0 : 0 < ns.length) (hm : ∀ k, k ∈ ns → (∀ y ∈ ns, k ≤ y) → k = m) : Val K (tCB (rMin K) (tCons ta tNil)) G (.int m) :=
  v_cb (va_cons h va_nil) fun vs B A e r Q q => by
    cases r with
    | cons r1 r2 =>
      cases r2
      obtain ⟨a, rfl, h1⟩ := r1.ints
      refine ⟨a, ns, rfl, Evl.sq_of (e _ _ h1), h0, fun k k1 k2 => ?_⟩
      rw [hm k k1 k2]
      exact q _ B A (Grow.refl e) (.int _)
theorem v_maxL {ns : List Int} {m : Int} (h : Val K ta G (.lst (ns.map Dat.int))) (h0 : 0 < ns.length) (hm : ∀ k, k ∈ ns → (∀ y ∈ ns, y ≤ k) → k = m) : Val K (tCB (rMax K) (tCons ta tNil)) G (.int m) :=
  v_cb (va_cons h va_nil) fun vs B A e r Q q => by
    cases r with
    | cons r1 r2 =>
      cases r2
      obtain ⟨a, rfl, h1⟩ := r1.ints
      refine ⟨a, ns, rfl, Evl.sq_of (e _ _ h1), h0, fun k k1 k2 => ?_⟩
      rw [hm k k1 k2]
      exact q _ B A (Grow.refl e) (.int _)
theorem RpAll.bls {H : Hp} : ∀ {vs : List V} {bs : List Bool}, RpAll K H vs (bs.map Dat.bl) → vs = bs.map V.bl
  | _, [], h => by cases h; rfl
  | _, b :: bs, h => by
    cases h with
    | cons a r => cases a; rw [RpAll.bls r]; rfl
theorem v_all {bs : List Bool} (h : Val K ta G (.lst (bs.map Dat.bl))) : Val K (tCB (rAll K) (tCons ta tNil)) G (.bl (bs.all id)) :=
  v_cb (va_cons h va_nil) fun vs B A e r Q q => by
    cases r with
    | cons r1 r2 =>
      cases r2
      cases r1 with
      | @lst a xs _ h1 h2 =>
        rw [h2.bls] at h1
        exact ⟨a, bs, rfl, Evl.sq_of (e _ _ h1), q _ B A (Grow.refl e) (.bl _)⟩
/-- list(xs), xs a list or a tuple -/
theorem v_listOf {ds : List Dat} (h : Val K ta G (.lst ds)) : Val K (tCB (fun xs H Q => ∃ p ys, xs = [.ref p] ∧ (SqL K H p ys ∨ SqT K H p ys) ∧ ∀ l, H l = none → Q (.ref l) (upd H l (.lst ys))) (tCons ta tNil)) G (.lst ds) :=
  v_cb (va_cons h va_nil) fun vs B A e r Q q => by
    cases r with
    | cons r1 r2 =>
      cases r2
      cases r1 with
      | @lst a xs _ h1 h2 =>
        exact ⟨a, xs, rfl, .inl (Evl.sq_of (e _ _ h1)), fun l hl => q _ _ _ (Grow.lay e hl _) (.lst upd_same (h2.ex (Grow.lay e hl _).bb))⟩
theorem v_listOfT {ds : List Dat} (h : Val K ta G (.tup ds)) : Val K (tCB (fun xs H Q => ∃ p ys, xs = [.ref p] ∧ (SqL K H p ys ∨ SqT K H p ys) ∧ ∀ l, H l = none → Q (.ref l) (upd H l (.lst ys))) (tCons ta tNil)) G (.lst ds) :=
  v_cb (va_cons h va_nil) fun vs B A e r Q q => by
    cases r with
    | cons r1 r2 =>
      cases r2
      cases r1 with
      | @tup a xs _ h1 h2 =>
        exact ⟨a, xs, rfl, .inr (Evl.ex_t e h1), fun l hl => q _ _ _ (Grow.lay e hl _) (.lst upd_same (h2.ex (Grow.lay e hl _).bb))⟩
/-- list(range(n)), list(range(a, b)) -/
def rgD (a b : Int) : List Dat := (List.range (b - a).toNat).map fun i => .int (a + (i : Nat))
theorem rg_rp {H : Hp} (a b : Int) : RpAll K H (rgV a b) (rgD a b) := by
  unfold rgV rgD
  generalize List.range (b - a).toNat = l
  induction l with
  | nil => exact .nil
  | cons x l ih => exact .cons (.int _) ih
theorem v_listRg1 {n : Int} (h : Val K ta G (.int n)) (h0 : 0 ≤ n) (h1 : n ≤ 16777216) : Val K (tLstRg (tRg1 ta)) G (.lst (rgD 0 n)) := fun σ B hs A e Q q =>
  h σ B hs A e _ fun v B1 A1 g1 r1 => by
    cases r1
    exact ⟨n, rfl, RgOk.of_le (Int.le_refl 0) h1 (by decide) h0, fun p hp => q _ _ _ (g1.trans (Grow.lay g1.ba hp _)) (.lst upd_same (rg_rp _ _))⟩
theorem v_listRg2 {a b : Int} (ha : Val K ta G (.int a)) (hb : Val K tb G (.int b)) (h0 : 0 ≤ a) (h1 : b ≤ 16777216) (h2 : a ≤ 16777216) (h3 : 0 ≤ b) : Val K (tLstRg (tRg2 ta tb)) G (.lst (rgD a b)) := fun σ B hs A e Q q =>
  ha σ B hs A e _ fun v B1 A1 g1 r1 => hb σ B1 (hs.ex g1.bb) A1 g1.ba _ fun u B2 A2 g2 r2 => by
    cases r1; cases r2
    exact ⟨a, b, rfl, rfl, RgOk.of_le h0 h1 h2 h3, fun p hp => q _ _ _ ((g1.trans g2).trans (Grow.lay g2.ba hp _)) (.lst upd_same (rg_rp _ _))⟩

/-! ### equality of data -/
abbrev d3 (a b c : Int) : Dat := .tup [.int a, .int b, .int c]
theorem dp3 {H : Hp} {v : V} {a b c : Int} (h : Rp K H v (d3 a b c)) : Dp K H v (.tuple [.int a, .int b, .int c]) := by
  cases h with
  | tup h1 h2 =>
    cases h2 with
    | cons r1 h2 =>
      cases h2 with
      | cons r2 h2 =>
        cases h2 with
        | cons r3 h2 =>
          cases h2; cases r1; cases r2; cases r3
          exact .tup h1 (.cons (.int _) (.cons (.int _) (.cons (.int _) .nil)))
theorem dpM {H : Hp} {v : V} {t a b c : Int} (h : Rp K H v (.tup [.int t, d3 a b c])) : Dp K H v (.tuple [.int t, .tuple [.int a, .int b, .int c]]) := by
  cases h with
  | tup h1 h2 =>
    cases h2 with
    | cons r1 h2 =>
      cases h2 with
      | cons r2 h2 =>
        cases h2; cases r1
        exact .tup h1 (.cons (.int _) (.cons (dp3 r2) .nil))
theorem eqv3 (a b c a' b' c' : Int) : PyData.eqv (.tuple [.int a, .int b, .int c]) (.tuple [.int a', .int b', .int c']) = decide (a = a' ∧ b = b' ∧ c = c') := by
  simp only [PyData.eqv, PyData.eqvAll, Bool.and_true]
  by_cases h1 : a = a' <;> by_cases h2 : b = b' <;> by_cases h3 : c = c' <;> simp [h1, h2, h3]
theorem eqvM (t a b c t' a' b' c' : Int) : PyData.eqv (.tuple [.int t, .tuple [.int a, .int b, .int c]]) (.tuple [.int t', .tuple [.int a', .int b', .int c']]) = decide (t = t' ∧ a = a' ∧ b = b' ∧ c = c') := by
  have := eqv3 a b c a' b' c'
  rw [PyData.eqv, PyData.eqvAll, PyData.eqvAll, this]
  by_cases h1 : t = t' <;> by_cases h2 : a = a' <;> by_cases h3 : b = b' <;> by_cases h4 : c = c' <;> simp [h1, h2, h3, h4, PyData.eqv, PyData.eqvAll]
theorem shaped3 (a b c : Int) : SeqAt.shaped (.tuple [.int a, .int b, .int c]) = true := rfl
theorem shapedM (t a b c : Int) : SeqAt.shaped (.tuple [.int t, .tuple [.int a, .int b, .int c]]) = true := rfl
theorem v_eq3 {a b c a' b' c' : Int} (ha : Val K ta G (d3 a b c)) (hb : Val K tb G (d3 a' b' c')) : Val K (tOp (rEqD K) ta tb) G (.bl (decide (a = a' ∧ b = b' ∧ c = c'))) :=
  v_two ha hb fun x y B A e rx ry Q q => ⟨_, _, dp3 (rx.ex e), dp3 (ry.ex e), shaped3 _ _ _, shaped3 _ _ _, by rw [eqv3]; exact q _ B A (Grow.refl e) (.bl _)⟩
theorem v_ne3 {a b c a' b' c' : Int} (ha : Val K ta G (d3 a b c)) (hb : Val K tb G (d3 a' b' c')) : Val K (tOp (rNeD K) ta tb) G (.bl (!decide (a = a' ∧ b = b' ∧ c = c'))) :=
  v_two ha hb fun x y B A e rx ry Q q => ⟨_, _, dp3 (rx.ex e), dp3 (ry.ex e), shaped3 _ _ _, shaped3 _ _ _, by rw [eqv3]; exact q _ B A (Grow.refl e) (.bl _)⟩
theorem v_neM {t a b c t' a' b' c' : Int} (ha : Val K ta G (.tup [.int t, d3 a b c])) (hb : Val K tb G (.tup [.int t', d3 a' b' c'])) : Val K (tOp (rNeD K) ta tb) G (.bl (!decide (t = t' ∧ a = a' ∧ b = b' ∧ c = c'))) :=
  v_two ha hb fun x y B A e rx ry Q q => ⟨_, _, dpM (rx.ex e), dpM (ry.ex e), shapedM _ _ _ _, shapedM _ _ _ _, by rw [eqvM]; exact q _ B A (Grow.refl e) (.bl _)⟩

/-! ### comprehensions -/
/-- a list that grows while nothing else is lost -/
structure Making (K : Frag) (B1 A1 : Hp) (D : Addr) (ds : List Dat) (A : Hp) : Prop where
  ex : ∃ B xs, Grow B1 A1 B A ∧ A D = some (.lst xs) ∧ B D = none ∧ RpAll K B xs ds
theorem Making.start {B1 A1 : Hp} {D : Addr} (e : Ex B1 A1) (h : A1 D = none) : Making K B1 A1 D [] (upd A1 D (.lst [])) := by
  have hb : B1 D = none := by
    cases q : B1 D with
    | none => rfl
    | some u => have := e D u q; rw [h] at this; cases this
  refine ⟨B1, [], ⟨Ex.new h, Ex.refl _, fun a o q => ?_, fun a x => .inl x⟩, upd_same, hb, .nil⟩
  rw [upd_ne (fun z => by rw [z, hb] at q; cases q)]
  exact e a o q
theorem Making.step {B1 A1 : Hp} {D : Addr} {ds : List Dat} {A : Hp} {B : Hp} {xs : List V} {v : V} {d : Dat} {B' A' : Hp} (hD : A1 D = none) (h1 : Grow B1 A1 B A) (h2 : A D = some (.lst xs)) (h3 : B D = none) (h4 : RpAll K B xs ds) (g : Grow B A B' A') (r : Rp K B' v d) :
    A' D = some (.lst xs) ∧ Making K B1 A1 D (ds ++ [d]) (upd A' D (.lst (xs ++ [v]))) := by
  have f := g.fresh h3 h2
  have G' := h1.trans g
  refine ⟨f.2, B', xs ++ [v], ⟨G'.aa.mut hD, G'.bb, G'.ba.mut f.1, G'.new⟩, upd_same, f.1, (h4.ex g.bb).append (.cons r .nil)⟩
theorem Making.done {B1 A1 : Hp} {D : Addr} {ds : List Dat} {A : Hp} (hD : A1 D = none) (m : Making K B1 A1 D ds A) : ∃ B, Grow B1 A1 B A ∧ Rp K B (.ref D) (.lst ds) := by
  obtain ⟨B, xs, h1, h2, h3, h4⟩ := m.ex
  have e : Ex B (upd B D (.lst xs)) := Ex.new h3
  refine ⟨upd B D (.lst xs), ⟨h1.aa, h1.bb.trans e, fun a o q => ?_, fun a q => ?_⟩, .lst upd_same (h4.ex e)⟩
  · by_cases ha : a = D
    · subst ha; rw [upd_same] at q; cases q; exact h2
    · rw [upd_ne ha] at q; exact h1.ba a o q
  · by_cases ha : a = D
    · subst ha; exact .inr hD
    · rw [upd_ne ha] at q; exact h1.new a q
theorem wipe1 (σ : L2.St) (i : Nat) : wipe σ [i] = σ.set i none := rfl
theorem wipe_item (σ : L2.St) (i : Nat) (x : V) : wipe ((wipe σ [i]).set i (some x)) [i] = wipe σ [i] := by
  rw [wipe1, wipe1, List.set_set, List.set_set]
theorem holds_item {σ : L2.St} {B : Hp} (hs : Holds K G σ B) {i : Nat} {x : V} {d : Dat} (hx : Rp K B x d) (hi : i < σ.length) : Holds K (G.set i (some d)) ((wipe σ [i]).set i (some x)) B := by
  have := (hs.drop (i := i) (o := none)).set hx (by simpa using hi)
  rwa [List.set_set] at this
/-- [e for x in xs] -/
theorem v_lc {i : Nat} {tl : TE} {ds : List Dat} {f : Dat → Dat} (hl : Val K tl G (.lst ds)) (hi : i < G.length) (hn : ds.length < 100000) (he : ∀ d ∈ ds, Val K te (G.set i (some d)) (f d)) :
    Val K (tLc (iList K tl) (gName i) tYes te [i]) G (.lst (ds.map f)) := fun σ B hs A e Q q =>
  hl σ B hs A e _ fun v B1 A1 g1 r1 => by
    cases r1 with
    | @lst a xs _ k1 k2 =>
      refine ⟨a, rfl, ⟨xs, Evl.sq_of (g1.ba _ _ k1)⟩, fun D hD => lc_list (K := K) (a := a) (xs := xs) (fun j H => Making K B1 A1 D ((ds.take j).map f) H) (Making.start g1.ba hD) (fun j H _ m => ?_) (fun j x H hx m => ?_) (fun H m => ?_)⟩
      · obtain ⟨B, ys, h1, _⟩ := m.ex
        exact Evl.sq_of (h1.ba _ _ (h1.bb _ _ k1))
      · obtain ⟨B, ys, h1, h2, h3, h4⟩ := m.ex
        obtain ⟨d, hd, rd⟩ := k2.get' hx
        have hm : d ∈ ds := List.mem_of_getElem? hd
        refine ⟨wipe_item σ i x, he d hm _ B (holds_item (hs.ex (g1.bb.trans h1.bb)) (rd.ex h1.bb) (by rw [hs.1]; exact hi)) H h1.ba _ fun v B' A' g r => ?_⟩
        have z := Making.step hD h1 h2 h3 h4 g r
        refine ⟨ys, z.1, Evl.sz_lt (by rw [h4.len]; simp; omega), ?_⟩
        have e2 : (ds.take (j + 1)).map f = (ds.take j).map f ++ [f d] := by rw [List.take_succ, hd]; simp
        rw [e2]
        exact z.2
      · have hlen := k2.len
        rw [hlen, List.take_length] at m
        obtain ⟨B, h1, h2⟩ := m.done hD
        exact q _ B H (g1.trans h1) h2
/-- [e for k in range(a, b)] -/
theorem v_lcR {i n : Nat} {a b : Int} {tr : TA} {f : Nat → Dat} (hr : Vals K tr G [.int a, .int b]) (hb : -(2 ^ 62) ≤ a ∧ a < 2 ^ 62 ∧ -(2 ^ 62) ≤ b ∧ b < 2 ^ 62) (hab : (b - a).toNat = n) (hi : i < G.length) (hn : n < 100000)
    (he : ∀ k < n, Val K te (G.set i (some (.int (a + (k : Nat))))) (f k)) : Val K (tLc (iRng2 tr) (gName i) tYes te [i]) G (.lst ((List.range n).map f)) := fun σ B hs A e Q q =>
  hr σ B hs A e _ fun vs B1 A1 g1 r1 => by
    cases r1 with
    | cons r1 r2 =>
      cases r2 with
      | cons r2 r3 =>
        cases r1; cases r2; cases r3
        subst hab
        refine ⟨a, b, rfl, hb, fun D hD => lc_range (lo := a) (n := (b - a).toNat) (fun j H => Making K B1 A1 D ((List.range j).map f) H) (Making.start g1.ba hD) (fun j H hj m => ?_) (fun H m => ?_)⟩
        · obtain ⟨B, ys, h1, h2, h3, h4⟩ := m.ex
          refine ⟨wipe_item σ i _, he j hj _ B (holds_item (hs.ex (g1.bb.trans h1.bb)) (.int _) (by rw [hs.1]; exact hi)) H h1.ba _ fun v B' A' g r => ?_⟩
          have z := Making.step hD h1 h2 h3 h4 g r
          refine ⟨ys, z.1, Evl.sz_lt (by rw [h4.len]; simp; omega), ?_⟩
          have e2 : (List.range (j + 1)).map f = (List.range j).map f ++ [f j] := by rw [List.range_succ]; simp
          rw [e2]
          exact z.2
        · obtain ⟨B, h1, h2⟩ := m.done hD
          exact q _ B H (g1.trans h1) h2
theorem v_lcR1 {i n : Nat} {b : Int} {tr : TA} {f : Nat → Dat} (hr : Vals K tr G [.int b]) (hb : -(2 ^ 62) ≤ b ∧ b < 2 ^ 62) (hab : b.toNat = n) (hi : i < G.length) (hn : n < 100000)
    (he : ∀ k < n, Val K te (G.set i (some (.int (k : Nat)))) (f k)) : Val K (tLc (iRng1 tr) (gName i) tYes te [i]) G (.lst ((List.range n).map f)) := fun σ B hs A e Q q =>
  hr σ B hs A e _ fun vs B1 A1 g1 r1 => by
    cases r1 with
    | cons r1 r2 =>
      cases r1; cases r2
      subst hab
      refine ⟨b, rfl, hb.1, hb.2, fun D hD => lc_range (lo := 0) (n := b.toNat) (fun j H => Making K B1 A1 D ((List.range j).map f) H) (Making.start g1.ba hD) (fun j H hj m => ?_) (fun H m => ?_)⟩
      · obtain ⟨B, ys, h1, h2, h3, h4⟩ := m.ex
        rw [Int.zero_add]
        refine ⟨wipe_item σ i _, he j hj _ B (holds_item (hs.ex (g1.bb.trans h1.bb)) (.int _) (by rw [hs.1]; exact hi)) H h1.ba _ fun v B' A' g r => ?_⟩
        have z := Making.step hD h1 h2 h3 h4 g r
        refine ⟨ys, z.1, Evl.sz_lt (by rw [h4.len]; simp; omega), ?_⟩
        have e2 : (List.range (j + 1)).map f = (List.range j).map f ++ [f j] := by rw [List.range_succ]; simp
        rw [e2]
        exact z.2
      · obtain ⟨B, h1, h2⟩ := m.done hD
        exact q _ B H (g1.trans h1) h2
end
end Y
end

section
set_option Elab.async false
set_option linter.all false
set_option maxRecDepth 100000
set_option maxHeartbeats 2000000
namespace Y
open PySem L2
open Evl (Ex)
variable {K : Frag}

/-! ### defs of the text -/
structure Def (K : Frag) (mg : Str → Option Value) (x : Str) (st : Stmt) (ps : List Str) (f : Addr) (fd : FuncData) : Prop where
  F : Fun K x x st f fd
  m : mg x = some (.ref f)
  b : Binds K fd ps []
structure Has (P : Program) (w : World) (K : Frag) (mg : Str → Option Value) (base : Heap) (CX : CXT) (k : Nat) (x : Str) (ps : List Str) (sp : Sp) : Prop where
  ex : ∃ f fd, FnOk P w K mg base CX k f fd ps sp ∧ mg x = some (.ref f) ∧ PySem.W.keepIn K (.ref f) = true ∧ Binds K fd ps []
theorem Def.has {P : Program} {w : World} {mg : Str → Option Value} {base : Heap} {CX : CXT} {k : Nat} {x : Str} {st : Stmt} {ps : List Str} {f : Addr} {fd : FuncData} {sp : Sp} (D : Def K mg x st ps f fd) (h : FnOk P w K mg base CX k f fd ps sp) : Has P w K mg base CX k x ps sp :=
  ⟨f, fd, h, D.m, D.F.kp, D.b⟩
section
variable {X : Cx} {k j : Nat} {x : Str} {ps : List Str} {sp : Sp} {e : Expr} {es : List Expr} {t : TA} {p pos : Pos}
theorem Has.pe {CX : CXT} {E : XK} (H : Has X.prog X.w X.K X.mg X.base CX k x ps sp) (hr : Room j X.A) (hk : k ≤ j) (hg : Gl X x) (hx : Passes CX X E) (ha : PA X (e :: es) t) (hdb : (x == ("__debug__" : Str)) = false := by decide)
    (he : starEach (e :: es) X.env = (false, eval e X.env) :: starEach es X.env := by rfl) (hpl : (backTo pos (starEach es X.env)).any (·.1) = false := by rfl) : PE X (.Call (.Name x p) (e :: es) [] pos) (tCall sp [] E t) := by
  obtain ⟨f, fd, F, m, kp, b⟩ := H.ex
  exact pe_call F (hr.mono hk) hg m kp b .nil hx ha hdb he hpl
theorem Has.peX {E : L2.St → XK} (H : Has X.prog X.w X.K X.mg X.base (L2.CX X.prog X.w) k x ps sp) (hr : Room j X.A) (hk : k ≤ j) (hg : Gl X x) (hx : ∀ σ, PassesAt (L2.CX X.prog X.w) X σ (E σ)) (ha : PA X (e :: es) t) (hdb : (x == ("__debug__" : Str)) = false := by decide)
    (he : starEach (e :: es) X.env = (false, eval e X.env) :: starEach es X.env := by rfl) (hpl : (backTo pos (starEach es X.env)).any (·.1) = false := by rfl) : PE X (.Call (.Name x p) (e :: es) [] pos) (tCallS sp E t) := by
  obtain ⟨f, fd, F, m, kp, b⟩ := H.ex
  exact pe_callS F (hr.mono hk) hg m kp b hx ha hdb he hpl
end
/-- an exception class of the text, made without a text, raised and caught by its name -/
structure Exn (K : Frag) (mg : Str → Option Value) (x : Str) (C : Addr) : Prop where
  g : mg x = some (.ref C)
  x : PySem.W.excIn K C [.type "Exception", .type "BaseException", .type "object"] "Exception.__new__" = true
  k : PySem.W.keepIn K (.ref C) = true
  b : PySem.W.subIn K (.ref C) (.type "BaseException") = some true
  t : PySem.W.typeIn K (.ref C) = some (.type "type")
theorem Exn.raise {X : Cx} {x : Str} {C : Addr} {W : WX} {p pos pos' : Pos} (Z : Exn X.K X.mg x C) (hc : X.calm = true) (tk : Takes X W) (hg : Gl X x) (hd : (x == ("__debug__" : Str)) = false := by decide) :
    PS X (.Raise (some (.Call (.Name x p) [] [] pos)) none pos') (fun _ σ H => W (.ref C) none σ H) := ps_raise hc tk (pmk_own0 PySem.F.excBase_Exception Z.x Z.g Z.k (raises_own Z.b Z.t) hg hd)

section
variable {G : Env} {te ta : TE} {d : Dat} {B0 A0 B A : Hp} {σ : L2.St} {D : Ends} {tz tu tw : TS} {t : TT} {W : WX} {r : Res}
/-! ### statements whose value may be an exception -/
theorem s_retX (hv : VX K te W G r) (S : State K B0 A0 G σ B A) (k : ∀ d, r = .ok d → ∀ v B' A', Grow B0 A0 B' A' → Rp K B' v d → D.rt v A') (kx : ∀ C, r = .err C → ∀ B' A', Grow B0 A0 B' A' → W (.ref C) none σ A') : tRet te D σ A :=
  hv σ B S.h A S.g.ba _ (fun d z v B' A' g r => k d z v B' A' (S.g.trans g) r) fun C z B' A' g => kx C z B' A' (S.g.trans g)
theorem q_setX {i : Nat} (hv : VX K te W G r) (S : State K B0 A0 G σ B A) (hi : i < G.length)
    (k : ∀ d, r = .ok d → ∀ v B' A', Grow B A B' A' → State K B0 A0 (G.set i (some d)) (σ.set i (some v)) B' A' → tz D (σ.set i (some v)) A') (kx : ∀ C, r = .err C → ∀ B' A', Grow B0 A0 B' A' → W (.ref C) none σ A') : tSeq (tAsg te (gName i)) tz D σ A :=
  hv σ B S.h A S.g.ba _ (fun d z v B' A' g r => k d z v B' A' g ((S.grow g).set r hi)) fun C z B' A' g => kx C z B' A' (S.g.trans g)
theorem q_dropX (hv : VX K te W G r) (S : State K B0 A0 G σ B A) (k : ∀ d, r = .ok d → ∀ B' A', Grow B A B' A' → State K B0 A0 G σ B' A' → tz D σ A') (kx : ∀ C, r = .err C → ∀ B' A', Grow B0 A0 B' A' → W (.ref C) none σ A') : tSeq (tDrop te) tz D σ A :=
  hv σ B S.h A S.g.ba _ (fun d z v B' A' g r => k d z B' A' g (S.grow g)) fun C z B' A' g => kx C z B' A' (S.g.trans g)
theorem q_drop (hv : Val K te G d) (S : State K B0 A0 G σ B A) (k : ∀ B' A', Grow B A B' A' → State K B0 A0 G σ B' A' → tz D σ A') : tSeq (tDrop te) tz D σ A :=
  hv σ B S.h A S.g.ba _ fun v B' A' g r => k B' A' g (S.grow g)
/-- a, b = e, e a tuple -/
theorem q_unpack {i j : Nat} {d1 d2 : Dat} (hv : Val K te G (.tup [d1, d2])) (S : State K B0 A0 G σ B A) (hi : i < G.length) (hj : j < G.length)
    (k : ∀ v w B' A', Grow B A B' A' → State K B0 A0 ((G.set i (some d1)).set j (some d2)) ((σ.set i (some v)).set j (some w)) B' A' → tz D ((σ.set i (some v)).set j (some w)) A') : tSeq (tAsg te (gTup K 2 (gCons (gName i) (gCons (gName j) gNil)))) tz D σ A :=
  hv σ B S.h A S.g.ba _ fun v B' A' g r => by
    cases r with
    | tup h1 h2 =>
      cases h2 with
      | cons r1 h2 =>
        cases h2 with
        | cons r2 h2 =>
          cases h2
          exact ⟨_, _, rfl, Evl.ex_t (S.grow g).g.ba h1, rfl, _, _, rfl, _, _, rfl, rfl, k _ _ B' A' g (((S.grow g).set r1 hi).set r2 (by simp; exact hj))⟩
/-- the target of a walk: two names for a tuple's items -/
theorem g_unpack {i j : Nat} {d1 d2 : Dat} {v : V} {Q : L2.St → Hp → Prop} (r : Rp K B v (.tup [d1, d2])) (e : Ex B A) (k : ∀ u w, Rp K B u d1 → Rp K B w d2 → Q ((σ.set i (some u)).set j (some w)) A) : gTup K 2 (gCons (gName i) (gCons (gName j) gNil)) v σ A Q := by
  cases r with
  | tup h1 h2 =>
    cases h2 with
    | cons r1 h2 =>
      cases h2 with
      | cons r2 h2 =>
        cases h2
        exact ⟨_, _, rfl, Evl.ex_t e h1, rfl, _, _, rfl, _, _, rfl, rfl, k _ _ r1 r2⟩
end
end Y
end

section
set_option Elab.async false
set_option linter.all false
set_option maxRecDepth 100000
set_option maxHeartbeats 2000000
namespace Y
open PySem L2
open Evl (Ex)
open Mir (Pt Fr)
/-! ### the program's data -/
abbrev dF (p : Fr) : Dat := .tup [.int p.1, .int p.2]
abbrev dP (p : Pt) : Dat := d3 p.x p.y p.d
abbrev dPs (l : List Pt) : Dat := .lst (l.map dP)
structure PtS (n : Nat) (p : Pt) : Prop where
  x : Sz n p.x
  y : Sz n p.y
  d : Sz n p.d
theorem PtS.mono {m n : Nat} {p : Pt} (h : PtS m p) (hn : m ≤ n) : PtS n p := ⟨h.x.mono hn, h.y.mono hn, h.d.mono hn⟩
theorem glob_int {X : Cx} {x : Str} {i : Int} {pos : Pos} (hg : Gl X x) (hm : ∃ t, X.mg x = some (.int i t)) (hd : (x == ("__debug__" : Str)) = false := by decide) : PE X (.Name x pos) (tC (.int i)) := by
  obtain ⟨t, hm⟩ := hm
  exact pe_glob hg hm ⟨t, rfl⟩ hd
theorem Sz.neg9 {i : Int} (h : Sz 8999 i) : Sz 9000 (-i) := h.neg.mono (by decide)
/-! ### numbers -/
theorem gcd_fmod (a b : Int) : Int.gcd b (a.fmod b) = Int.gcd a b := by
  have h : a = b * a.fdiv b + a.fmod b := by have := Int.mul_fdiv_add_fmod a b; omega
  conv => rhs; rw [h, Int.gcd_comm]
  simp
theorem fmod_lt (a : Int) {b : Int} (h : b ≠ 0) : (a.fmod b).natAbs < b.natAbs := by
  rcases Int.lt_or_gt_of_ne h with h1 | h1
  · have h2 := @Int.fmod_eq_emod a b
    have h3 := Int.emod_nonneg a (show b ≠ 0 by omega)
    have h4 := Int.emod_lt a (show b ≠ 0 by omega)
    rw [h2]
    split
    · omega
    · rename_i hd
      have h5 : a % b ≠ 0 := fun z => hd (.inr (Int.dvd_of_emod_eq_zero z))
      omega
  · have := Int.fmod_nonneg_of_pos a h1
    have := Int.fmod_lt_of_pos a h1
    omega
theorem cf_ne {a b : Int} (h : b ≠ 0) : Mir.cf a b ≠ 0 := by
  unfold Mir.cf
  intro z
  have : Int.gcd a b = 0 := by omega
  exact h (Int.gcd_eq_zero_iff.mp this).2
theorem cf_le {a b : Int} (h : b ≠ 0) : (Mir.cf a b).natAbs ≤ b.natAbs := by
  unfold Mir.cf
  have := Nat.le_of_dvd (by omega) (Int.gcd_dvd_natAbs_right a b)
  simpa using this
theorem cf_sz {a b : Int} {n : Nat} (h : b ≠ 0) (s : Sz n b) : Sz n (Mir.cf a b) := s.le (cf_le h)
end Y
namespace Y
open PySem L2
open Mir (Pt Fr)
theorem line_sz {p q : Pt} (hp : PtS 100000 p) (hq : PtS 100000 q) : PtS 200001 (Mir.line p q) :=
  ⟨Sz.sub (n := 200000) (Sz.mul hp.y hq.d) (Sz.mul hp.d hq.y), Sz.sub (n := 200000) (Sz.mul hp.d hq.x) (Sz.mul hp.x hq.d), Sz.sub (n := 200000) (Sz.mul hp.x hq.y) (Sz.mul hp.y hq.x)⟩
end Y

namespace Y
open PySem L2
open Evl (Ex)
open Mir (Pt Fr)
variable {K : Frag} {G : Env} {ta tb te : TE}
/-! ### rows of points -/
theorem cut_from {α : Type} (xs : List α) {k : Nat} (h : k ≤ xs.length) : cutD xs (some (k : Int)) none = xs.drop k := by
  unfold cutD
  rw [HT.sIx_nat, HT.sIx_none, Nat.min_eq_left h, List.take_of_length_le (by simp)]
theorem cut_to {α : Type} (xs : List α) {k : Nat} (h : k ≤ xs.length) : cutD xs none (some (k : Int)) = xs.take k := by
  unfold cutD
  rw [HT.sIx_nat, HT.sIx_none, Nat.min_eq_left h]; simp
theorem cut_mid {α : Type} (xs : List α) : cutD xs (some 1) (some (-1)) = Mir.inner xs := by
  unfold cutD Mir.inner
  have h1 : HT.sIx xs.length 0 (some 1) = min 1 xs.length := HT.sIx_nat xs.length 0 1
  have h2 : HT.sIx xs.length xs.length (some (-1)) = xs.length - 1 := by
    show (if (-1 : Int) < 0 then ((-1 : Int) + (xs.length : Int)).toNat else min (-1 : Int).toNat xs.length) = xs.length - 1
    rw [if_pos (by decide)]; omega
  rw [h1, h2, List.dropLast_eq_take]
  rcases Nat.eq_zero_or_pos xs.length with h | h
  · have : xs = [] := List.length_eq_zero_iff.mp h
    subst this; rfl
  · rw [Nat.min_eq_left h]; congr 1; simp
theorem inner_map {α β : Type} (f : α → β) (l : List α) : Mir.inner (l.map f) = (Mir.inner l).map f := by
  unfold Mir.inner; rw [List.map_dropLast, List.map_drop]
theorem rot_map {α β : Type} (f : α → β) (l : List α) (k : Nat) : Mir.rotL (l.map f) k = (Mir.rotL l k).map f := by
  unfold Mir.rotL; rw [List.map_append, List.map_drop, List.map_take]
theorem rot_len {α : Type} (l : List α) (k : Nat) : (Mir.rotL l k).length = l.length := by
  unfold Mir.rotL; simp; omega
theorem rot_mem {α : Type} {l : List α} {k : Nat} {x : α} : x ∈ Mir.rotL l k ↔ x ∈ l := by
  unfold Mir.rotL
  rw [List.mem_append, Or.comm, ← List.mem_append, List.take_append_drop]
theorem inner_mem {α : Type} {l : List α} {x : α} (h : x ∈ Mir.inner l) : x ∈ l := List.mem_of_mem_drop ((List.dropLast_sublist _).subset h)
theorem inner_len {α : Type} (l : List α) : (Mir.inner l).length = l.length - 2 := by unfold Mir.inner; simp; omega
theorem plc_atI {l : List Pt} {i : Int} (h0 : -(l.length : Int) ≤ i) (h1 : i < l.length) : (l.map dP)[plc (l.map dP).length i]? = some (dP (Mir.atI l i)) := by
  have e : plc (l.map dP).length i < l.length := by
    unfold plc; rw [List.length_map]; split <;> omega
  have e2 : plc (l.map dP).length i = (if 0 ≤ i then i.toNat else (i + l.length).toNat) := by unfold plc; rw [List.length_map]
  rw [e2] at e ⊢
  rw [List.getElem?_map]
  unfold Mir.atI
  rw [List.getD_eq_getElem?_getD, List.getElem?_eq_getElem e]
  rfl
theorem atI_mem {l : List Pt} {i : Int} (h0 : -(l.length : Int) ≤ i) (h1 : i < l.length) : Mir.atI l i ∈ l := by
  have e : (if 0 ≤ i then i.toNat else (i + l.length).toNat) < l.length := by split <;> omega
  unfold Mir.atI
  rw [List.getD_eq_getElem?_getD, List.getElem?_eq_getElem e]
  exact List.getElem_mem e
theorem v_atP {l : List Pt} {i : Int} (ha : Val K ta G (dPs l)) (hb : Val K tb G (.int i)) (h0 : -(l.length : Int) ≤ i) (h1 : i < l.length) : Val K (tOp (rIxL K) ta tb) G (dP (Mir.atI l i)) :=
  v_ixL ha hb (by rw [List.length_map]; exact h0) (plc_atI h0 h1)
theorem v_lenP {l : List Pt} (h : Val K ta G (dPs l)) : Val K (tCB (fun xs H Q => ∃ p ys, xs = [.ref p] ∧ (SqL K H p ys ∨ SqT K H p ys) ∧ Q (.int ys.length) H) (tCons ta tNil)) G (.int (l.length : Int)) :=
  v_is (v_len h) (by rw [List.length_map])
/-- corners[k:] + corners[:k] -/
theorem v_rot {l : List Pt} {k : Nat} {ta' tb' : TE} {a b : Int} (h1 : Val K ta G (dPs l)) (h2 : Val K tb G (dPs l)) (ha : Val K ta' G (.int a)) (hb : Val K tb' G (.int b)) (ea : a = k) (eb : b = k) (hk : k ≤ l.length) (hl : l.length ≤ 50000) :
    Val K (tOp rCat (tSl (rSlL K) ta (tPart ta') tNoPart) (tSl (rSlL K) tb tNoPart (tPart tb'))) G (dPs (Mir.rotL l k)) := by
  subst ea; subst eb
  refine v_is (v_cat (v_sl h1 (p_some ha) p_none) (v_sl h2 p_none (p_some hb)) ?_) ?_
  · rw [cut_from _ (by simpa using hk), cut_to _ (by simpa using hk)]; simp; omega
  · rw [cut_from _ (by simpa using hk), cut_to _ (by simpa using hk)]
    show Dat.lst _ = Dat.lst _
    rw [← rot_map]; rfl
theorem v_inner {l : List Pt} {ta' tb' : TE} (h1 : Val K ta G (dPs l)) (ha : Val K ta' G (.int 1)) (hb : Val K tb' G (.int (-1))) : Val K (tSl (rSlL K) ta (tPart ta') (tPart tb')) G (dPs (Mir.inner l)) :=
  v_is (v_sl h1 (p_some ha) (p_some hb)) (by rw [cut_mid, inner_map])
abbrev PtsS (n : Nat) (l : List Pt) : Prop := ∀ p ∈ l, PtS n p
theorem PtsS.rot {n : Nat} {l : List Pt} (h : PtsS n l) (k : Nat) : PtsS n (Mir.rotL l k) := fun p hp => h p (rot_mem.1 hp)
theorem PtsS.at_ {n : Nat} {l : List Pt} (h : PtsS n l) {i : Int} (h0 : -(l.length : Int) ≤ i) (h1 : i < l.length) : PtS n (Mir.atI l i) := h _ (atI_mem h0 h1)
theorem State.drops {B0 A0 B A : Hp} {G G' : Env} {σ : L2.St} (S : State K B0 A0 G σ B A) (hl : G'.length = G.length) (h : ∀ i, i < G.length → G'[i]? = some none ∨ G'[i]? = G[i]?) : State K B0 A0 G' σ B A :=
  S.weak hl fun i d x => by
    have hi : i < G.length := by
      rw [← hl]
      false_or_by_contra
      rw [List.getElem?_eq_none (by omega)] at x; cases x
    rcases h i hi with z | z
    · rw [z] at x; cases x
    · rw [← z]; exact x
end Y
namespace Y
open Mir (Pt)
theorem least_of : ∀ {l : List Int}, 0 < l.length → ∃ m ∈ l, ∀ y ∈ l, m ≤ y
  | [a], _ => ⟨a, by simp, by simp⟩
  | a :: b :: r, _ => by
    obtain ⟨m, h1, h2⟩ := least_of (l := b :: r) (by simp)
    by_cases h : a ≤ m
    · exact ⟨a, by simp, fun y hy => by
        rcases List.mem_cons.mp hy with e | e
        · omega
        · have := h2 y e; omega⟩
    · exact ⟨m, List.mem_cons_of_mem _ h1, fun y hy => by
        rcases List.mem_cons.mp hy with e | e
        · omega
        · exact h2 y e⟩
theorem bentTo_len (l : List Pt) (n : Nat) : (Mir.bentTo l n).length ≤ n := by
  unfold Mir.bentTo
  rw [List.length_map]
  exact Nat.le_trans (List.length_filter_le _ _) (by simp)
theorem bentTo_pos {l : List Pt} {n : Nat} (h : 0 < Mir.bentAt l n) : Mir.bentTo l (n + 1) = Mir.bentTo l n ++ [Mir.atI l ((n : Int) - 1)] := by
  unfold Mir.bentTo
  rw [List.range_succ, List.filter_append, List.map_append]; simp [h]
theorem bentTo_neg {l : List Pt} {n : Nat} (h : ¬ 0 < Mir.bentAt l n) : Mir.bentTo l (n + 1) = Mir.bentTo l n := by
  unfold Mir.bentTo
  rw [List.range_succ, List.filter_append, List.map_append]; simp [h]
theorem firstTo_succ (l : List Pt) (n : Nat) : Mir.firstTo l (n + 1) = if Mir.isAhead (Mir.atI l (n : Int)) (Mir.atI l (Mir.firstTo l n : Nat)) = true then n else Mir.firstTo l n := by
  unfold Mir.firstTo
  rw [List.range_succ, List.foldl_append]; rfl
theorem firstTo_lt {l : List Pt} : ∀ (n : Nat), n ≤ l.length → 0 < l.length → Mir.firstTo l n < l.length
  | 0, _, h => h
  | n + 1, hn, h => by
    rw [firstTo_succ]
    split
    · omega
    · exact firstTo_lt n (by omega) h
end Y
namespace Y
open Mir (Pt)
theorem pt_eq3 (p q : Pt) : decide (p.x = q.x ∧ p.y = q.y ∧ p.d = q.d) = decide (p = q) := by
  congr 1
  cases p; cases q
  simp
theorem find_range {α : Type} {f : Nat → Option α} : ∀ {n i : Nat} {x : α}, i < n → (∀ j < i, f j = none) → f i = some x → (List.range n).findSome? f = some x
  | 0, i, x, h, _, _ => absurd h (Nat.not_lt_zero _)
  | n + 1, i, x, h, h0, hx => by
    rw [List.range_succ, List.findSome?_append]
    by_cases hi : i < n
    · rw [find_range hi h0 hx]; rfl
    · have : i = n := by omega
      subst this
      have : (List.range i).findSome? f = none := List.findSome?_eq_none_iff.mpr fun j hj => h0 j (List.mem_range.mp hj)
      rw [this]; simp [hx]
theorem glued_found {a b : List Pt} {i j : Nat} (hi : i < a.length) (hj : j < b.length) (h1 : ∀ i' < i, ∀ j' < b.length, Mir.gluedAt a b i' j' = false) (h2 : ∀ j' < j, Mir.gluedAt a b i j' = false) (h : Mir.gluedAt a b i j = true) : Mir.glued a b = Mir.gluedRow a b i j := by
  unfold Mir.glued
  rw [find_range hi (x := Mir.gluedRow a b i j) (fun i' hi' => ?_) (find_range hj (fun j' hj' => by simp [h2 j' hj']) (by simp [h]))]
  · rfl
  · exact List.findSome?_eq_none_iff.mpr fun j' hj' => by simp [h1 i' hi' j' (List.mem_range.mp hj')]
theorem glued_none {a b : List Pt} (h : ∀ i < a.length, ∀ j < b.length, Mir.gluedAt a b i j = false) : Mir.glued a b = [] := by
  unfold Mir.glued
  have : ((List.range a.length).findSome? fun i => (List.range b.length).findSome? fun j => if Mir.gluedAt a b i j = true then some (Mir.gluedRow a b i j) else none) = none :=
    List.findSome?_eq_none_iff.mpr fun i hi => List.findSome?_eq_none_iff.mpr fun j hj => by simp [h i (List.mem_range.mp hi) j (List.mem_range.mp hj)]
  rw [this]; rfl
end Y
end

section
set_option Elab.async false
set_option linter.all false
set_option maxRecDepth 100000
set_option maxHeartbeats 2000000
namespace Y
open PySem L2
open Evl (Ex)
open Mir (Pt Fr Mv Part)
variable {K : Frag} {G : Env} {ta tb te : TE} {tr : TA} {d : Dat} {B0 A0 B A : Hp} {σ : L2.St} {D : Ends} {tz : TS} {W : WX}
/-! ### cuttings as data -/
abbrev dI (ns : List Int) : Dat := .lst (ns.map Dat.int)
abbrev dM (m : Mv) : Dat := .tup [.int m.1, dP m.2]
abbrev dPart (q : Part) : Dat := .tup [dPs q.1, dM q.2]
abbrev dC (c : List Part) : Dat := .lst (c.map dPart)
def Res.of (C : Addr) : Option Dat → Res
  | none => .err C
  | some d => .ok d
/-- xs = [e] -/
theorem q_new1 {j : Nat} (hv : Val K te G d) (S : State K B0 A0 G σ B A) (hj : j < G.length)
    (k : ∀ v B' A', Ex B B' → State K B0 A0 (G.set j none) (σ.set j (some v)) B' A' → Mut K A0 j (σ.set j (some v)) B' A' [d] → (∀ j' ds', j' ≠ j → Mut K A0 j' σ B A ds' → Mut K A0 j' (σ.set j (some v)) B' A' ds') → tz D (σ.set j (some v)) A') : tSeq (tAsg (tLst (tCons te tNil)) (gName j)) tz D σ A :=
  hv σ B S.h A S.g.ba _ fun v B1 A1 g r => by
    refine ⟨show (1 : Nat) ≤ sizeLine by decide, fun p hp => ?_⟩
    have S1 := S.grow g
    have e : Ex A1 (upd A1 p (.lst [v])) := Ex.new hp
    have hb : B1 p = none := by
      cases q : B1 p with
      | none => rfl
      | some u => have := S1.g.ba p u q; rw [hp] at this; cases this
    have h0 : A0 p = none := by
      cases q : A0 p with
      | none => rfl
      | some u => have := S1.g.aa p u q; rw [hp] at this; cases this
    exact k (.ref p) _ _ g.bb ((S1.back e).drop j _) ⟨p, [v], List.getElem?_set_self (by rw [S.len]; exact hj), upd_same, .cons r .nil, hb, h0⟩ fun j' ds' hne m => ((m.grow g).back e).set (Ne.symm hne) _
/-- xs.append(e), what e raises let out -/
theorem q_appX {j : Nat} {ds : List Dat} {r : Res} (hv : VX K te W G r) (S : State K B0 A0 G σ B A) (m : Mut K A0 j σ B A ds) (hl : ds.length < 100000)
    (k : ∀ d, r = .ok d → ∀ B' A', Ex B B' → State K B0 A0 G σ B' A' → Mut K A0 j σ B' A' (ds ++ [d]) → tz D σ A') (kx : ∀ C, r = .err C → ∀ B' A', Grow B0 A0 B' A' → W (.ref C) none σ A') :
    tSeq (tDrop (tBM K "list" rAppend (tVar j) (tCons te tNil))) tz D σ A := by
  obtain ⟨p, xs, h1, h2, h3, h4, h5⟩ := m.ex
  refine ⟨_, h1, .inl ⟨rfl, xs, Evl.sq_of h2⟩, hv σ B S.h A S.g.ba _ (fun d z v B' A' g r => ?_) fun C z B' A' g => kx C z B' A' (S.g.trans g)⟩
  have f := g.fresh h4 h2
  have S' := S.grow g
  refine ⟨p, xs, v, rfl, rfl, f.2, Evl.sz_lt (by rw [h3.len]; exact hl), k d z B' _ g.bb ?_ ?_⟩
  · exact ⟨⟨S'.g.aa.mut h5, S'.g.bb, S'.g.ba.mut f.1, S'.g.new⟩, S'.h, S'.len⟩
  · exact ⟨p, xs ++ [v], h1, upd_same, (h3.ex g.bb).append (.cons r .nil), f.1, h5⟩
theorem q_app {j : Nat} {ds : List Dat} (hv : Val K te G d) (S : State K B0 A0 G σ B A) (m : Mut K A0 j σ B A ds) (hl : ds.length < 100000)
    (k : ∀ B' A', Ex B B' → State K B0 A0 G σ B' A' → Mut K A0 j σ B' A' (ds ++ [d]) → tz D σ A') : tSeq (tDrop (tBM K "list" rAppend (tVar j) (tCons te tNil))) tz D σ A :=
  s_app (D := { D with nx := tz D }) hv S m hl fun B' A' e S' m' _ => k B' A' e S' m'
theorem q_ext {j : Nat} {ds es : List Dat} (hv : Val K te G (.lst es)) (S : State K B0 A0 G σ B A) (m : Mut K A0 j σ B A ds) (hl : ds.length + es.length ≤ 100000)
    (k : ∀ B' A', Ex B B' → State K B0 A0 G σ B' A' → Mut K A0 j σ B' A' (ds ++ es) → tz D σ A') : tSeq (tDrop (tBM K "list" rExtend (tVar j) (tCons te tNil))) tz D σ A :=
  s_ext (D := { D with nx := tz D }) hv S m hl fun B' A' e S' m' _ => k B' A' e S' m'

/-! ### a comprehension over a range with a step, whose item may raise -/
theorem q_lcX {i j n : Nat} {a b c : Int} {C : Addr} {EX : XK} {f : Nat → Option Dat} (hr : Vals K tr G [.int a, .int b, .int c]) (hb : RgC a b c n) (hi : i < G.length) (hj : j < G.length) (hn : n < 100000)
    (he : ∀ k < n, VX K te (fun cls d _ H => EX cls d H) (G.set i (some (.int (a + (k : Nat) * c)))) (Res.of C (f k))) (S : State K B0 A0 G σ B A)
    (k : ∀ l, Mir.allOf f n = some l → ∀ v B' A', Grow B A B' A' → State K B0 A0 (G.set j (some (.lst l))) (σ.set j (some v)) B' A' → tz D (σ.set j (some v)) A')
    (kx : Mir.allOf f n = none → ∀ B' A', Grow B0 A0 B' A' → EX (.ref C) none A') : tSeq (tAsg (tLc (iRng3 tr) (gName i) tYes te [i]) (gName j)) tz D σ A :=
  hr σ B S.h A S.g.ba _ fun vs B1 A1 g1 r1 => by
    cases r1 with
    | cons r1 r2 =>
      cases r2 with
      | cons r2 r3 =>
        cases r3 with
        | cons r3 r4 =>
          cases r1; cases r2; cases r3; cases r4
          have S1 := S.grow g1
          refine ⟨a, b, c, n, rfl, hb, fun D1 hD => ⟨fun t m H => m = n - t ∧ t ≤ n ∧ ∃ l, Mir.allOf f t = some l ∧ Making K B1 A1 D1 l H, ⟨n, rfl, Nat.zero_le _, [], rfl, Making.start S1.g.ba hD⟩, fun t m H h => ?_⟩⟩
          obtain ⟨rfl, ht, l, hl, mk⟩ := h
          by_cases hlt : t < n
          · refine .inr ⟨hlt, fun H' => ∃ l, Mir.allOf f (t + 1) = some l ∧ Making K B1 A1 D1 l H', fun H' h' => ⟨n - (t + 1), by omega, rfl, hlt, h'⟩, fun x H' y => ?_⟩
            obtain ⟨e1, e2⟩ := y
            subst e1 e2
            obtain ⟨B2, ys, h1, h2, h3, h4⟩ := mk.ex
            refine ⟨wipe_item σ i _, he t hlt _ B2 (holds_item (S1.h.ex h1.bb) (.int _) (by rw [S.len]; exact hi)) _ h1.ba _ (fun d z v B' A' g r => ?_) fun C' z B' A' g => ?_⟩
            · have z2 := Making.step hD h1 h2 h3 h4 g r
              have hf : f t = some d := by
                cases e : f t with
                | none => rw [e] at z; cases z
                | some d' => rw [e] at z; cases z; rfl
              have hall : Mir.allOf f (t + 1) = some (l ++ [d]) := by rw [Mir.allOf, hl, hf]
              have hll : l.length = t := allOf_len hl
              exact ⟨ys, z2.1, Evl.sz_lt (by rw [h4.len]; omega), l ++ [d], hall, z2.2⟩
            · have hf : f t = none := by
                cases e : f t with
                | none => rfl
                | some d' => rw [e] at z; cases z
              have hC : C' = C := by rw [hf] at z; cases z; rfl
              subst hC
              exact kx (allOf_none hlt hf) B' A' (S1.g.trans (h1.trans g))
          · have : t = n := by omega
            subst this
            refine .inl ⟨Nat.le_refl _, ?_⟩
            obtain ⟨B2, h1, h2⟩ := mk.done hD
            exact k l hl _ B2 H (g1.trans h1) ((S1.grow h1).set h2 hj)
where
  allOf_len {α : Type} {f : Nat → Option α} : ∀ {n : Nat} {l : List α}, Mir.allOf f n = some l → l.length = n
    | 0, l, h => by cases h; rfl
    | n + 1, l, h => by
      rw [Mir.allOf] at h
      split at h
      · rename_i l' a e1 e2
        cases h
        simp [allOf_len e1]
      · cases h
  allOf_none {α : Type} {f : Nat → Option α} : ∀ {n t : Nat}, t < n → f t = none → Mir.allOf f n = none
    | 0, t, h, _ => absurd h (Nat.not_lt_zero _)
    | n + 1, t, h, ht => by
      rw [Mir.allOf]
      by_cases e : t = n
      · subst e
        rw [ht]
        split
        · rename_i h1 h2; cases h2
        · rfl
      · rw [allOf_none (by omega) ht]
end Y
namespace Y
open PySem L2
open Mir (Pt Fr Mv Part)
variable {K : Frag} {G : Env} {ta tb te : TE}
theorem v_atN {ns : List Int} {i : Nat} {j : Int} (ha : Val K ta G (dI ns)) (hb : Val K tb G (.int j)) (hj : j = i) (hi : i < ns.length) : Val K (tOp (rIxL K) ta tb) G (.int (ns.getD i 0)) := by
  subst hj
  refine v_ixL ha hb (by omega) ?_
  unfold plc
  rw [if_pos (by omega), List.getElem?_map]
  simp [List.getD_eq_getElem?_getD, List.getElem?_eq_getElem hi]
theorem getD_mem {ns : List Int} {i : Nat} (h : i < ns.length) : ns.getD i 0 ∈ ns := by
  rw [List.getD_eq_getElem?_getD, List.getElem?_eq_getElem h]; exact List.getElem_mem h
theorem readFr_some {ns : List Int} {i : Nat} {x : Fr} (hi : i + 1 < ns.length) (h : Mir.readFr ns i = some x) : x.1 ∈ ns ∧ x.2 ∈ ns ∧ 1 ≤ x.2 ∧ Mir.cf x.1 x.2 = 1 := by
  unfold Mir.readFr at h
  split at h
  · cases h
  · rename_i hc
    cases h
    have h1 := getD_mem (ns := ns) (i := i) (by omega)
    have h2 := getD_mem hi
    have h3 : ¬ ns.getD (i + 1) 0 < 1 := fun z => hc (.inl z)
    exact ⟨h1, h2, by show 1 ≤ ns.getD (i + 1) 0; omega, by
      false_or_by_contra
      rename_i z
      exact hc (.inr z)⟩
end Y
namespace Y
open PySem L2
open Mir (Pt Fr Mv Part)
theorem range_four (c : Nat) (h : c ≤ 40) : RgC 1 (((4 * c + 2 : Nat) : Int) - 1) 4 c := by
  have e : Builtin.Range.rangeSize 1 (((4 * c + 2 : Nat) : Int) - 1) 4 = c := by
    unfold Builtin.Range.rangeSize
    simp only [show (4 : Int) > 0 by decide, if_true]
    split <;> omega
  refine ⟨by decide, by decide, ?_, e⟩
  unfold Builtin.Range.small
  rw [e]
  simp only [Builtin.Range.rangeFitsLong, Bool.and_eq_true, Bool.or_eq_true, decide_eq_true_eq, beq_iff_eq, show (4 : Int) > 0 by decide, if_true]
  omega
theorem allOf_map {α β : Type} (f : Nat → Option α) (g : α → β) : ∀ n, Mir.allOf (fun k => (f k).map g) n = (Mir.allOf f n).map (List.map g)
  | 0 => rfl
  | n + 1 => by
    rw [Mir.allOf, Mir.allOf, allOf_map f g n]
    cases Mir.allOf f n with
    | none => rfl
    | some l =>
      cases f n with
      | none => rfl
      | some a => simp
theorem allOf_all {α : Type} {f : Nat → Option α} {P : α → Prop} : ∀ {n : Nat} {l : List α}, Mir.allOf f n = some l → (∀ k < n, ∀ a, f k = some a → P a) → ∀ a ∈ l, P a
  | 0, l, h, _ => by cases h; intro a ha; cases ha
  | n + 1, l, h, hp => by
    rw [Mir.allOf] at h
    split at h
    · rename_i l' a' e1 e2
      cases h
      intro a ha
      rcases List.mem_append.mp ha with z | z
      · exact allOf_all e1 (fun k hk => hp k (by omega)) a z
      · rw [List.mem_singleton.mp z]; exact hp n (by omega) a' e2
    · cases h
theorem fdiv_le {x b : Int} (h : b ∣ x) : (x.fdiv b).natAbs ≤ x.natAbs := by
  obtain ⟨c, rfl⟩ := h
  by_cases hb : b = 0
  · subst hb; simp
  · rw [Int.mul_fdiv_cancel_left _ hb, Int.natAbs_mul]
    exact Nat.le_mul_of_pos_left _ (by omega)
theorem sgn_dvd {b q x : Int} (h : b ∣ x) : Mir.sgn b q ∣ x := by
  unfold Mir.sgn
  split
  · exact Int.neg_dvd.mpr h
  · exact h
theorem point_sz {n : Nat} {x y d : Int} (hx : Sz n x) (hy : Sz n y) (hd : Sz n d) : PtS n (Mir.point x y d) := by
  have h1 : Mir.cf (Mir.cf d x) y ∣ y := by unfold Mir.cf; exact Int.gcd_dvd_right _ _
  have h0 : Mir.cf (Mir.cf d x) y ∣ Mir.cf d x := by unfold Mir.cf; exact Int.gcd_dvd_left _ _
  have h2 : Mir.cf d x ∣ d := by unfold Mir.cf; exact Int.gcd_dvd_left _ _
  have h3 : Mir.cf d x ∣ x := by unfold Mir.cf; exact Int.gcd_dvd_right _ _
  exact ⟨hx.le (fdiv_le (sgn_dvd (Int.dvd_trans h0 h3))), hy.le (fdiv_le (sgn_dvd h1)), hd.le (fdiv_le (sgn_dvd (Int.dvd_trans h0 h2)))⟩
theorem readPt_ok {ns : List Int} {i : Nat} {p : Pt} (h : Mir.readPt ns i = some p) (hs : ∀ n ∈ ns, Sz 256 n) (hi : i + 3 < ns.length) : PtS 512 p ∧ ∃ r u, Mir.readFr ns i = some r ∧ Mir.readFr ns (i + 2) = some u ∧ p = Mir.pointAt r u := by
  unfold Mir.readPt at h
  cases e1 : Mir.readFr ns i with
  | none => rw [e1] at h; cases h
  | some r =>
    cases e2 : Mir.readFr ns (i + 2) with
    | none => rw [e1, e2] at h; cases h
    | some u =>
      rw [e1, e2] at h
      cases h
      have z1 := readFr_some (by omega) e1
      have z2 := readFr_some (by omega) e2
      exact ⟨point_sz (Sz.mul (hs _ z1.1) (hs _ z2.2.1)) (Sz.mul (hs _ z2.1) (hs _ z1.2.1)) (Sz.mul (hs _ z1.2.1) (hs _ z2.2.1)), r, u, rfl, rfl, rfl⟩
theorem partLen_some {ns : List Int} {c : Nat} (h : Mir.partLen ns = some c) : 3 ≤ c ∧ c ≤ 40 ∧ 4 * c + 6 ≤ ns.length := by
  unfold Mir.partLen at h
  split at h
  · cases h
  · rename_i hc
    have h := Option.some.inj h
    omega
theorem readAll_fuel : ∀ {k j : Nat} {l : List Int}, l.length ≤ k → l.length ≤ j → Mir.readAll k l = Mir.readAll j l
  | 0, 0, l, _, _ => rfl
  | 0, j + 1, l, h, _ => by
    have : l = [] := List.length_eq_zero_iff.mp (by omega)
    subst this; rfl
  | k + 1, 0, l, _, h => by
    have : l = [] := List.length_eq_zero_iff.mp (by omega)
    subst this; rfl
  | k + 1, j + 1, [], _, _ => rfl
  | k + 1, j + 1, n :: l, h1, h2 => by
    rw [Mir.readAll, Mir.readAll]
    cases hc : Mir.partLen (n :: l) with
    | none => rfl
    | some c =>
      simp only
      rw [readAll_fuel (k := k) (j := j) (by simp at h1 ⊢; omega) (by simp at h2 ⊢; omega)]
theorem readAll_step {ns : List Int} {p : Nat} (h : p < ns.length) : Mir.readAll (ns.length - p) (ns.drop p) = match Mir.partLen (ns.drop p) with
    | none => none
    | some c => match Mir.readPart c ((ns.drop p).take (4 * c + 6)), Mir.readAll (ns.length - p - 1) ((ns.drop p).drop (4 * c + 6)) with
      | some q, some r => some (q :: r)
      | _, _ => none := by
  obtain ⟨n, l, e⟩ : ∃ n l, ns.drop p = n :: l := by
    cases q : ns.drop p with
    | nil => have := List.drop_eq_nil_iff.mp q; omega
    | cons n l => exact ⟨n, l, rfl⟩
  have e2 : ns.length - p = (ns.length - p - 1) + 1 := by omega
  rw [e, e2, Mir.readAll]; rfl
end Y
namespace Y
open PySem L2
open Mir (Pt Fr Mv Part)
theorem of_map {α β : Type} {f : α → β} {l : List α} {i : Nat} {y : β} (h : (l.map f)[i]? = some y) : ∃ x, l[i]? = some x ∧ y = f x := by
  rw [List.getElem?_map] at h
  cases e : l[i]? with
  | none => rw [e] at h; cases h
  | some x => rw [e] at h; cases h; exact ⟨x, rfl, rfl⟩
theorem told_len (l : List Pt) : (l.flatMap Mir.toldPt).length = 4 * l.length := by
  induction l with
  | nil => rfl
  | cons a l ih => simp [List.flatMap_cons, ih, Mir.toldPt, Mir.toldFr]; omega
theorem toldPart_len (q : Part) : (Mir.toldPart q).length = 4 * q.1.length + 6 := by
  have : (Mir.begun q.1).length = q.1.length := rot_len _ _
  simp only [Mir.toldPart, List.length_append, List.length_cons, told_len, this]
  simp [Mir.toldPt, Mir.toldFr]
theorem toldAll_len {c : List Part} (j : Nat) (h : ∀ q ∈ c, (Mir.toldPart q).length ≤ 500) : ((c.take j).flatMap Mir.toldPart).length ≤ j * 500 := by
  induction c generalizing j with
  | nil => simp
  | cons a l ih =>
    cases j with
    | zero => simp
    | succ j =>
      have h1 := h a (by simp)
      have h2 := ih j fun q hq => h q (List.mem_cons_of_mem _ hq)
      simp only [List.take_succ_cons, List.flatMap_cons, List.length_append]
      omega
theorem mv_eq {t u : Int} {w z : Pt} : (t, w) = (u, z) ↔ t = u ∧ w.x = z.x ∧ w.y = z.y ∧ w.d = z.d := by
  cases w; cases z; simp
end Y
theorem Y.Mut.is {K : PySem.W.Frag} {A0 B A : L2.Hp} {j : Nat} {σ : L2.St} {ds ds' : List Y.Dat} (m : Y.Mut K A0 j σ B A ds) (e : ds = ds') : Y.Mut K A0 j σ B A ds' := e ▸ m
end

section
set_option Elab.async false
set_option linter.all false
set_option maxRecDepth 100000
set_option maxHeartbeats 2000000
namespace Y
open PySem L2
open Evl (Ex)
open Mir (Pt Fr Mv Part)
variable {K : Frag} {G : Env} {ta tb te : TE} {tr : TA} {d : Dat} {B0 A0 B A : Hp} {σ : L2.St} {D : Ends} {tz : TS} {W : WX} {j : Nat} {ds : List Dat}
/-! ### reading beside a list that changes -/
/-- a list that's not known for good, in the slot j -/
structure MutP (K : Frag) (j : Nat) (p : Addr) (σ : L2.St) (B A : Hp) (xs : List V) (ds : List Dat) : Prop where
  s : σ[j]? = some (some (.ref p))
  a : A p = some (.lst xs)
  r : RpAll K B xs ds
  b : B p = none
theorem MutP.grow {p : Addr} {xs : List V} {B' A' : Hp} (m : MutP K j p σ B A xs ds) (g : Grow B A B' A') : MutP K j p σ B' A' xs ds :=
  ⟨m.s, (g.fresh m.b m.a).2, m.r.ex g.bb, (g.fresh m.b m.a).1⟩
theorem MutP.set {p : Addr} {xs : List V} {i : Nat} (m : MutP K j p σ B A xs ds) (h : i ≠ j) (o : Option V) : MutP K j p (σ.set i o) B A xs ds := ⟨by rw [List.getElem?_set_ne h]; exact m.s, m.a, m.r, m.b⟩
def ValM (K : Frag) (j : Nat) (ds : List Dat) (te : TE) (G : Env) (d : Dat) : Prop := ∀ p xs σ B A, Holds K G σ B → Ex B A → MutP K j p σ B A xs ds → ∀ Q : VK, (∀ v B' A', Grow B A B' A' → Rp K B' v d → Q v A') → te σ A Q
def ValsM (K : Frag) (j : Nat) (ds : List Dat) (ta : TA) (G : Env) (es : List Dat) : Prop := ∀ p xs σ B A, Holds K G σ B → Ex B A → MutP K j p σ B A xs ds → ∀ Q : List V → Hp → Prop, (∀ vs B' A', Grow B A B' A' → RpAll K B' vs es → Q vs A') → ta σ A Q
theorem vm_of (h : Val K te G d) : ValM K j ds te G d := fun p xs σ B A hs e _ Q q => h σ B hs A e Q q
theorem vms_of {es : List Dat} (h : Vals K tr G es) : ValsM K j ds tr G es := fun p xs σ B A hs e _ Q q => h σ B hs A e Q q
theorem vm_is {d' : Dat} (h : ValM K j ds te G d) (e : d = d') : ValM K j ds te G d' := e ▸ h
theorem vms_cons {es : List Dat} (h : ValM K j ds te G d) (hr : ValsM K j ds tr G es) : ValsM K j ds (tCons te tr) G (d :: es) := fun p xs σ B A hs e m Q q =>
  h p xs σ B A hs e m _ fun v B1 A1 g1 r1 => hr p xs σ B1 A1 (hs.ex g1.bb) g1.ba (m.grow g1) _ fun vs B2 A2 g2 r2 => q (v :: vs) B2 A2 (g1.trans g2) (.cons (r1.ex g2.bb) r2)
theorem vm_ix {i : Int} (hb : ValM K j ds tb G (.int i)) (h0 : -(ds.length : Int) ≤ i) (h : ds[plc ds.length i]? = some d) : ValM K j ds (tOp (rIxL K) (tVar j) tb) G d := fun p xs σ B A hs e m Q q => by
  refine ⟨_, m.s, hb p xs σ B A hs e m _ fun v B1 A1 g1 r1 => ?_⟩
  cases r1
  have m1 := m.grow g1
  have hl := m1.r.len
  obtain ⟨w, a, b⟩ := m1.r.get h
  exact ⟨_, _, _, w, rfl, rfl, Evl.sq_of m1.a, atI_plc (by rw [hl]; exact a) (by rw [hl]; exact h0), q _ B1 A1 g1 b⟩
theorem vm_ixT {es : List Dat} {n : Nat} (ha : ValM K j ds ta G (.tup es)) (h : es[n]? = some d) : ValM K j ds (tOp (rIxT K) ta (tC (.int (n : Int)))) G d := fun p xs σ B A hs e m Q q =>
  ha p xs σ B A hs e m _ fun v B1 A1 g1 r1 => by
    cases r1 with
    | tup h1 h2 =>
      obtain ⟨w, a, b⟩ := h2.get h
      exact ⟨_, _, _, w, rfl, rfl, Evl.ex_t g1.ba h1, atI_nat a, q _ B1 A1 g1 b⟩
theorem vm_len : ValM K j ds (tCB (fun xs H Q => ∃ p ys, xs = [.ref p] ∧ (SqL K H p ys ∨ SqT K H p ys) ∧ Q (.int ys.length) H) (tCons (tVar j) tNil)) G (.int (ds.length : Int)) := fun p xs σ B A hs e m Q q => by
  refine ⟨_, m.s, p, xs, rfl, .inl (Evl.sq_of m.a), ?_⟩
  rw [m.r.len]
  exact q _ B A (Grow.refl e) (.int _)
theorem vm_add {a b : Int} (ha : ValM K j ds ta G (.int a)) (hb : ValM K j ds tb G (.int b)) : ValM K j ds (tOp (rI0 fun i j => .int (i + j)) ta tb) G (.int (a + b)) := fun p xs σ B A hs e m Q q =>
  ha p xs σ B A hs e m _ fun v B1 A1 g1 r1 => hb p xs σ B1 A1 (hs.ex g1.bb) g1.ba (m.grow g1) _ fun w B2 A2 g2 r2 => by
    cases r1; cases r2
    exact ⟨a, b, rfl, rfl, q _ B2 A2 (g1.trans g2) (.int _)⟩
theorem tm_lt {a b : Int} (ha : ValM K j ds ta G (.int a)) (hb : ValM K j ds tb G (.int b)) : ∀ p xs σ B A, Holds K G σ B → Ex B A → MutP K j p σ B A xs ds → ∀ Q : Bool → Hp → Prop, (∀ B' A', Grow B A B' A' → Q (decide (a < b)) A') → tTest (tOp (rI0 fun i j => .bl (decide (i < j))) ta tb) σ A Q := fun p xs σ B A hs e m Q q =>
  ha p xs σ B A hs e m _ fun v B1 A1 g1 r1 => hb p xs σ B1 A1 (hs.ex g1.bb) g1.ba (m.grow g1) _ fun w B2 A2 g2 r2 => by
    cases r1; cases r2
    exact ⟨a, b, rfl, rfl, _, rfl, q B2 A2 (g1.trans g2)⟩
theorem vm_tup {es : List Dat} (h : ValsM K j ds tr G es) (hl : es.length ≤ 100000) : ValM K j ds (tTup tr) G (.tup es) := fun p xs σ B A hs e m Q q =>
  h p xs σ B A hs e m _ fun vs B1 A1 g1 r1 => ⟨by rw [r1.len]; exact Evl.sz_of hl, fun a ha => q _ _ _ (g1.trans (Grow.lay g1.ba ha _)) (.tup (Evl.st_of upd_same) (r1.ex (Grow.lay g1.ba ha _).bb))⟩
theorem vm_call {n : Nat} {pre : List Dat → Dat → Prop} {E : XK} {es : List Dat} (h : ValsM K j ds tr G es) (hn : es.length = n) (hp : pre es d) : ValM K j ds (tCall (Fn K n pre) [] E tr) G d := fun p xs σ B A hs e m Q q =>
  h p xs σ B A hs e m _ fun vs B1 A1 g1 r1 => by
    rw [List.append_nil]
    exact ⟨by rw [r1.len, hn], B1, es, d, g1.ba, r1, hp, fun v B2 A2 g2 r2 => q v B2 A2 (g1.trans g2) r2⟩
theorem vm_listRg2 {a b : Int} (ha : ValM K j ds ta G (.int a)) (hb : ValM K j ds tb G (.int b)) (h0 : 0 ≤ a) (h1 : b ≤ 16777216) (h2 : a ≤ 16777216) (h3 : 0 ≤ b) : ValM K j ds (tLstRg (tRg2 ta tb)) G (.lst (rgD a b)) := fun p xs σ B A hs e m Q q =>
  ha p xs σ B A hs e m _ fun v B1 A1 g1 r1 => hb p xs σ B1 A1 (hs.ex g1.bb) g1.ba (m.grow g1) _ fun u B2 A2 g2 r2 => by
    cases r1; cases r2
    exact ⟨a, b, rfl, rfl, RgOk.of_le h0 h1 h2 h3, fun a ha => q _ _ _ ((g1.trans g2).trans (Grow.lay g2.ba ha _)) (.lst upd_same (rg_rp _ _))⟩
/-- what is to be joined -/
structure PartsOk (c : List Part) : Prop where
  n : c.length ≤ 160
  m : (c.map fun q => q.1.length).sum ≤ 20000
  q : ∀ q ∈ c, 3 ≤ q.1.length ∧ (∀ p ∈ q.1, PtS 8999 p ∧ p.d ≠ 0) ∧ PtS 8999 q.2.2 ∧ q.2.2.d ≠ 0
theorem PartsOk.len {c : List Part} (h : PartsOk c) {q : Part} (hq : q ∈ c) : q.1.length ≤ 20000 := by
  have : q.1.length ≤ (c.map fun q => q.1.length).sum := by
    clear h
    induction c with
    | nil => cases hq
    | cons a l ih =>
      rw [List.map_cons, List.sum_cons]
      rcases List.mem_cons.mp hq with e | e
      · subst e; omega
      · have := ih e; omega
  exact Nat.le_trans this h.m
theorem pAt_mem {c : List Part} {i : Nat} (h : i < c.length) : Mir.pAt c i ∈ c := by
  unfold Mir.pAt
  rw [List.getD_eq_getElem?_getD, List.getElem?_eq_getElem h]; exact List.getElem_mem h
theorem pAt_get {c : List Part} {i : Nat} (h : i < c.length) : (c.map dPart)[plc (c.map dPart).length (i : Int)]? = some (dPart (Mir.pAt c i)) := by
  unfold plc Mir.pAt
  rw [if_pos (by omega), List.getElem?_map, List.getD_eq_getElem?_getD]
  simp [List.getElem?_eq_getElem h]
end Y
namespace Y
open PySem L2
open Mir (Pt Fr Mv Part)
/-- what join_first makes of the parts, and what it gives back -/
def joinGo (c : List Part) (p : Nat) : Option Nat → List Part
  | some k => Mir.joinWith c p k
  | none => c
def joinAt (p : Nat) : Option Nat → Int
  | some k => ((min p k : Nat) : Int)
  | none => -1
theorem eraseIdx_map {α β : Type} (f : α → β) : ∀ (l : List α) (n : Nat), (l.eraseIdx n).map f = (l.map f).eraseIdx n
  | [], _ => rfl
  | _ :: _, 0 => rfl
  | a :: l, n + 1 => by simp [eraseIdx_map f l n]
end Y
theorem Y.q_asgM {K : PySem.W.Frag} {j : Nat} {ds : List Y.Dat} {te : L2.TE} {G : Y.Env} {d : Y.Dat} {g : L2.TG} {tz : L2.TS} {D : L2.Ends} {B0 A0 B A : L2.Hp} {σ : L2.St} {p : PySem.Addr} {xs : List L2.V} (hv : Y.ValM K j ds te G d) (S : Y.State K B0 A0 G σ B A) (M : Y.MutP K j p σ B A xs ds)
    (k : ∀ v B' A', Y.Grow B A B' A' → Y.Rp K B' v d → g v σ A' (tz D)) : L2.tSeq (L2.tAsg te g) tz D σ A := hv p xs σ B A S.h S.g.ba M _ fun v B' A' gr r => k v B' A' gr r
namespace Y
open PySem L2
open Mir (Pt Fr Mv Part)
/-- what joining may come to -/
inductive Reach (c : List Part) : List Part → Prop
  | refl : Reach c c
  | step {c' : List Part} {p k : Nat} : Reach c c' → p < c'.length → k < c'.length → k ≠ p → 0 < (Mir.bothJoined (Mir.pAt c' p) (Mir.pAt c' k)).length → Reach c (Mir.joinWith c' p k)
theorem joinFirst_mem {c : List Part} {p : Nat} : ∀ {os : List Nat} {k : Nat}, Mir.joinFirst c p os = some k → k ∈ os
  | [], k, h => by cases h
  | q :: os, k, h => by
    rw [Mir.joinFirst] at h
    split at h
    · cases h; simp
    · exact List.mem_cons_of_mem _ (joinFirst_mem h)
theorem joinFirst_pos {c : List Part} {p : Nat} : ∀ {os : List Nat} {k : Nat}, Mir.joinFirst c p os = some k → 0 < (Mir.bothJoined (Mir.pAt c p) (Mir.pAt c k)).length
  | [], k, h => by cases h
  | q :: os, k, h => by
    rw [Mir.joinFirst] at h
    split at h
    · cases h; assumption
    · exact joinFirst_pos h
theorem joinWith_len {c : List Part} {p k : Nat} (hp : p < c.length) (hk : k < c.length) : (Mir.joinWith c p k).length = c.length - 1 := by
  unfold Mir.joinWith
  rw [List.length_eraseIdx, List.length_set, if_pos (by omega)]
theorem step_cases (c : List Part) (p : Nat) (hp : p < c.length) : (∃ k, k < c.length ∧ k ≠ p ∧ Mir.joinStep c p = (Mir.joinWith c p k, min p k)) ∨ Mir.joinStep c p = (c, p + 1) := by
  unfold Mir.joinStep
  cases h1 : Mir.joinFirst c p (List.range p) with
  | some k =>
    have := List.mem_range.mp (joinFirst_mem h1)
    exact .inl ⟨k, by omega, by omega, rfl⟩
  | none =>
    cases h2 : Mir.joinFirst c p ((List.range (c.length - (p + 1))).map fun i => p + 1 + i) with
    | some k =>
      obtain ⟨i, hi, rfl⟩ := List.mem_map.mp (joinFirst_mem h2)
      have := List.mem_range.mp hi
      exact .inl ⟨_, by omega, by omega, rfl⟩
    | none => exact .inr rfl
theorem step_measure {c : List Part} {p : Nat} (hp : p < c.length) : (Mir.joinStep c p).1.length * (Mir.joinStep c p).1.length + ((Mir.joinStep c p).1.length - (Mir.joinStep c p).2) < c.length * c.length + (c.length - p) ∧ (Mir.joinStep c p).2 ≤ (Mir.joinStep c p).1.length := by
  rcases step_cases c p hp with ⟨k, h1, h2, h3⟩ | h3
  · rw [h3]
    simp only
    rw [joinWith_len hp h1]
    obtain ⟨n, hn⟩ : ∃ n, c.length = n + 1 := ⟨c.length - 1, by omega⟩
    rw [hn]
    simp only [Nat.add_sub_cancel]
    have : (n + 1) * (n + 1) = n * n + 2 * n + 1 := by rw [Nat.mul_add, Nat.add_mul]; omega
    omega
  · rw [h3]
    simp only
    omega
theorem joinAll_fuel : ∀ {n m : Nat} {c : List Part} {p : Nat}, c.length * c.length + (c.length - p) ≤ n → c.length * c.length + (c.length - p) ≤ m → Mir.joinAll n c p = Mir.joinAll m c p
  | 0, 0, c, p, _, _ => rfl
  | 0, m + 1, c, p, h, _ => by
    rw [Mir.joinAll, Mir.joinAll, if_neg (by omega)]
  | n + 1, 0, c, p, _, h => by
    rw [Mir.joinAll, Mir.joinAll, if_neg (by omega)]
  | n + 1, m + 1, c, p, h1, h2 => by
    rw [Mir.joinAll, Mir.joinAll]
    by_cases h : p < c.length
    · rw [if_pos h, if_pos h]
      have := (step_measure h).1
      exact joinAll_fuel (by omega) (by omega)
    · rw [if_neg h, if_neg h]
theorem rgD_zero (n : Nat) : rgD 0 (n : Int) = (List.range n).map fun (k : Nat) => .int (k : Int) := by
  unfold rgD
  have : ((n : Int) - 0).toNat = n := by omega
  rw [this]
  simp
theorem rgD_from {n p : Nat} (h : p < n) : rgD ((p : Int) + 1) (n : Int) = ((List.range (n - (p + 1))).map fun i => p + 1 + i).map fun (k : Nat) => .int (k : Int) := by
  unfold rgD
  have : ((n : Int) - ((p : Int) + 1)).toNat = n - (p + 1) := by omega
  rw [this, List.map_map]
  refine List.map_congr_left fun i _ => ?_
  simp
end Y

namespace Y
open Mir (Part)
theorem sum_take (l : List Nat) (j : Nat) : (l.take j).sum ≤ l.sum := by
  induction l generalizing j with
  | nil => simp
  | cons a l ih =>
    cases j with
    | zero => simp
    | succ j => have := ih j; simp; omega
theorem toldAll_sum (c : List Part) (j : Nat) : ((c.take j).flatMap Mir.toldPart).length ≤ 4 * (c.map fun q => q.1.length).sum + 6 * c.length := by
  have key : ∀ l : List Part, (l.flatMap Mir.toldPart).length = 4 * (l.map fun q => q.1.length).sum + 6 * l.length := fun l => by
    induction l with
    | nil => rfl
    | cons a l ih => simp only [List.flatMap_cons, List.length_append, toldPart_len, ih, List.map_cons, List.sum_cons, List.length_cons]; omega
  rw [key, List.map_take]
  have h1 := sum_take (c.map fun q => q.1.length) j
  have h2 : (c.take j).length ≤ c.length := by simp; omega
  omega
end Y
namespace Y
open Mir (Part)
theorem reach_step {c c' : List Part} {p : Nat} (h : Reach c c') (hp : p < c'.length) : Reach c (Mir.joinStep c' p).1 := by
  unfold Mir.joinStep
  cases h1 : Mir.joinFirst c' p (List.range p) with
  | some k =>
    have := List.mem_range.mp (joinFirst_mem h1)
    exact h.step hp (by omega) (by omega) (joinFirst_pos h1)
  | none =>
    cases h2 : Mir.joinFirst c' p ((List.range (c'.length - (p + 1))).map fun i => p + 1 + i) with
    | some k =>
      have h3 := joinFirst_pos h2
      obtain ⟨i, hi, rfl⟩ := List.mem_map.mp (joinFirst_mem h2)
      have := List.mem_range.mp hi
      exact h.step hp (by omega) (by omega) h3
    | none => exact h
theorem reach_all {c : List Part} : ∀ (n : Nat) {c' : List Part} {p : Nat}, Reach c c' → Reach c (Mir.joinAll n c' p)
  | 0, c', p, h => h
  | n + 1, c', p, h => by
    rw [Mir.joinAll]
    split
    · rename_i hp; exact reach_all n (reach_step h hp)
    · exact h
theorem reach_joined (c : List Part) : Reach c (Mir.joined c) := reach_all _ Reach.refl
end Y
end

section
set_option linter.all false
set_option maxRecDepth 10000
/-! The order in which parts are joined. -/
namespace Geo
open Mir (Pt atI rotL inner pAt)
open Kzq1 (Q P)
structure RelM (w : Mir.Mv) (m : Kzq2.Move) : Prop where
  h : w.1 = if m.h then 1 else 0
  nm : Nm w.2
  ok : OkP m.t
  at_ : vP w.2 = toV m.t
theorem RelM.eq {w w' : Mir.Mv} {m m' : Kzq2.Move} (a : RelM w m) (b : RelM w' m') : w = w' ↔ m = m' := by
  constructor
  · intro e
    subst e
    have h1 := a.h.symm.trans b.h
    have h2 := toV_inj a.ok b.ok (a.at_.symm.trans b.at_)
    obtain ⟨h, t⟩ := m
    obtain ⟨h', t'⟩ := m'
    simp only at h1 h2
    subst h2
    cases h <;> cases h' <;> simp at h1 <;> rfl
  · intro e
    subst e
    have h1 := a.h.trans b.h.symm
    have h2 := a.nm.inj b.nm (a.at_.trans b.at_.symm)
    exact Prod.ext h1 h2
structure RelP (q : Mir.Part) (s : Kzq2.Part) : Prop where
  g : Good q.1
  pc : Pc s.l
  rot : Rot (q.1.map vP) (vs s.l)
  beg : Begun (vs s.l)
  mv : RelM q.2 s.m
/-- as the specification joins two -/
def jn (s t : Kzq2.Part) : Option (List P) := if s.m = t.m then Kzq1.joined s.l t.l else none
theorem makes_rot {p q p' q' P N : List V} {pf pl nf nl x1 x2 : V} (m : Makes p q P N pf pl nf nl x1 x2) (h : Rot p' p) (k : Rot q' q) : Makes p' q' P N pf pl nf nl x1 x2 := ⟨h.trans m.1, k.trans m.2.1, m.2.2⟩
theorem both_rel {a b : Mir.Part} {s t : Kzq2.Part} (ha : RelP a s) (hb : RelP b t) :
    (Mir.bothJoined a b = [] ∧ Mir.bothJoined b a = [] ∧ jn s t = none) ∨
    (∃ r, jn s t = some r ∧ a.2 = b.2 ∧ s.m = t.m ∧ 0 < (Mir.bothJoined a b).length ∧ RelP (Mir.bothJoined a b, a.2) ⟨r, s.m⟩ ∧ 0 < (Mir.bothJoined b a).length ∧ RelP (Mir.bothJoined b a, a.2) ⟨r, s.m⟩) := by
  unfold Mir.bothJoined jn
  by_cases e : a.2 = b.2
  · have e' := (ha.mv.eq hb.mv).1 e
    rw [if_pos e, if_pos e.symm, if_pos e']
    rcases glued_made ha.g hb.g with ⟨h1, h2⟩ | ⟨g1, ⟨P, N, pf, pl, nf, nl, x1, x2, m, r1⟩, _, _⟩
    · rcases glued_made hb.g ha.g with ⟨k1, k2⟩ | ⟨_, ⟨P, N, pf, pl, nf, nl, x1, x2, m, _⟩, _, _⟩
      · refine .inl ⟨h1, k1, joined_none ha.pc hb.pc ?_⟩
        rintro ⟨P, N, pf, pl, nf, nl, x1, x2, m⟩
        exact h2 ⟨P, N, pf, pl, nf, nl, x1, x2, makes_rot m ha.rot hb.rot⟩
      · exact absurd ⟨N, P, nf, nl, pf, pl, x2, x1, makes_symm m⟩ h2
    · rcases glued_made hb.g ha.g with ⟨k1, k2⟩ | ⟨g2, ⟨P', N', pf', pl', nf', nl', y1, y2, m', r2⟩, _, _⟩
      · exact absurd ⟨N, P, nf, nl, pf, pl, x2, x1, makes_symm m⟩ k2
      · obtain ⟨r, j1, j2, j3, j4⟩ := joined_some ha.pc hb.pc (makes_rot m ha.rot.symm hb.rot.symm)
        obtain ⟨r', l1, l2, l3, l4⟩ := joined_some ha.pc hb.pc (makes_rot (makes_symm m') ha.rot.symm hb.rot.symm)
        rw [j1] at l1
        cases l1
        refine .inr ⟨r, j1, e, e', ?_, ⟨g1, j2, r1.trans j4.symm, j3, ha.mv⟩, ?_, ⟨g2, j2, (r2.trans (glueRow_rot ..)).trans l4.symm, j3, ha.mv⟩⟩
        · have := g1.len; omega
        · have := g2.len; omega
  · have e' : ¬ s.m = t.m := fun h => e ((ha.mv.eq hb.mv).2 h)
    rw [if_neg e, if_neg (fun h => e h.symm), if_neg e']
    exact .inl ⟨rfl, rfl, rfl⟩
/-! ### rows of parts -/
def sAt (S : List Kzq2.Part) (i : Nat) : Kzq2.Part := S.getD i ⟨[], Kzq2.stay⟩
structure Rels (c : List Mir.Part) (S : List Kzq2.Part) : Prop where
  len : c.length = S.length
  at_ : ∀ i, i < c.length → RelP (pAt c i) (sAt S i)
def jnAt (S : List Kzq2.Part) (i j : Nat) : Option (List P) := jn (sAt S i) (sAt S j)
theorem rels_both {c : List Mir.Part} {S : List Kzq2.Part} (R : Rels c S) {i j : Nat} (hi : i < c.length) (hj : j < c.length) (hij : i < j) :
    (Mir.bothJoined (pAt c i) (pAt c j) = [] ∧ Mir.bothJoined (pAt c j) (pAt c i) = [] ∧ jnAt S i j = none) ∨
    (∃ r, jnAt S i j = some r ∧ 0 < (Mir.bothJoined (pAt c i) (pAt c j)).length ∧ RelP (Mir.bothJoined (pAt c i) (pAt c j), (pAt c i).2) ⟨r, (sAt S i).m⟩ ∧ 0 < (Mir.bothJoined (pAt c j) (pAt c i)).length ∧ RelP (Mir.bothJoined (pAt c j) (pAt c i), (pAt c i).2) ⟨r, (sAt S i).m⟩) := by
  rcases both_rel (R.at_ i hi) (R.at_ j hj) with h | ⟨r, h1, h2, h3, h4, h5, h6, h7⟩
  · exact .inl h
  · exact .inr ⟨r, h1, h4, h5, h6, h7⟩
theorem pAt_set {c : List Mir.Part} {lo hi : Nat} {q : Mir.Part} (h1 : lo < hi) (h2 : hi < c.length) (i : Nat) : pAt ((c.set lo q).eraseIdx hi) i = if i = lo then q else if i < hi then pAt c i else pAt c (i + 1) := by
  unfold pAt
  rw [List.getD_eq_getElem?_getD, List.getElem?_eraseIdx]
  by_cases e : i = lo
  · subst e
    rw [if_pos h1, if_pos rfl, List.getElem?_set_self (by omega)]; rfl
  · rw [if_neg e]
    by_cases k : i < hi
    · rw [if_pos k, if_pos k, List.getElem?_set_ne (by omega), List.getD_eq_getElem?_getD]
    · rw [if_neg k, if_neg k, List.getElem?_set_ne (by omega), List.getD_eq_getElem?_getD]
theorem sAt_set {c : List Kzq2.Part} {lo hi : Nat} {q : Kzq2.Part} (h1 : lo < hi) (h2 : hi < c.length) (i : Nat) : sAt ((c.set lo q).eraseIdx hi) i = if i = lo then q else if i < hi then sAt c i else sAt c (i + 1) := by
  unfold sAt
  rw [List.getD_eq_getElem?_getD, List.getElem?_eraseIdx]
  by_cases e : i = lo
  · subst e
    rw [if_pos h1, if_pos rfl, List.getElem?_set_self (by omega)]; rfl
  · rw [if_neg e]
    by_cases k : i < hi
    · rw [if_pos k, if_pos k, List.getElem?_set_ne (by omega), List.getD_eq_getElem?_getD]
    · rw [if_neg k, if_neg k, List.getElem?_set_ne (by omega), List.getD_eq_getElem?_getD]
theorem Rels.joined {c : List Mir.Part} {S : List Kzq2.Part} (R : Rels c S) {lo hi : Nat} (h1 : lo < hi) (h2 : hi < c.length) {q : Mir.Part} {s : Kzq2.Part} (h : RelP q s) : Rels ((c.set lo q).eraseIdx hi) ((S.set lo s).eraseIdx hi) := by
  have hl := R.len
  refine ⟨?_, fun i hi' => ?_⟩
  · rw [List.length_eraseIdx, List.length_eraseIdx, List.length_set, List.length_set, hl]
  · rw [List.length_eraseIdx, List.length_set, if_pos h2] at hi'
    rw [pAt_set h1 h2, sAt_set h1 (by omega)]
    by_cases e : i = lo
    · rw [if_pos e, if_pos e]; exact h
    · rw [if_neg e, if_neg e]
      by_cases k : i < hi
      · rw [if_pos k, if_pos k]; exact R.at_ i (by omega)
      · rw [if_neg k, if_neg k]; exact R.at_ (i + 1) (by omega)
/-! ### the first pair -/
theorem findSome_flat {α β γ : Type} (F : β → Option γ) (g : α → List β) : ∀ l : List α, (l.flatMap g).findSome? F = l.findSome? fun i => (g i).findSome? F
  | [] => rfl
  | a :: l => by
    rw [List.flatMap_cons, List.findSome?_append, List.findSome?_cons, findSome_flat F g l]
    cases (g a).findSome? F <;> rfl
theorem first_some {γ : Type} {G : Nat → Option γ} {n i : Nat} {r : γ} (hi : i < n) (h : G i = some r) (hb : ∀ k, k < i → G k = none) : (List.range n).findSome? G = some r := by
  obtain ⟨d, rfl⟩ : ∃ d, n = i + 1 + d := ⟨n - (i + 1), by omega⟩
  rw [List.range_add, List.range_succ, List.append_assoc, List.findSome?_append, List.findSome?_eq_none_iff.2 (fun k hk => hb k (List.mem_range.1 hk))]
  simp [h]
def pairF (S : List Kzq2.Part) (y : Nat × Nat) : Option (Nat × Nat × List P) := if y.1 < y.2 then match S[y.1]?, S[y.2]? with
    | some a, some b => if a.m = b.m then (Kzq1.joined a.l b.l).map fun r => (y.1, y.2, r) else none
    | _, _ => none
  else none
theorem joinable_eq (S : List Kzq2.Part) : Kzq3.joinable S = (List.range S.length).findSome? fun i => (List.range S.length).findSome? fun j => pairF S (i, j) := by
  unfold Kzq3.joinable
  rw [findSome_flat]
  congr 1
  funext i
  rw [List.findSome?_map]
  rfl
theorem pairF_at {S : List Kzq2.Part} {i j : Nat} (hj : j < S.length) (hij : i < j) : pairF S (i, j) = (jnAt S i j).map fun r => (i, j, r) := by
  unfold pairF jnAt jn sAt
  simp only
  rw [if_pos hij, List.getD_eq_getElem?_getD, List.getD_eq_getElem?_getD, List.getElem?_eq_getElem (by omega), List.getElem?_eq_getElem hj]
  simp only [Option.getD_some]
  split <;> simp_all
theorem pairF_not {S : List Kzq2.Part} {i j : Nat} (h : ¬ i < j) : pairF S (i, j) = none := if_neg h
theorem joinable_some {S : List Kzq2.Part} {i j : Nat} {r : List P} (hj : j < S.length) (hij : i < j) (h : jnAt S i j = some r)
    (h1 : ∀ a b, a < i → a < b → b < S.length → jnAt S a b = none) (h2 : ∀ b, i < b → b < j → jnAt S i b = none) : Kzq3.joinable S = some (i, j, r) := by
  rw [joinable_eq]
  refine first_some (i := i) (by omega) (first_some (i := j) hj (by rw [pairF_at hj hij, h]; rfl) fun b hb => ?_) fun a ha => ?_
  · by_cases k : i < b
    · rw [pairF_at (by omega) k, h2 b k hb]; rfl
    · exact pairF_not k
  · refine List.findSome?_eq_none_iff.2 fun b hb => ?_
    have hb := List.mem_range.1 hb
    by_cases k : a < b
    · rw [pairF_at hb k, h1 a b ha k hb]; rfl
    · exact pairF_not k
theorem joinable_none {S : List Kzq2.Part} (h1 : ∀ a b, a < b → b < S.length → jnAt S a b = none) : Kzq3.joinable S = none := by
  rw [joinable_eq]
  refine List.findSome?_eq_none_iff.2 fun a _ => List.findSome?_eq_none_iff.2 fun b hb => ?_
  have hb := List.mem_range.1 hb
  by_cases k : a < b
  · rw [pairF_at hb k, h1 a b k hb]; rfl
  · exact pairF_not k
/-! ### the program's search -/
theorem joinFirst_app {c : List Mir.Part} {p : Nat} : ∀ (l m : List Nat), Mir.joinFirst c p (l ++ m) = match Mir.joinFirst c p l with
    | some k => some k
    | none => Mir.joinFirst c p m
  | [], m => rfl
  | a :: l, m => by
    rw [List.cons_append, Mir.joinFirst, Mir.joinFirst]
    split
    · rfl
    · exact joinFirst_app l m
theorem joinFirst_range {c : List Mir.Part} {p : Nat} (g : Nat → Nat) : ∀ n, (∃ i, i < n ∧ Mir.joinFirst c p ((List.range n).map g) = some (g i) ∧ 0 < (Mir.bothJoined (pAt c p) (pAt c (g i))).length ∧ ∀ k, k < i → ¬ 0 < (Mir.bothJoined (pAt c p) (pAt c (g k))).length) ∨
    (Mir.joinFirst c p ((List.range n).map g) = none ∧ ∀ k, k < n → ¬ 0 < (Mir.bothJoined (pAt c p) (pAt c (g k))).length)
  | 0 => .inr ⟨rfl, fun k hk => by omega⟩
  | n + 1 => by
    rw [List.range_succ, List.map_append, joinFirst_app]
    rcases joinFirst_range (c := c) (p := p) g n with ⟨i, h1, h2, h3, h4⟩ | ⟨h1, h2⟩
    · rw [h2]; exact .inl ⟨i, by omega, rfl, h3, h4⟩
    · rw [h1]
      simp only [List.map_cons, List.map_nil, Mir.joinFirst]
      by_cases k : 0 < (Mir.bothJoined (pAt c p) (pAt c (g n))).length
      · rw [if_pos k]; exact .inl ⟨n, by omega, rfl, k, h2⟩
      · rw [if_neg k]
        refine .inr ⟨rfl, fun i hi => ?_⟩
        by_cases e : i = n
        · subst e; exact k
        · exact h2 i (by omega)
/-- no pair ahead of the place, but those with the part at it -/
def Inv (S : List Kzq2.Part) (p : Nat) : Prop := ∀ a b, a < b → b < S.length → a < p → b ≠ p → jnAt S a b = none
theorem Inv.joined {S : List Kzq2.Part} {lo hi : Nat} {s : Kzq2.Part} (h1 : lo < hi) (h2 : hi < S.length) (h : ∀ a b, a < b → b < S.length → a < lo → b ≠ lo → b ≠ hi → jnAt S a b = none) : Inv ((S.set lo s).eraseIdx hi) lo := by
  intro a b hab hb ha hne
  rw [List.length_eraseIdx, List.length_set, if_pos h2] at hb
  unfold jnAt
  rw [sAt_set h1 h2, sAt_set h1 h2, if_neg (by omega), if_pos (by omega), if_neg hne]
  by_cases k : b < hi
  · rw [if_pos k]; exact h a b hab (by omega) ha hne (by omega)
  · rw [if_neg k]; exact h a (b + 1) (by omega) (by omega) ha (by omega) (by omega)
theorem joinAll_rel : ∀ (n : Nat) {c : List Mir.Part} {S : List Kzq2.Part} {p : Nat}, c.length * c.length + (c.length - p) ≤ n → Rels c S → Inv S p → ∀ m, S.length ≤ m → Rels (Mir.joinAll n c p) (Kzq3.joinAll m S) := by
  have stop : ∀ {c : List Mir.Part} {S : List Kzq2.Part} {p : Nat}, Rels c S → Inv S p → ¬ p < c.length → ∀ m, Kzq3.joinAll m S = S := fun {c S p} R I h m => by
    cases m with
    | zero => rfl
    | succ m =>
      rw [Kzq3.joinAll, joinable_none]
      intro a b hab hb
      have := R.len
      exact I a b hab hb (by omega) (by omega)
  intro n
  induction n with
  | zero =>
    intro c S p hn R I m hm
    rw [stop R I (by omega)]
    exact R
  | succ n ih =>
    intro c S p hn R I m hm
    rw [Mir.joinAll]
    by_cases hp : p < c.length
    · rw [if_pos hp]
      have hm2 := (Y.step_measure hp).1
      have hl := R.len
      have join : ∀ lo hi (q : List Pt) (r : List P), lo < hi → hi < c.length → jnAt S lo hi = some r → RelP (q, (pAt c lo).2) ⟨r, (sAt S lo).m⟩ →
          Mir.joinStep c p = ((c.set lo (q, (pAt c lo).2)).eraseIdx hi, lo) →
          (∀ a b, a < lo → a < b → b < S.length → jnAt S a b = none) → (∀ b, lo < b → b < hi → jnAt S lo b = none) → Rels (Mir.joinAll n (Mir.joinStep c p).1 (Mir.joinStep c p).2) (Kzq3.joinAll m S) := fun lo hi q r h1 h2 h3 h4 h5 h6 h7 => by
        have e := joinable_some (by omega) h1 h3 h6 h7
        obtain ⟨m', rfl⟩ : ∃ m', m = m' + 1 := ⟨m - 1, by omega⟩
        rw [Kzq3.joinAll, e]
        rw [h5] at hm2 ⊢
        dsimp only at hm2 ⊢
        refine ih (by omega) (R.joined h1 h2 h4) (Inv.joined h1 (by omega) fun a b hab hb ha _ _ => h6 a b ha hab hb) m' ?_
        rw [List.length_eraseIdx, List.length_set, if_pos (by omega)]
        omega
      rcases joinFirst_range (c := c) (p := p) id p with ⟨k, k1, k2, k3, k4⟩ | ⟨k1, k2⟩
      · -- with an earlier one
        simp only [List.map_id, id] at k2 k3 k4
        have e : Mir.joinStep c p = (Mir.joinWith c p k, min p k) := by unfold Mir.joinStep; rw [k2]
        have mn : min p k = k := by omega
        have mx : max p k = p := by omega
        rcases rels_both R (i := k) (j := p) (by omega) hp k1 with ⟨z1, z2, z3⟩ | ⟨r, r1, r2, r3, r4, r5⟩
        · rw [z2] at k3; simp at k3
        · refine join k p _ r k1 hp r1 r5 ?_ (fun a b ha hab hb => ?_) (fun b h1 h2 => I k b h1 (by omega) k1 (by omega))
          · rw [e]; unfold Mir.joinWith; rw [mn, mx]
          · by_cases hbp : b = p
            · subst hbp
              rcases rels_both R (i := a) (j := b) (by omega) hp hab with ⟨_, _, z⟩ | ⟨r, _, _, _, z, _⟩
              · exact z
              · exact absurd z (k4 a ha)
            · exact I a b hab hb (by omega) hbp
      · simp only [List.map_id, id] at k1 k2
        have early : ∀ a, a < p → jnAt S a p = none := fun a ha => by
          rcases rels_both R (i := a) (j := p) (by omega) hp ha with ⟨_, _, z⟩ | ⟨r, _, _, _, z, _⟩
          · exact z
          · exact absurd z (k2 a ha)
        have ahead : ∀ a b, a < p → a < b → b < S.length → jnAt S a b = none := fun a b ha hab hb => by
          by_cases hbp : b = p
          · subst hbp; exact early a ha
          · exact I a b hab hb ha hbp
        rcases joinFirst_range (c := c) (p := p) (fun i => p + 1 + i) (c.length - (p + 1)) with ⟨i, i1, i2, i3, i4⟩ | ⟨i1, i2⟩
        · have e : Mir.joinStep c p = (Mir.joinWith c p (p + 1 + i), min p (p + 1 + i)) := by unfold Mir.joinStep; rw [k1, i2]
          have mn : min p (p + 1 + i) = p := by omega
          have mx : max p (p + 1 + i) = p + 1 + i := by omega
          rcases rels_both R (i := p) (j := p + 1 + i) hp (by omega) (by omega) with ⟨z1, z2, z3⟩ | ⟨r, r1, r2, r3, r4, r5⟩
          · rw [z1] at i3; simp at i3
          · refine join p (p + 1 + i) _ r (by omega) (by omega) r1 r3 ?_ ahead (fun b h1 h2 => ?_)
            · rw [e]; unfold Mir.joinWith; rw [mn, mx]
            · rcases rels_both R (i := p) (j := b) hp (by omega) h1 with ⟨_, _, z⟩ | ⟨r, _, z, _⟩
              · exact z
              · have := i4 (b - (p + 1)) (by omega)
                rw [show p + 1 + (b - (p + 1)) = b by omega] at this
                exact absurd z this
        · have e : Mir.joinStep c p = (c, p + 1) := by unfold Mir.joinStep; rw [k1, i1]
          rw [e] at hm2 ⊢
          refine ih (by omega) R (fun a b hab hb ha hne => ?_) m hm
          by_cases hap : a = p
          · subst hap
            rcases rels_both R (i := a) (j := b) hp (by omega) hab with ⟨_, _, z⟩ | ⟨r, _, z, _⟩
            · exact z
            · have := i2 (b - (a + 1)) (by omega)
              rw [show a + 1 + (b - (a + 1)) = b by omega] at this
              exact absurd z this
          · exact ahead a b (by omega) hab hb
    · rw [if_neg hp, stop R I hp]
      exact R
theorem fewer_rel {c : List Mir.Part} {S : List Kzq2.Part} (R : Rels c S) : Rels (Mir.joined c) (Kzq3.fewer S) :=
  joinAll_rel _ (by omega) R (fun a b _ _ h _ => absurd h (by omega)) _ (Nat.le_refl _)
end Geo
end

section
set_option linter.all false
set_option maxRecDepth 10000
/-! Told. -/
namespace Geo
open Mir (Pt atI rotL inner pAt)
open Kzq1 (Q P)
theorem begun_ok {l : List Pt} (g : Good l) : Begun ((Mir.begun l).map vP) := by
  have h0 : 0 < l.length := by have := g.len; omega
  have mem : ∀ {k : Nat}, k < l.length → atI l (k : Int) ∈ l := fun {k} hk => by
    rw [atI_nat, List.getD_eq_getElem?_getD, List.getElem?_eq_getElem hk]
    exact List.getElem_mem _
  have key : ∀ n, n ≤ l.length → ∃ i, Mir.firstTo l n = i ∧ i < l.length ∧ ∀ j, j < n → ¬ Bef (vP (atI l (j : Int))) (vP (atI l (i : Int))) := by
    intro n
    induction n with
    | zero => intro _; exact ⟨0, rfl, h0, by simp⟩
    | succ n ih =>
      intro hn
      obtain ⟨i, e, hi, hm⟩ := ih (by omega)
      have e2 : Mir.firstTo l (n + 1) = if Mir.isAhead (atI l (n : Int)) (atI l (i : Int)) = true then n else i := by
        unfold Mir.firstTo at e ⊢
        rw [List.range_succ, List.foldl_append, e]
        rfl
      have b := ahead_iff (g.nm _ (mem (k := n) (by omega))).pos (g.nm _ (mem hi)).pos
      by_cases hb : Bef (vP (atI l (n : Int))) (vP (atI l (i : Int)))
      · refine ⟨n, by rw [e2, if_pos (b.2 hb)], by omega, ?_⟩
        intro j hj hc
        by_cases hjn : j = n
        · subst hjn; exact hc.irrefl
        · exact hm j (by omega) (hc.trans hb)
      · refine ⟨i, by rw [e2, if_neg (fun h => hb (b.1 h))], hi, ?_⟩
        intro j hj hc
        by_cases hjn : j = n
        · subst hjn; exact hb hc
        · exact hm j (by omega) hc
  obtain ⟨i, e, hi, hm⟩ := key l.length (Nat.le_refl _)
  unfold Mir.begun
  rw [e]
  have r := rotL_rot l i
  have nd := ((r.map vP).perm.nodup_iff).1 (g.t3.nodup g.len')
  have er := rotL_row hi (by have := g.len; omega)
  have : ∃ R, rotL l i = atI l (i : Int) :: R := ⟨_, er⟩
  obtain ⟨R, er⟩ := this
  rw [er] at r nd ⊢
  rw [List.map_cons] at nd ⊢
  rw [List.nodup_cons] at nd
  intro v hv
  obtain ⟨p, hp, rfl⟩ := List.mem_map.1 hv
  have hpl : p ∈ l := r.mem.2 (by simp [hp])
  obtain ⟨j, hj, rfl⟩ := List.getElem_of_mem hpl
  have ej : atI l (j : Int) = l[j] := by rw [atI_nat, List.getD_eq_getElem?_getD, List.getElem?_eq_getElem hj]; rfl
  have := hm j hj
  rw [ej] at this
  rcases Bef.total (vP l[j]) (vP (atI l (i : Int))) with h | h | h
  · exact absurd h this
  · exact absurd (by rw [h] at hv; exact hv) nd.1
  · exact h
theorem told_rows : ∀ {l : List Pt} {L : List P}, (∀ p ∈ l, 0 < p.d) → OkL L → l.map vP = vs L → l.flatMap Mir.toldPt = Kzq1.written L
  | [], [], _, _, _ => rfl
  | [], _ :: _, _, _, h => by simp [vs] at h
  | _ :: _, [], _, _, h => by simp [vs] at h
  | p :: l, z :: L, h1, h2, h => by
    simp only [vs, List.map_cons, List.cons.injEq] at h
    have := told_rows (l := l) (L := L) (fun p hp => h1 p (by simp [hp])) (fun z hz => h2 z (by simp [hz])) h.2
    unfold Kzq1.written at this ⊢
    rw [List.flatMap_cons, List.flatMap_cons, this, toldPt_ok (h1 p (by simp)) (h2 z (by simp)) h.1]
theorem toldPart_rel {q : Mir.Part} {s : Kzq2.Part} (r : RelP q s) : Mir.toldPart q = ((s.l.length : Nat) : Int) :: (Kzq1.written s.l ++ Kzq2.writtenMove s.m) := by
  have rb := (rotL_rot q.1 (Mir.firstTo q.1 q.1.length))
  have e : (Mir.begun q.1).map vP = vs s.l := by
    refine begun_uniq ((rb.map vP).symm.trans r.rot) (begun_ok r.g) r.beg ?_
    exact ((rb.map vP).perm.nodup_iff).1 (r.g.t3.nodup r.g.len')
  have h1 := told_rows (l := Mir.begun q.1) (L := s.l) (fun p hp => (r.g.nm p (rb.mem.2 hp)).pos) r.pc.ok e
  have h2 : q.1.length = s.l.length := by have := r.rot.length; simpa [vs] using this
  unfold Mir.toldPart Kzq2.writtenMove
  rw [h1, h2, toldPt_ok r.mv.nm.pos r.mv.ok r.mv.at_, r.mv.h]
  simp
theorem told_rel {c : List Mir.Part} {S : List Kzq2.Part} (R : Rels c S) : Mir.told c = (Kzq2.tellCut S).value :: (Kzq2.tellCut S).nums := by
  have e : c.map Mir.toldPart = S.map fun s => ((s.l.length : Nat) : Int) :: (Kzq1.written s.l ++ Kzq2.writtenMove s.m) := by
    apply List.ext_getElem
    · simp [R.len]
    · intro i h1 h2
      simp only [List.length_map] at h1 h2
      simp only [List.getElem_map]
      have := toldPart_rel (R.at_ i h1)
      have k1 : pAt c i = c[i] := by unfold pAt; rw [List.getD_eq_getElem?_getD, List.getElem?_eq_getElem h1]; rfl
      have k2 : sAt S i = S[i] := by unfold sAt; rw [List.getD_eq_getElem?_getD, List.getElem?_eq_getElem h2]; rfl
      rw [k1, k2] at this
      exact this
  unfold Mir.told Kzq2.tellCut Kzq2.writtenCut
  simp only
  rw [R.len, List.flatMap_def, e, ← List.flatMap_def]
/-! ### what joining may come to is told in small numbers -/
structure Fit (c : List Mir.Part) : Prop where
  n : c.length ≤ 160
  g : ∀ q ∈ c, Good q.1 ∧ (∀ p ∈ q.1, Y.PtS 8999 p) ∧ Y.PtS 8999 q.2.2 ∧ q.2.2.d ≠ 0
  m : (c.map fun q => q.1.length).sum ≤ 20000
theorem Fit.ok {c : List Mir.Part} (h : Fit c) : Y.PartsOk c := ⟨h.n, h.m, fun q hq => by
  obtain ⟨h1, h2, h3, h4⟩ := h.g q hq
  exact ⟨h1.len, fun p hp => ⟨h2 p hp, by have := (h1.nm p hp).pos; omega⟩, h3, h4⟩⟩
theorem sum_set {l : List Nat} {i x : Nat} (h : i < l.length) : (l.set i x).sum + l.getD i 0 = l.sum + x := by
  induction l generalizing i with
  | nil => simp at h
  | cons a l ih =>
    cases i with
    | zero => simp; omega
    | succ i => have := ih (i := i) (by simp at h; omega); simp at this ⊢; omega
theorem sum_erase {l : List Nat} {i : Nat} (h : i < l.length) : (l.eraseIdx i).sum + l.getD i 0 = l.sum := by
  induction l generalizing i with
  | nil => simp at h
  | cons a l ih =>
    cases i with
    | zero => simp; omega
    | succ i => have := ih (i := i) (by simp at h; omega); simp at this ⊢; omega
theorem Fit.step {c : List Mir.Part} (h : Fit c) {p k : Nat} (hp : p < c.length) (hk : k < c.length) (hne : k ≠ p) (hpos : 0 < (Mir.bothJoined (pAt c p) (pAt c k)).length) : Fit (Mir.joinWith c p k) := by
  have mp := Y.pAt_mem hp
  have mk := Y.pAt_mem hk
  obtain ⟨gp, sp, _, _⟩ := h.g _ mp
  obtain ⟨gk, sk, _, _⟩ := h.g _ mk
  have e : Mir.bothJoined (pAt c p) (pAt c k) = Mir.glued (pAt c p).1 (pAt c k).1 := by
    unfold Mir.bothJoined at hpos ⊢
    by_cases z : (pAt c p).2 = (pAt c k).2
    · rw [if_pos z]
    · rw [if_neg z] at hpos; simp at hpos
  rcases glued_made gp gk with ⟨z, _⟩ | ⟨g, _, mm, ll⟩
  · rw [e, z] at hpos; simp at hpos
  rw [← e] at g mm ll
  have hlo : min p k < c.length := by omega
  have hhi : max p k < c.length := by omega
  have mlo := Y.pAt_mem hlo
  refine ⟨?_, fun q hq => ?_, ?_⟩
  · rw [Y.joinWith_len hp hk]; have := h.n; omega
  · unfold Mir.joinWith at hq
    have hq := List.mem_of_mem_eraseIdx hq
    rcases List.mem_or_eq_of_mem_set hq with hq | hq
    · exact h.g q hq
    · subst hq
      obtain ⟨_, _, w1, w2⟩ := h.g _ mlo
      exact ⟨g, fun x hx => (mm x hx).elim (sp x) (sk x), w1, w2⟩
  · unfold Mir.joinWith
    rw [Y.eraseIdx_map, List.map_set]
    have key : ∀ (L : List Nat) (x : Nat), p < L.length → k < L.length → x + 2 ≤ L.getD p 0 + L.getD k 0 → ((L.set (min p k) x).eraseIdx (max p k)).sum ≤ L.sum := fun L x h1 h2 h3 => by
      have a1 := sum_set (l := L) (i := min p k) (x := x) (by omega)
      have a2 := sum_erase (l := L.set (min p k) x) (i := max p k) (by simp; omega)
      have a3 : (L.set (min p k) x).getD (max p k) 0 = L.getD (max p k) 0 := by
        rw [List.getD_eq_getElem?_getD, List.getElem?_set_ne (by omega), List.getD_eq_getElem?_getD]
      rw [a3] at a2
      rcases Nat.lt_or_ge p k with z | z
      · rw [show min p k = p by omega] at *
        rw [show max p k = k by omega] at *
        omega
      · rw [show min p k = k by omega] at *
        rw [show max p k = p by omega] at *
        omega
    refine Nat.le_trans (key _ _ (by simpa using hp) (by simpa using hk) ?_) h.m
    have g0 : ∀ i, i < c.length → (c.map fun q => q.1.length).getD i 0 = (pAt c i).1.length := fun i hi => by
      unfold pAt
      rw [List.getD_eq_getElem?_getD, List.getD_eq_getElem?_getD, List.getElem?_map, List.getElem?_eq_getElem hi]; rfl
    rw [g0 p hp, g0 k hk]
    exact ll
theorem Fit.reach {c c' : List Mir.Part} (h : Fit c) (r : Y.Reach c c') : Fit c' := by
  induction r with
  | refl => exact h
  | step _ hp hk hne hpos ih => exact ih.step hp hk hne hpos
end Geo
end

section
set_option linter.all false
set_option maxRecDepth 10000
/-! Cuttings read. -/
namespace Geo
open Mir (Pt atI rotL inner pAt)
open Kzq1 (Q P)
def frOf (n d : Int) : Option Mir.Fr := if d < 1 ∨ Mir.cf n d ≠ 1 then none else some (n, d)
theorem fr_rel (n d : Int) : (frOf n d = none ∧ Kzq1.readQ n d = none) ∨ (frOf n d = some (n, d) ∧ Kzq1.readQ n d = some ⟨n, d.toNat⟩ ∧ Ok ⟨n, d.toNat⟩ ∧ 1 ≤ d ∧ val ⟨n, d.toNat⟩ = (n : Rat) / d) := by
  unfold frOf Kzq1.readQ
  by_cases h : d < 1
  · rw [if_pos (.inl h), if_pos h]; exact .inl ⟨rfl, rfl⟩
  · have td : (d.toNat : Int) = d := Int.toNat_of_nonneg (by omega)
    have ta : d.toNat = d.natAbs := by omega
    have e : Mir.cf n d = 1 ↔ Kzq1.okQ ⟨n, d.toNat⟩ = true := by
      rw [okQ_iff]
      unfold Mir.cf
      constructor
      · intro z
        refine ⟨show 1 ≤ d.toNat by omega, ?_⟩
        show Nat.gcd n.natAbs d.toNat = 1
        rw [ta]
        exact_mod_cast z
      · intro z
        have := z.red
        simp only at this
        rw [ta] at this
        exact_mod_cast this
    rw [if_neg h]
    by_cases k : Mir.cf n d = 1
    · rw [if_neg (by rintro (z | z); exact h z; exact z k), if_pos (e.1 k)]
      refine .inr ⟨rfl, rfl, (okQ_iff _).1 (e.1 k), by omega, ?_⟩
      have id2 : ((d.toNat : Nat) : Rat) = (d : Rat) := by rw [← Rat.intCast_natCast, td]
      simp only [val]
      rw [id2]
    · rw [if_pos (.inr k), if_neg (fun z => k (e.2 z))]; exact .inl ⟨rfl, rfl⟩
def ptOf (a b c e : Int) : Option Pt := match frOf a b, frOf c e with
  | some r, some u => some (Mir.pointAt r u)
  | _, _ => none
theorem pt_rel (a b c e : Int) : (ptOf a b c e = none ∧ (Kzq1.readQ a b = none ∨ Kzq1.readQ c e = none)) ∨ (∃ p x y, ptOf a b c e = some p ∧ Kzq1.readQ a b = some x ∧ Kzq1.readQ c e = some y ∧ Nm p ∧ OkP ⟨x, y⟩ ∧ vP p = toV ⟨x, y⟩) := by
  unfold ptOf
  rcases fr_rel a b with ⟨h1, h2⟩ | ⟨h1, h2, h3, h4, h5⟩
  · rw [h1]; exact .inl ⟨rfl, .inl h2⟩
  · rcases fr_rel c e with ⟨k1, k2⟩ | ⟨k1, k2, k3, k4, k5⟩
    · rw [h1, k1]; exact .inl ⟨rfl, .inr k2⟩
    · rw [h1, k1]
      have hd : 0 < b * e := Int.mul_pos (by omega) (by omega)
      have p := point_ok (x := a * e) (y := c * b) hd
      refine .inr ⟨_, _, _, rfl, h2, k2, p.1, ⟨h3, k3⟩, ?_⟩
      show vP (Mir.point (a * e) (c * b) (b * e)) = _
      rw [p.2]
      have n1 := int_ne (show 0 < b by omega)
      have n2 := int_ne (show 0 < e by omega)
      simp only [toV]
      rw [h5, k5]
      ext <;> simp only <;> push_cast <;> grind
theorem allOf_front {α : Type} (f : Nat → Option α) : ∀ n, Mir.allOf f (n + 1) = match f 0, Mir.allOf (fun k => f (k + 1)) n with
    | some a, some l => some (a :: l)
    | _, _ => none
  | 0 => by
    simp only [Mir.allOf]
    cases f 0 <;> rfl
  | n + 1 => by
    rw [Mir.allOf, allOf_front f n]
    rw [Mir.allOf]
    cases f 0 with
    | none => cases f (n + 1) <;> rfl
    | some a =>
      cases Mir.allOf (fun k => f (k + 1)) n with
      | none => cases f (n + 1) <;> rfl
      | some l => cases f (n + 1) <;> rfl
theorem readPt_of (ns : List Int) (i : Nat) : Mir.readPt ns i = ptOf (ns.getD i 0) (ns.getD (i + 1) 0) (ns.getD (i + 2) 0) (ns.getD (i + 3) 0) := rfl
theorem four {ns : List Int} {i : Nat} (h : i + 4 ≤ ns.length) : ns.drop i = ns.getD i 0 :: ns.getD (i + 1) 0 :: ns.getD (i + 2) 0 :: ns.getD (i + 3) 0 :: ns.drop (i + 4) := by
  have g : ∀ {j}, j < ns.length → ns.drop j = ns.getD j 0 :: ns.drop (j + 1) := fun {j} hj => by
    rw [List.drop_eq_getElem_cons hj, List.getD_eq_getElem?_getD, List.getElem?_eq_getElem hj]; rfl
  rw [g (by omega), g (j := i + 1) (by omega), g (j := i + 2) (by omega), g (j := i + 3) (by omega)]
theorem pts_rel {ns : List Int} (hs : ∀ n ∈ ns, Y.Sz 256 n) : ∀ (c s : Nat), s + 4 * c ≤ ns.length →
    (Mir.allOf (fun k => Mir.readPt ns (s + 4 * k)) c = none ∧ Kzq1.readPoints ((ns.drop s).take (4 * c)) = none) ∨
    ∃ l L, Mir.allOf (fun k => Mir.readPt ns (s + 4 * k)) c = some l ∧ Kzq1.readPoints ((ns.drop s).take (4 * c)) = some L ∧ l.length = c ∧ (∀ p ∈ l, Nm p ∧ Y.PtS 512 p) ∧ OkL L ∧ l.map vP = vs L
  | 0, s, h => .inr ⟨[], [], rfl, by simp [Kzq1.readPoints], rfl, fun p hp => by simp at hp, fun p hp => by simp at hp, rfl⟩
  | c + 1, s, h => by
    have ih := pts_rel hs c (s + 4) (by omega)
    have ef : (fun k => Mir.readPt ns (s + 4 * (k + 1))) = fun k => Mir.readPt ns (s + 4 + 4 * k) := by
      funext k; congr 1; omega
    have ed : (ns.drop s).take (4 * (c + 1)) = ns.getD s 0 :: ns.getD (s + 1) 0 :: ns.getD (s + 2) 0 :: ns.getD (s + 3) 0 :: (ns.drop (s + 4)).take (4 * c) := by
      rw [four (by omega), show 4 * (c + 1) = 4 * c + 1 + 1 + 1 + 1 by omega]
      simp only [List.take_succ_cons]
    rw [allOf_front, ed, ef]
    simp only [Nat.mul_zero, Nat.add_zero, Kzq1.readPoints]
    rcases pt_rel (ns.getD s 0) (ns.getD (s + 1) 0) (ns.getD (s + 2) 0) (ns.getD (s + 3) 0) with ⟨h1, h2⟩ | ⟨p, x, y, h1, h2, h3, h4, h5, h6⟩
    · left
      rw [readPt_of, h1]
      refine ⟨rfl, ?_⟩
      rcases h2 with z | z
      · rw [z]
      · rw [z]; cases Kzq1.readQ (ns.getD s 0) (ns.getD (s + 1) 0) <;> rfl
    · have sz := (Y.readPt_ok (ns := ns) (i := s) (p := p) (by rw [readPt_of]; exact h1) hs (by omega)).1
      rw [readPt_of, h1, h2, h3]
      rcases ih with ⟨k1, k2⟩ | ⟨l, L, k1, k2, k3, k4, k5, k6⟩
      · rw [k1, k2]; exact .inl ⟨rfl, rfl⟩
      · rw [k1, k2]
        refine .inr ⟨p :: l, ⟨x, y⟩ :: L, rfl, rfl, by simp [k3], fun q hq => ?_, fun q hq => ?_, ?_⟩
        · rcases List.mem_cons.1 hq with e | e
          · subst e; exact ⟨h4, sz⟩
          · exact k4 q e
        · rcases List.mem_cons.1 hq with e | e
          · subst e; exact h5
          · exact k5 q e
        · simp only [vs, List.map_cons] at k6 ⊢; rw [h6, k6]
def sPart (c : Nat) (l : List Int) : Option Kzq2.Part := match Kzq1.readPiece (l.take (4 * c)), (l.drop (4 * c)).take 5 with
  | some p, [h, a, b, e, d] => match Kzq1.readQ a b, Kzq1.readQ e d with
    | some x, some y => if h = 0 ∨ h = 1 then some ⟨Kzq1.formed p, ⟨h == 1, ⟨x, y⟩⟩⟩ else none
    | _, _ => none
  | _, _ => none
theorem readCut_step (k : Nat) (n : Int) (l : List Int) : Kzq2.readCut (k + 1) (n :: l) = if n < 3 ∨ 40 < n ∨ l.length < 4 * n.toNat + 5 then none else match sPart n.toNat l, Kzq2.readCut k (l.drop (4 * n.toNat + 5)) with
    | some s, some r => some (s :: r)
    | _, _ => none := by
  rw [Kzq2.readCut]
  split
  · rfl
  · unfold sPart
    cases Kzq1.readPiece (l.take (4 * n.toNat)) with
    | none => rfl
    | some p =>
      rcases (l.drop (4 * n.toNat)).take 5 with _ | ⟨h, _ | ⟨a, _ | ⟨b, _ | ⟨e, _ | ⟨d, _ | ⟨z, r⟩⟩⟩⟩⟩⟩
      case cons.cons.cons.cons.cons.nil =>
        cases Kzq2.readCut k (l.drop (4 * n.toNat + 5)) with
        | none =>
          simp only
          cases Kzq1.readQ a b <;> cases Kzq1.readQ e d <;> simp only
          by_cases hh : h = 0 ∨ h = 1
          · simp only [if_pos hh]
          · simp only [if_neg hh]
        | some r =>
          simp only
          cases Kzq1.readQ a b <;> cases Kzq1.readQ e d <;> simp only
          by_cases hh : h = 0 ∨ h = 1
          · simp only [if_pos hh]
          · simp only [if_neg hh]
      all_goals rfl
theorem part_rel {n : Int} {l : List Int} {c : Nat} (hs : ∀ m ∈ n :: l, Y.Sz 256 m) (hl : 4 * c + 6 ≤ (n :: l).length) (h3 : 3 ≤ c) (h4 : c ≤ 40) :
    (Mir.readPart c ((n :: l).take (4 * c + 6)) = none ∧ sPart c l = none) ∨ ∃ q s, Mir.readPart c ((n :: l).take (4 * c + 6)) = some q ∧ sPart c l = some s ∧ RelP q s ∧ q.1.length ≤ 40 ∧ (∀ p ∈ q.1, Y.PtS 512 p) ∧ Y.PtS 512 q.2.2 := by
  obtain ⟨ns, en⟩ : ∃ ns, (n :: l).take (4 * c + 6) = ns := ⟨_, rfl⟩
  have ln : ns.length = 4 * c + 6 := by rw [← en, List.length_take]; omega
  have hs' : ∀ m ∈ ns, Y.Sz 256 m := fun m hm => hs m (by rw [← en] at hm; exact List.mem_of_mem_take hm)
  have ll : 4 * c + 5 ≤ l.length := by simp at hl; omega
  have e1 : (ns.drop 1).take (4 * c) = l.take (4 * c) := by
    rw [← en, show 4 * c + 6 = (4 * c + 5) + 1 by omega, List.take_succ_cons, List.drop_succ_cons, List.drop_zero, List.take_take]
    congr 1; omega
  have gd : ∀ i, i < 4 * c + 5 → ns.getD (i + 1) 0 = l.getD i 0 := fun i hi => by
    rw [← en, List.getD_eq_getElem?_getD, List.getElem?_take, if_pos (by omega), List.getElem?_cons_succ, List.getD_eq_getElem?_getD]
  have e2 : (l.drop (4 * c)).take 5 = [ns.getD (4 * c + 1) 0, ns.getD (4 * c + 2) 0, ns.getD (4 * c + 3) 0, ns.getD (4 * c + 4) 0, ns.getD (4 * c + 5) 0] := by
    have g : ∀ {j}, j < l.length → l.drop j = l.getD j 0 :: l.drop (j + 1) := fun {j} hj => by
      rw [List.drop_eq_getElem_cons hj, List.getD_eq_getElem?_getD, List.getElem?_eq_getElem hj]; rfl
    rw [g (by omega), g (j := 4 * c + 1) (by omega), g (j := 4 * c + 2) (by omega), g (j := 4 * c + 3) (by omega), g (j := 4 * c + 4) (by omega)]
    rw [gd (4 * c) (by omega), gd (4 * c + 1) (by omega), gd (4 * c + 2) (by omega), gd (4 * c + 3) (by omega), gd (4 * c + 4) (by omega)]
    simp
  rw [en]
  unfold Mir.readPart sPart
  rw [e2, ← e1]
  unfold Kzq1.readPiece
  have P0 := pts_rel hs' c 1 (by omega)
  rcases P0 with ⟨k1, k2⟩ | ⟨pl, L, k1, k2, k3, k4, k5, k6⟩
  · rw [k1, k2]; exact .inl ⟨rfl, rfl⟩
  · rw [k1, k2]
    simp only
    have lL : L.length = c := by have := congrArg List.length k6; simp [vs] at this; omega
    have pi := piece_iff (l := pl) (fun p hp => (k4 p hp).1) (by omega)
    have ci := convex_iff k5
    rw [k6] at pi
    by_cases cv : Kzq1.convex L = true
    · have t3 := (ci.1 cv).2
      have ip := pi.2 t3
      rw [if_pos (show L.length ≤ 40 ∧ Kzq1.convex L = true from ⟨by omega, cv⟩)]
      simp only
      rw [readPt_of]
      rcases pt_rel (ns.getD (4 * c + 2) 0) (ns.getD (4 * c + 2 + 1) 0) (ns.getD (4 * c + 2 + 2) 0) (ns.getD (4 * c + 2 + 3) 0) with ⟨h1, h2⟩ | ⟨p, x, y, h1, h2, h3', h4', h5, h6⟩
      · left
        rw [h1]
        constructor
        · split <;> rfl
        · rcases h2 with z | z
          · rw [show 4 * c + 3 = 4 * c + 2 + 1 by omega, z]
          · rw [show 4 * c + 4 = 4 * c + 2 + 2 by omega, show 4 * c + 5 = 4 * c + 2 + 3 by omega, z]
            cases Kzq1.readQ (ns.getD (4 * c + 2) 0) (ns.getD (4 * c + 3) 0) <;> rfl
      · have sz := (Y.readPt_ok (ns := ns) (i := 4 * c + 2) (p := p) (by rw [readPt_of]; exact h1) hs' (by omega)).1
        rw [h1, show 4 * c + 3 = 4 * c + 2 + 1 by omega, show 4 * c + 4 = 4 * c + 2 + 2 by omega, show 4 * c + 5 = 4 * c + 2 + 3 by omega, h2, h3']
        simp only
        obtain ⟨hh, eh⟩ : ∃ hh, ns.getD (4 * c + 1) 0 = hh := ⟨_, rfl⟩
        rw [eh]
        by_cases hb : hh = 0 ∨ hh = 1
        · rw [if_pos hb, if_neg (show ¬ (hh < 0 ∨ 1 < hh ∨ Mir.isPiece pl = false) by rw [ip]; simp; omega)]
          have pc := (convex_pc k5).1 cv
          have b := pc.begun
          refine .inr ⟨_, _, rfl, rfl, ⟨⟨fun p hp => (k4 p hp).1, by rw [k6]; exact t3, show 3 ≤ pl.length by omega⟩, ?_, ?_, ?_, ⟨?_, h4', h5, h6⟩⟩, by show pl.length ≤ 40; omega, fun p hp => (k4 p hp).2, sz⟩
          · show Pc (Kzq1.formed L); rw [pc.formed]; exact b.2.2
          · show Rot (pl.map vP) (vs (Kzq1.formed L)); rw [pc.formed, k6]; exact b.1.map toV
          · show Begun (vs (Kzq1.formed L)); rw [pc.formed]; exact b.2.1
          · show hh = if (hh == 1) = true then 1 else 0
            rcases hb with z | z <;> subst z <;> rfl
        · rw [if_neg hb, if_pos (show hh < 0 ∨ 1 < hh ∨ Mir.isPiece pl = false by omega)]
          exact .inl ⟨rfl, rfl⟩
    · left
      have ip : Mir.isPiece pl = false := by
        cases e : Mir.isPiece pl with
        | false => rfl
        | true => exact absurd (ci.2 ⟨by omega, pi.1 e⟩) cv
      rw [if_pos (show ns.getD (4 * c + 1) 0 < 0 ∨ 1 < ns.getD (4 * c + 1) 0 ∨ Mir.isPiece pl = false from .inr (.inr ip)), if_neg (show ¬ (L.length ≤ 40 ∧ Kzq1.convex L = true) from fun z => cv z.2)]
      exact ⟨rfl, rfl⟩
theorem Rels.cons {q : Mir.Part} {s : Kzq2.Part} {c : List Mir.Part} {S : List Kzq2.Part} (h : RelP q s) (R : Rels c S) : Rels (q :: c) (s :: S) := by
  refine ⟨by simp [R.len], fun i hi => ?_⟩
  cases i with
  | zero => exact h
  | succ i => exact R.at_ i (by simp at hi; omega)
theorem all_rel : ∀ (k : Nat) {ns : List Int}, ns.length ≤ k → (∀ m ∈ ns, Y.Sz 256 m) →
    (Mir.readAll k ns = none ∧ Kzq2.readCut k ns = none) ∨ ∃ c S, Mir.readAll k ns = some c ∧ Kzq2.readCut k ns = some S ∧ Rels c S ∧ ∀ q ∈ c, q.1.length ≤ 40 ∧ Good q.1 ∧ (∀ p ∈ q.1, Y.PtS 512 p) ∧ Y.PtS 512 q.2.2 ∧ q.2.2.d ≠ 0
  | k, [], _, _ => .inr ⟨[], [], by cases k <;> rfl, by cases k <;> rfl, ⟨rfl, fun i hi => by simp at hi⟩, fun q hq => by simp at hq⟩
  | 0, n :: l, h, _ => by simp at h
  | k + 1, n :: l, h, hs => by
    rw [Mir.readAll, readCut_step]
    unfold Mir.partLen
    simp only [List.getD_cons_zero]
    by_cases hc : n < 3 ∨ 40 < n ∨ l.length < 4 * n.toNat + 5
    · rw [if_pos hc, if_pos (by simp only [List.length_cons]; omega)]
      exact .inl ⟨rfl, rfl⟩
    · rw [if_neg hc, if_neg (by simp only [List.length_cons]; omega)]
      simp only
      have hl : 4 * n.toNat + 6 ≤ (n :: l).length := by simp; omega
      have ed : (n :: l).drop (4 * n.toNat + 6) = l.drop (4 * n.toNat + 5) := by
        rw [show 4 * n.toNat + 6 = (4 * n.toNat + 5) + 1 by omega, List.drop_succ_cons]
      rw [ed]
      have ih := all_rel k (ns := l.drop (4 * n.toNat + 5)) (by simp at h ⊢; omega) (fun m hm => hs m (by simp [List.mem_of_mem_drop hm]))
      rcases part_rel hs hl (by omega) (by omega) with ⟨h1, h2⟩ | ⟨q, s, h1, h2, h3, h4, h5, h6⟩
      · rw [h1, h2]; exact .inl ⟨rfl, rfl⟩
      · rw [h1, h2]
        rcases ih with ⟨k1, k2⟩ | ⟨c, S, k1, k2, k3, k4⟩
        · rw [k1, k2]; exact .inl ⟨rfl, rfl⟩
        · rw [k1, k2]
          refine .inr ⟨q :: c, s :: S, rfl, rfl, k3.cons h3, fun x hx => ?_⟩
          rcases List.mem_cons.1 hx with e | e
          · subst e; exact ⟨h4, h3.g, h5, h6, by have := h3.mv.nm.pos; omega⟩
          · exact k4 x e
theorem read_fit {c : List Mir.Part} (hl : c.length ≤ 160) (h : ∀ q ∈ c, q.1.length ≤ 40 ∧ Good q.1 ∧ (∀ p ∈ q.1, Y.PtS 512 p) ∧ Y.PtS 512 q.2.2 ∧ q.2.2.d ≠ 0) : Fit c := by
  refine ⟨hl, fun q hq => ?_, ?_⟩
  · obtain ⟨h1, h2, h3, h4, h5⟩ := h q hq
    exact ⟨h2, fun p hp => (h3 p hp).mono (by decide), h4.mono (by decide), h5⟩
  · have key : ∀ c : List Mir.Part, (∀ q ∈ c, q.1.length ≤ 40) → (c.map fun q => q.1.length).sum ≤ 40 * c.length := fun c => by
      induction c with
      | nil => intro _; simp
      | cons q c ih =>
        intro h
        have := ih (fun q hq => h q (by simp [hq]))
        have := h q (by simp)
        simp at *; omega
    have := key c (fun q hq => (h q hq).1)
    omega
/-- the whole: what's answered, from what's read -/
theorem fewer_answer {ns : List Int} (hs : ∀ m ∈ ns, Y.Sz 256 m) : PyKzq3.fewer ns = match Mir.readAll ns.length ns with
    | none => [-22]
    | some c => if 160 < c.length then [-28] else Mir.told (Mir.joined c) := by
  have e : PyKzq3.fewer ns = (Kzq3.answer (.fewer ns)).value :: (Kzq3.answer (.fewer ns)).nums := rfl
  rw [e]
  unfold Kzq3.answer Kzq2.withCut
  simp only
  rcases all_rel ns.length (Nat.le_refl _) hs with ⟨h1, h2⟩ | ⟨c, S, h1, h2, R, _⟩
  · rw [h1, h2]; rfl
  · rw [h1, h2]
    simp only
    have := R.len
    by_cases k : 160 < c.length
    · rw [if_pos k, if_pos (by unfold Kzq2.mostParts; omega)]; rfl
    · rw [if_neg k, if_neg (by unfold Kzq2.mostParts; omega)]
      exact (told_rel (fewer_rel R)).symm
theorem fewer_fits {ns : List Int} (hs : ∀ m ∈ ns, Y.Sz 256 m) {c : List Mir.Part} (h : Mir.readAll ns.length ns = some c) (hl : ¬ 160 < c.length) : ∀ c', Y.Reach c c' → Y.PartsOk c' := by
  rcases all_rel ns.length (Nat.le_refl _) hs with ⟨h1, h2⟩ | ⟨c2, S, h1, h2, R, k⟩
  · rw [h1] at h; cases h
  · rw [h1] at h
    cases h
    exact fun c' r => ((read_fit (by omega) k).reach r).ok
end Geo
end

section
namespace Mir
/-! Cuttings told: how many parts are slid and turned; how great each is. -/
/-- what is answered to a cutting of numbers: F's word, where it is read and has not too many parts -/
def ofCut (F : List Part → List Int) (ns : List Int) : List Int := match readAll ns.length ns with
  | none => [-22]
  | some c => if 160 < c.length then [-28] else F c
def turnedOf (c : List Part) : Int := (c.map fun q => q.2.1).sum
def slidOf (c : List Part) : List Int := [(c.length : Int) - turnedOf c, turnedOf c]
def belowTo (l : List Pt) (n : Nat) : Int := (l.take n).foldl (fun b p => b * p.d) 1
def belowOf (l : List Pt) : Int := belowTo l l.length
def sideSize (l : List Pt) (k : Nat) : Int := ((atI l ((k : Int) - 1)).x * (atI l (k : Int)).y - (atI l ((k : Int) - 1)).y * (atI l (k : Int)).x) * (belowOf l).fdiv ((atI l ((k : Int) - 1)).d * (atI l (k : Int)).d)
def aboveTo (l : List Pt) (n : Nat) : Int := (List.range n).foldl (fun s k => s + sideSize l k) 0
def doubleSize (l : List Pt) : Fr := (aboveTo l l.length, belowOf l)
def sizeOf (l : List Pt) : Fr := ratio (aboveTo l l.length) (2 * belowOf l)
def toldSizes (c : List Part) : List Int := (c.length : Int) :: c.flatMap fun q => toldFr (sizeOf q.1)
end Mir
end

section
set_option linter.all false
set_option maxRecDepth 10000
/-! How great a piece is: the program's sum over its sides. -/
namespace Geo
open Mir (Pt atI rotL inner)
/-- the product of what's below -/
def pd (l : List Pt) : Int := l.foldr (fun p b => p.d * b) 1
theorem pd_cons (p : Pt) (l : List Pt) : pd (p :: l) = p.d * pd l := rfl
theorem pd_append (l m : List Pt) : pd (l ++ m) = pd l * pd m := by
  induction l with
  | nil => simp [pd]
  | cons p l ih => rw [List.cons_append, pd_cons, pd_cons, ih, Int.mul_assoc]
theorem pd_rot (l : List Pt) (k : Nat) : pd (rotL l k) = pd l := by
  rw [Mir.rotL, pd_append, Int.mul_comm, ← pd_append, List.take_append_drop]
theorem foldl_pd (l : List Pt) : ∀ b : Int, l.foldl (fun b p => b * p.d) b = b * pd l := by
  induction l with
  | nil => intro b; simp [pd]
  | cons p l ih => intro b; rw [List.foldl_cons, ih, pd_cons, Int.mul_assoc]
theorem below_pd (l : List Pt) : Mir.belowOf l = pd l := by
  rw [Mir.belowOf, Mir.belowTo, List.take_length, foldl_pd, Int.one_mul]
theorem pd_pos {l : List Pt} (h : ∀ p ∈ l, 0 < p.d) : 0 < pd l := by
  induction l with
  | nil => decide
  | cons p l ih => rw [pd_cons]; exact Int.mul_pos (h p (by simp)) (ih fun q hq => h q (by simp [hq]))
/-- the two ends of a side stand at two places -/
theorem side_dvd {l : List Pt} {k : Nat} (hk : k < l.length) (h2 : 2 ≤ l.length) : (atI l ((k : Int) - 1)).d * (atI l (k : Int)).d ∣ Mir.belowOf l := by
  rw [below_pd, ← pd_rot l k, rotL_row hk h2, pd_cons, pd_append]
  refine ⟨pd (inner (rotL l k)), ?_⟩
  rw [pd_cons, show pd [] = 1 from rfl, Int.mul_one]
  rw [Int.mul_comm (pd (inner (rotL l k))), ← Int.mul_assoc, Int.mul_comm (atI l (k : Int)).d]
/-- a side, from the one that leads to the first on -/
theorem sides_path {l : List Pt} : (List.range l.length).map (fun k : Nat => (atI l ((k : Int) - 1), atI l (k : Int))) = path (atI l (-1) :: l) := by
  have hm : ∀ k : Nat, k < l.length + 1 → (atI l (-1) :: l)[k]? = some (atI l ((k : Int) - 1)) := fun k hk => by
    match k with
    | 0 => simp
    | k + 1 =>
      have : ((k + 1 : Nat) : Int) - 1 = (k : Int) := by omega
      rw [this, atI_nat, List.getElem?_cons_succ, List.getD_eq_getElem?_getD, List.getElem?_eq_getElem (by omega)]; rfl
  apply List.ext_getElem?
  intro k
  by_cases hk : k < l.length
  · rw [path_at _ k (by simp; omega), List.getElem?_map, List.getElem?_range hk]
    have h1 := hm k (by omega)
    have h2 := hm (k + 1) (by omega)
    rw [List.getElem?_eq_getElem (by simp; omega)] at h1 h2
    have e1 : ((k + 1 : Nat) : Int) - 1 = (k : Int) := by omega
    rw [e1] at h2
    rw [Option.some.inj h1, Option.some.inj h2]; rfl
  · rw [List.getElem?_eq_none (by simp; omega), List.getElem?_eq_none (by rw [path_len]; simp; omega)]
theorem S_sides {l : List Pt} (h : 2 ≤ l.length) : S (l.map vP) = psum (((List.range l.length).map fun k : Nat => (atI l ((k : Int) - 1), atI l (k : Int))).map fun s => (vP s.1, vP s.2)) := by
  obtain ⟨x, r, t, e⟩ := row_ends h
  have r1 : Rot l (t :: x :: r) := ⟨x :: r, [t], by rw [e]; simp, by simp⟩
  rw [(r1.map vP).S, S, cyc_map, sides_path]
  congr 1
  rw [e, atI_rowL]
  rfl
theorem above_step (l : List Pt) (n : Nat) : Mir.aboveTo l (n + 1) = Mir.aboveTo l n + Mir.sideSize l n := by
  rw [Mir.aboveTo, List.range_succ, List.foldl_append]; rfl
theorem side_val {l : List Pt} {k : Nat} (hd : ∀ p ∈ l, 0 < p.d) (hk : k < l.length) (h2 : 2 ≤ l.length) :
    (Mir.sideSize l k : Rat) = (Mir.belowOf l : Rat) * cross (vP (atI l ((k : Int) - 1))) (vP (atI l (k : Int))) := by
  have row := rotL_row hk h2
  have mem : ∀ p, p ∈ rotL l k → 0 < p.d := fun p hp => hd p ((rotL_rot l k).mem.2 hp)
  have hp := mem (atI l ((k : Int) - 1)) (by rw [row]; simp)
  have hq := mem (atI l (k : Int)) (by rw [row]; simp)
  obtain ⟨m, hm⟩ := side_dvd hk h2
  unfold Mir.sideSize
  rw [hm, Int.fdiv_eq_ediv_of_nonneg _ (Int.le_of_lt (Int.mul_pos hp hq)), Int.mul_ediv_cancel_left _ (Int.ne_of_gt (Int.mul_pos hp hq))]
  have n1 := int_ne hp
  have n2 := int_ne hq
  simp only [cross, vP]
  push_cast
  grind
theorem above_val {l : List Pt} (hd : ∀ p ∈ l, 0 < p.d) (h2 : 2 ≤ l.length) : ∀ n, n ≤ l.length →
    (Mir.aboveTo l n : Rat) = (Mir.belowOf l : Rat) * psum (((List.range n).map fun k : Nat => (atI l ((k : Int) - 1), atI l (k : Int))).map fun s => (vP s.1, vP s.2))
  | 0, _ => by simp [Mir.aboveTo, psum]
  | n + 1, hn => by
    rw [above_step, List.range_succ, List.map_append, List.map_append, psum_append]
    push_cast
    rw [above_val hd h2 n (by omega), side_val hd (by omega) h2]
    simp only [List.map_cons, List.map_nil, psum_cons, psum_nil]
    grind
theorem size_val {l : List Pt} (hd : ∀ p ∈ l, 0 < p.d) (h2 : 2 ≤ l.length) : (Mir.aboveTo l l.length : Rat) / ((2 * Mir.belowOf l : Int) : Rat) = 1 / 2 * S (l.map vP) := by
  rw [above_val hd h2 _ (Nat.le_refl _), S_sides h2]
  have hb : 0 < Mir.belowOf l := by rw [below_pd]; exact pd_pos hd
  have := int_ne hb
  push_cast
  grind
end Geo
end

section
set_option Elab.async false
set_option linter.all false
set_option maxRecDepth 100000
set_option maxHeartbeats 2000000
/-! More of the walk: a list made longer by a tuple's items; a division by a number of any size; x *= i; [e for a, b in xs]; sum(xs). -/
namespace Y
open PySem PySem.Spec PyProof.Rows L2
open Evl (Ex)
/-- what's known of a cutting that was read -/
structure Cut (c : List Mir.Part) : Prop where
  n : c.length ≤ 160
  q : ∀ q ∈ c, q.1.length ≤ 40 ∧ 3 ≤ q.1.length ∧ (∀ p ∈ q.1, PtS 512 p ∧ 0 < p.d)
/-! ### what the model does -/
section
/-- xs.extend(t) for a tuple, whatever else its record bears -/
theorem extend_tup (l b : Addr) (xs ys : Array Value) (n m : Nat) (od : Option Addr) (sl : Array (Option Value)) (h1 : ¬(!xs.isEmpty && Builtin.List.listTooLong (xs.size + ys.size)) = true) (h2 : xs.size ≤ sizeLine) (h3 : xs.size + ys.size ≤ sizeLine + 1) :
    Meets (Builtin.«list.extend» ⟨[.ref l, .ref b], []⟩) (fun _ R s =>
      s.heap.get? l = some { cls := .type "list", data := .seq xs n } ∧
      s.heap.get? b = some { cls := .type "tuple", dict := od, data := .seq ys m, slots := sl } ∧
      R (.ok (.ret Value.none)) { s with heap := s.heap.update l (Obj.mapSeq fun z => z ++ ys) }) := by
  refine .of_wp fun prog w A R s h => ?_
  obtain ⟨hp, g, d, tk, os⟩ := s
  obtain ⟨hl, hb, h⟩ := h
  have f1 := PySem.AutoSeq1.idx_int
  have f2 := PySem.AutoSeq1.sub_tuple_tuple
  have f3 := PySem.AutoSeq1.sub_list_list
  have f4 := PySem.AutoSeq1.sub_tuple_list
  have f5 := PySem.AutoSeq1.sub_list_tuple
  have hz : (xs ++ ys).size ≤ sizeLine + 1 := by rw [Array.size_append]; exact h3
  wp_walk using (wpAny_updateSeq hl rfl (hz := h2) (_hz' := hz)), PySem.AutoSeq1.wpAny_loadPart' hl, PySem.AutoSeq1.wpAny_loadPart' hb
  exact ⟨_, rfl, h⟩
variable {X : Cx}
/-- .. of values -/
def rExtT (K : PySem.W.Frag) : V → List V → Hp → VK → Prop := fun x vs H Q => ∃ l b xs zs, x = .ref l ∧ vs = [.ref b] ∧ H l = some (.lst xs) ∧ SqT K H b zs ∧ xs.length + zs.length ≤ sizeLine ∧ Q .non (upd H l (.lst (xs ++ zs)))
theorem mt_extT : MtM X "list.extend" (rExtT X.K) := by
  intro pins s σ H x vs v us Q I rx rv h
  obtain ⟨l, b, xs, zs, rfl, rfl, hH, hB, hz, q⟩ := h
  cases rx
  obtain ⟨u, rfl, ru⟩ := rv.one
  cases ru
  obtain ⟨z, its, n, r, hl, e⟩ := I.lstM hH
  obtain ⟨its2, r2, ⟨o, e2, hc2, m2, hd2⟩, z2⟩ := I.tuple hB
  have hl2 := r2.length
  obtain ⟨oc, od, odat, osl⟩ := o
  cases hc2
  cases hd2
  have sz : its.toArray.size + its2.toArray.size ≤ sizeLine := by rw [List.size_toArray, List.size_toArray]; omega
  have short : ¬ (!its.toArray.isEmpty && Builtin.List.listTooLong (its.toArray.size + its2.toArray.size)) = true := by
    rw [notLongL sz, Bool.and_false]; exact Bool.false_ne_true
  refine call_meets F.slot_list_extend ⟨_, e, rfl⟩ F.entry_list_extend (F.args_list_extend_2 _ _) (extend_tup l b its.toArray its2.toArray n m2 od osl short (by rw [List.size_toArray]; omega) (by omega)) ⟨e, e2, ?_⟩
  refine ⟨.non, _, I.lset (its' := its ++ its2) hH e (by simp) (r.append r2) ?_, rfl, q⟩
  rw [List.length_append]; omega
/-- x *= i -/
theorem ip_mulW : PIp X .Mult (rI CMulW fun i j => .int (i * j)) := opI (g := fun i j => i * j) fun _ _ _ _ _ _ _ hc q => imul_int q hc.ok
/-- a floor division that may go by the library's own code: its room -/
theorem op_fdivP (ns : X.base.NoSeer) (ht : X.prog.given.tree = none) (hd : X.A.depth + Builtin.pylongFrames < recursionLimit) (hst : ∃ env l, X.stack = env :: l ∧ env.scope.isGenerator = false ∧ env.scope.isCoroutine = false ∧ env.builtins = builtinsNs ∧ env.globals = mainGlobals) :
    OpR X (binaryOp .FloorDiv) (rI (fun _ j => j ≠ 0) fun i j => .int (i.fdiv j)) := by
  intro pins s σ H x y v u Q I rx ry h
  obtain ⟨i, j, rfl, rfl, hc, q⟩ := h
  obtain ⟨t, rfl⟩ := rx
  obtain ⟨t', rfl⟩ := ry
  obtain ⟨env, l, h1, h2, h3, h4, h5⟩ := hst
  have see : SeerAt (model X.prog X.w) X.A s.heap := SeerAt.of (ns.keeps I.bk) ht (I.ok.frames.trans (congrArg some h1)) h2 h3 h4 h5
  exact floordiv_int hc ⟨.int (i.fdiv j), H, I.tok _, ⟨_, rfl⟩, q⟩ (.inr (PylongRoom.of I.nolimit hd see))
end
/-! ### the reading -/
section
variable {K : Frag} {G : Env} {ta tb te : TE} {tr : TA} {d : Dat} {B0 A0 B A : Hp} {σ : L2.St} {D : Ends} {tz : TS}
theorem v_divP {i j : Int} (ha : Val K ta G (.int i)) (hb : Val K tb G (.int j)) (h0 : j ≠ 0) : Val K (tOp (rI (fun _ j => j ≠ 0) fun i j => .int (i.fdiv j)) ta tb) G (.int (i.fdiv j)) :=
  v_I (f := fun i j => .int (i.fdiv j)) h0 ha hb fun _ => .int _
theorem q_aug {i : Nat} {f : Int → Int → Int} {a b : Int} (hx : G[i]? = some (some (.int a))) (hv : Val K te G (.int b)) (S : State K B0 A0 G σ B A) (hi : i < G.length)
    (k : ∀ B' A', Grow B A B' A' → State K B0 A0 (G.set i (some (.int (f a b)))) (σ.set i (some (.int (f a b)))) B' A' → tz D (σ.set i (some (.int (f a b)))) A') : tSeq (tAug i te (ipI f)) tz D σ A :=
  s_aug (D := { D with nx := tz D }) hx hv S hi k
theorem s_augW {i : Nat} {a b : Int} (hx : G[i]? = some (some (.int a))) (hv : Val K te G (.int b)) (h1 : Sz 400000 a) (h2 : Sz 400000 b) (S : State K B0 A0 G σ B A) (hi : i < G.length)
    (k : ∀ B' A', Grow B A B' A' → State K B0 A0 (G.set i (some (.int (a * b)))) (σ.set i (some (.int (a * b)))) B' A' → D.nx (σ.set i (some (.int (a * b)))) A') : tAug i te (rI CMulW fun i j => .int (i * j)) D σ A := by
  obtain ⟨v, e1, e2⟩ := S.h.2 i _ hx
  cases e2
  exact ⟨_, e1, hv σ B S.h A S.g.ba _ fun v B' A' g r => by
    cases r
    exact ⟨a, b, rfl, rfl, wide_mul h1.lt h2.lt (by decide) (by decide) (by decide), k B' A' g ((S.grow g).set (.int _) hi)⟩⟩
theorem v_sum {ns : List Int} (h : Val K ta G (.lst (ns.map Dat.int))) : Val K (tCB (rSum K) (tCons ta tNil)) G (.int ns.sum) :=
  v_cb (va_cons h va_nil) fun vs B A e r Q q => by
    cases r with
    | cons r1 r2 =>
      cases r2
      obtain ⟨a, rfl, h1⟩ := r1.ints
      exact ⟨a, ns, rfl, Evl.sq_of (e _ _ h1), q _ B A (Grow.refl e) (.int _)⟩
theorem holds_two {σ : L2.St} {B : Hp} (hs : Holds K G σ B) {i j : Nat} {x y : V} {d1 d2 : Dat} (hx : Rp K B x d1) (hy : Rp K B y d2) (hi : i < σ.length) (hj : j < σ.length) :
    Holds K ((G.set i (some d1)).set j (some d2)) (((wipe σ [i, j]).set i (some x)).set j (some y)) B := by
  have e : wipe σ [i, j] = (σ.set j none).set i none := rfl
  rw [e]
  have h := (((hs.drop (i := j) (o := none)).drop (i := i) (o := none)).set (i := i) hx (by simp; exact hi)).set (i := j) hy (by simp; exact hj)
  refine ⟨by simpa using h.1, fun p d hd => h.2 p d ?_⟩
  by_cases hpj : p = j
  · subst hpj
    rw [List.getElem?_set_self (by simp [hs.1.symm]; exact hj)] at hd ⊢
    exact hd
  · rw [List.getElem?_set_ne (Ne.symm hpj)] at hd ⊢
    by_cases hpi : p = i
    · subst hpi
      rw [List.getElem?_set_self (by simp [hs.1.symm]; exact hi)] at hd ⊢
      exact hd
    · rw [List.getElem?_set_ne (Ne.symm hpi)] at hd ⊢
      rw [List.getElem?_set_ne (Ne.symm hpi), List.getElem?_set_ne (Ne.symm hpj)]
      exact hd
theorem wipe_two (σ : L2.St) {i j : Nat} (hij : i ≠ j) (x y : V) : wipe (((wipe σ [i, j]).set i (some x)).set j (some y)) [i, j] = wipe σ [i, j] := by
  have e : ∀ τ : L2.St, wipe τ [i, j] = (τ.set j none).set i none := fun _ => rfl
  rw [e, e]
  apply List.ext_getElem?
  intro p
  by_cases hpj : p = j
  · subst hpj
    simp [List.getElem?_set]
  · by_cases hpi : p = i
    · subst hpi
      simp [List.getElem?_set, hij, Ne.symm hij]
    · simp [List.getElem?_set, Ne.symm hpj, Ne.symm hpi]
/-- [e for a, b in xs] -/
theorem v_lc2 {i j : Nat} {tl : TE} {α : Type} {cs : List α} {f1 f2 f : α → Dat} (hl : Val K tl G (.lst (cs.map fun c => .tup [f1 c, f2 c]))) (hi : i < G.length) (hj : j < G.length) (hij : i ≠ j) (hn : cs.length < 100000)
    (he : ∀ c ∈ cs, Val K te ((G.set i (some (f1 c))).set j (some (f2 c))) (f c)) : Val K (tLc (iList K tl) (gTup K 2 (gCons (gName i) (gCons (gName j) gNil))) tYes te [i, j]) G (.lst (cs.map f)) := fun σ B hs A e Q q =>
  hl σ B hs A e _ fun v B1 A1 g1 r1 => by
    cases r1 with
    | @lst a xs _ k1 k2 =>
      refine ⟨a, rfl, ⟨xs, Evl.sq_of (g1.ba _ _ k1)⟩, fun D hD => lc_list (K := K) (a := a) (xs := xs) (fun k H => Making K B1 A1 D ((cs.take k).map f) H) (Making.start g1.ba hD) (fun k H _ m => ?_) (fun k x H hx m => ?_) (fun H m => ?_)⟩
      · obtain ⟨B, ys, h1, _⟩ := m.ex
        exact Evl.sq_of (h1.ba _ _ (h1.bb _ _ k1))
      · obtain ⟨B, ys, h1, h2, h3, h4⟩ := m.ex
        obtain ⟨d, hd, rd⟩ := k2.get' hx
        obtain ⟨c, hc, rfl⟩ := of_map hd
        have hm : c ∈ cs := List.mem_of_getElem? hc
        refine g_unpack (rd.ex h1.bb) h1.ba fun u w ru rw' => ?_
        refine ⟨wipe_two σ hij u w, he c hm _ B (holds_two (hs.ex (g1.bb.trans h1.bb)) ru rw' (by rw [hs.1]; exact hi) (by rw [hs.1]; exact hj)) H h1.ba _ fun v B' A' g r => ?_⟩
        have z := Making.step hD h1 h2 h3 h4 g r
        refine ⟨ys, z.1, Evl.sz_lt (by rw [h4.len]; simp; omega), ?_⟩
        have e2 : (cs.take (k + 1)).map f = (cs.take k).map f ++ [f c] := by rw [List.take_succ, hc]; simp
        rw [e2]
        exact z.2
      · have hlen := k2.len
        rw [List.length_map] at hlen
        rw [hlen, List.take_length] at m
        obtain ⟨B, h1, h2⟩ := m.done hD
        exact q _ B H (g1.trans h1) h2
/-- xs.extend(e), e a tuple -/
theorem s_extT {j : Nat} {ds es : List Dat} (hv : Val K te G (.tup es)) (S : State K B0 A0 G σ B A) (m : Mut K A0 j σ B A ds) (hl : ds.length + es.length ≤ 100000)
    (k : ∀ B' A', Ex B B' → State K B0 A0 G σ B' A' → Mut K A0 j σ B' A' (ds ++ es) → D.nx σ A') : tDrop (tBM K "list" (rExtT K) (tVar j) (tCons te tNil)) D σ A := by
  obtain ⟨p, xs, h1, h2, h3, h4, h5⟩ := m.ex
  refine ⟨_, h1, .inl ⟨rfl, xs, Evl.sq_of h2⟩, hv σ B S.h A S.g.ba _ fun v B' A' g r => ?_⟩
  cases r with
  | @tup b zs _ r1 r2 =>
    have f := g.fresh h4 h2
    have S' := S.grow g
    refine ⟨p, b, xs, zs, rfl, rfl, f.2, Evl.ex_t g.ba r1, ?_, k B' _ g.bb ?_ ?_⟩
    · rw [h3.len, r2.len]; exact Evl.sz_of hl
    · exact ⟨⟨S'.g.aa.mut h5, S'.g.bb, S'.g.ba.mut f.1, S'.g.new⟩, S'.h, S'.len⟩
    · exact ⟨p, xs ++ zs, h1, upd_same, (h3.ex g.bb).append r2, f.1, h5⟩
end
end Y
end

section
set_option linter.all false
set_option maxRecDepth 10000
/-! What slid and sizes answer. -/
namespace Geo
open Mir (Pt atI)
open Kzq1 (Q P)
theorem ofCut_is {ns : List Int} (hs : ∀ m ∈ ns, Y.Sz 256 m) {f : List Kzq2.Part → Kzq1.Ans} {F : List Mir.Part → List Int} (h : ∀ c S, Rels c S → F c = (f S).value :: (f S).nums) :
    (Kzq2.withCut ns f).value :: (Kzq2.withCut ns f).nums = Mir.ofCut F ns := by
  unfold Kzq2.withCut Mir.ofCut
  rcases all_rel ns.length (Nat.le_refl _) hs with ⟨h1, h2⟩ | ⟨c, S, h1, h2, R, _⟩
  · rw [h1, h2]; rfl
  · rw [h1, h2]
    simp only
    have := R.len
    by_cases k : 160 < c.length
    · rw [if_pos k, if_pos (by unfold Kzq2.mostParts; omega)]; rfl
    · rw [if_neg k, if_neg (by unfold Kzq2.mostParts; omega)]
      exact (h c S R).symm
theorem rels_map {α : Type} {c : List Mir.Part} {S : List Kzq2.Part} (R : Rels c S) {f : Mir.Part → α} {g : Kzq2.Part → α} (h : ∀ q s, RelP q s → f q = g s) : c.map f = S.map g := by
  apply List.ext_getElem
  · simp [R.len]
  · intro i h1 h2
    simp at h1 h2
    rw [List.getElem_map, List.getElem_map]
    have := R.at_ i h1
    unfold Mir.pAt sAt at this
    simp only [List.getD_eq_getElem?_getD, List.getElem?_eq_getElem h1, List.getElem?_eq_getElem h2, Option.getD_some] at this
    exact h _ _ this
theorem turned_count (S : List Kzq2.Part) : (S.map fun s => if s.m.h = true then (1 : Int) else 0).sum = (S.length : Int) - ((S.filter fun p => !p.m.h).length : Nat) ∧ (S.filter fun p => !p.m.h).length ≤ S.length := by
  refine ⟨?_, List.length_filter_le _ _⟩
  induction S with
  | nil => rfl
  | cons s S ih =>
    rw [List.map_cons, List.sum_cons, ih, List.filter_cons]
    cases s.m.h <;> simp <;> omega
theorem slid_rel {c : List Mir.Part} {S : List Kzq2.Part} (R : Rels c S) : Mir.slidOf c = ((Kzq3.slid S : Nat) : Int) :: [((S.length - Kzq3.slid S : Nat) : Int)] := by
  have e : Mir.turnedOf c = (S.length : Int) - ((S.filter fun p => !p.m.h).length : Nat) := by
    rw [← (turned_count S).1, Mir.turnedOf, rels_map R (g := fun s => if s.m.h = true then (1 : Int) else 0) fun q s r => r.mv.h]
  have := (turned_count S).2
  have l := R.len
  unfold Mir.slidOf Kzq3.slid
  rw [e]
  congr 1
  · omega
  · congr 1; omega
theorem slid_answer {ns : List Int} (hs : ∀ m ∈ ns, Y.Sz 256 m) : PyKzq3.slid ns = Mir.ofCut Mir.slidOf ns := by
  have e : PyKzq3.slid ns = (Kzq3.answer (.slid ns)).value :: (Kzq3.answer (.slid ns)).nums := rfl
  rw [e]
  exact ofCut_is hs fun c S R => slid_rel R
theorem sizeOf_rel {q : Mir.Part} {s : Kzq2.Part} (r : RelP q s) : Mir.toldFr (Mir.sizeOf q.1) = Kzq1.writtenQ (Kzq1.size s.l) := by
  have hd : ∀ p ∈ q.1, 0 < p.d := fun p hp => (r.g.nm p hp).pos
  have h3 := r.g.len
  have so := size_ok r.pc.ok
  have hb : 0 < Mir.belowOf q.1 := by rw [below_pd]; exact pd_pos hd
  refine toldFr_ok (by omega) so.1 ?_
  rw [so.2, size_val hd (by omega), r.rot.S]
theorem sizes_rel {c : List Mir.Part} {S : List Kzq2.Part} (R : Rels c S) : Mir.toldSizes c = ((S.length : Nat) : Int) :: S.flatMap fun p => Kzq1.writtenQ (Kzq1.size p.l) := by
  unfold Mir.toldSizes
  rw [R.len, List.flatMap_def, List.flatMap_def, rels_map R fun q s r => sizeOf_rel r]
theorem sizes_answer {ns : List Int} (hs : ∀ m ∈ ns, Y.Sz 256 m) : PyKzq3.sizes ns = Mir.ofCut Mir.toldSizes ns := by
  have e : PyKzq3.sizes ns = (Kzq3.answer (.sizes ns)).value :: (Kzq3.answer (.sizes ns)).nums := rfl
  rw [e]
  exact ofCut_is hs fun c S R => sizes_rel R
theorem cut_of {ns : List Int} (hs : ∀ m ∈ ns, Y.Sz 256 m) {c : List Mir.Part} (h : Mir.readAll ns.length ns = some c) (hl : ¬ 160 < c.length) : Y.Cut c := by
  rcases all_rel ns.length (Nat.le_refl _) hs with ⟨h1, h2⟩ | ⟨c2, S, h1, h2, R, k⟩
  · rw [h1] at h; cases h
  · rw [h1] at h
    cases h
    exact ⟨by omega, fun q hq => by
      obtain ⟨k1, k2, k3, k4, k5⟩ := k q hq
      exact ⟨k1, k2.len, fun p hp => ⟨k3 p hp, (k2.nm p hp).pos⟩⟩⟩
end Geo
end

section
set_option Elab.async false
set_option linter.all false
set_option maxRecDepth 100000
/-! Bounds of what sizes reckons with; the room that a division of great numbers wants. -/
namespace Y
open PySem L2
open Mir (Pt)
theorem room_py {k : Nat} {A : Around} (r : Room k A) (h : 32 ≤ k := by decide) : A.depth + Builtin.pylongFrames < recursionLimit := by
  have := r.dp
  have e : Builtin.pylongFrames = 100 := rfl
  omega
theorem below_step {l : List Pt} {j : Nat} {p : Pt} (h : l[j]? = some p) : Mir.belowTo l (j + 1) = Mir.belowTo l j * p.d := by
  unfold Mir.belowTo
  rw [List.take_add_one, h, List.foldl_append]; rfl
theorem below_sz {l : List Pt} (h : ∀ p ∈ l, Sz 512 p.d) : ∀ j, Sz (512 * j + 1) (Mir.belowTo l j)
  | 0 => ⟨show (1 : Int).natAbs < 2 ^ 1 by decide⟩
  | j + 1 => by
    cases e : l[j]? with
    | none =>
      have : Mir.belowTo l (j + 1) = Mir.belowTo l j := by unfold Mir.belowTo; rw [List.take_add_one, e]; simp
      rw [this]
      exact (below_sz h j).mono (by omega)
    | some p =>
      rw [below_step e]
      exact (Sz.mul (below_sz h j) (h p (List.mem_of_getElem? e))).mono (by omega)
theorem fdiv_small {a b : Int} (h : 0 < b) : (a.fdiv b).natAbs ≤ a.natAbs := by
  rw [Int.fdiv_eq_ediv_of_nonneg a (Int.le_of_lt h)]
  exact Int.natAbs_ediv_le_natAbs a b
theorem flat_two {α β : Type} {f : α → List β} (l : List α) (h : ∀ a, (f a).length = 2) : (l.flatMap f).length = 2 * l.length := by
  induction l with
  | nil => rfl
  | cons a l ih => rw [List.flatMap_cons, List.length_append, h, ih, List.length_cons]; omega
end Y
end

section
set_option Elab.async false
set_option linter.all false
set_option maxRecDepth 100000
set_option maxHeartbeats 2000000
local macro_rules | `(tactic| get_elem_tactic_extensible) => `(tactic| first
  | assumption
  | exact Y.Sz.mono (by assumption) (by decide)
  | exact Y.Sz.mono (Y.PtS.x (by assumption)) (by decide)
  | exact Y.Sz.mono (Y.PtS.y (by assumption)) (by decide)
  | exact Y.Sz.mono (Y.PtS.d (by assumption)) (by decide)
  | (refine Y.Sz.mul' ?_ ?_ <;> get_elem_tactic_extensible)
  | (refine Y.Sz.add' ?_ ?_ (by decide) <;> get_elem_tactic_extensible)
  | (refine Y.Sz.sub' ?_ ?_ (by decide) <;> get_elem_tactic_extensible)
  | (refine Y.Sz.neg ?_ <;> get_elem_tactic_extensible))
namespace Y
open PySem PySem.Spec PyProof.Rows L2
open Evl (Ex)
open Mir (Pt Fr Mv Part)
def top (i : Nat) : Stmt := PySem.Challenge.pw_recutfigures_s04_slid.main.body.getD i (.Pass ⟨0, 0, 0, 0⟩)
abbrev s_common_factor : Stmt := top 1
abbrev s_point : Stmt := top 3
abbrev s_point_at : Stmt := top 4
abbrev s_line_through : Stmt := top 5
abbrev s_side_of : Stmt := top 6
abbrev s_is_piece : Stmt := top 8
abbrev s_check_count : Stmt := top 12
abbrev s_slid_and_turned : Stmt := top 13
abbrev s_read_fraction : Stmt := top 19
abbrev s_read_point : Stmt := top 20
abbrev s_part_end : Stmt := top 21
abbrev s_read_part : Stmt := top 22
abbrev s_read_cutting : Stmt := top 23
abbrev s_of_cutting : Stmt := top 27
abbrev s_slid : Stmt := top 28
/-- what the top has left of names that nobody binds, and constants -/
structure Txt (K : PySem.W.Frag) (mg : Str → Option Value) : Prop where
  len : mg "len" = none
  abs : mg "abs" = none
  min : mg "min" = none
  max : mg "max" = none
  range : mg "range" = none
  list : mg "list" = none
  sorted : mg "sorted" = none
  all : mg "all" = none
  set : mg "set" = none
  sum : mg "sum" = none
  c_MOST_PARTS : ∃ t, mg "MOST_PARTS" = some (.int 160 t)
  c_FEWEST_CORNERS : ∃ t, mg "FEWEST_CORNERS" = some (.int 3 t)
  c_MOST_CORNERS : ∃ t, mg "MOST_CORNERS" = some (.int 40 t)
  c_POINT_LENGTH : ∃ t, mg "POINT_LENGTH" = some (.int 4 t)
  c_NO_SUCH : ∃ t, mg "NO_SUCH" = some (.int (-22) t)
  c_TOO_MUCH : ∃ t, mg "TOO_MUCH" = some (.int (-28) t)

section
variable {P : Program} {w : World} {K : PySem.W.Frag} {mg : Str → Option Value} {base : Heap} {C_TooMuch : Addr} {C_NoCutting : Addr}

theorem sc_common_factor : FnScope ["a", "b"] ["a", "b"] (defScope s_common_factor) := ⟨rfl, rfl, rfl, by decide +kernel, rfl, by decide +kernel, by decide +kernel⟩
def sp_common_factor (K : PySem.W.Frag) : Sp := Fn K 2 fun ds d => ∃ a b : Int, ds = [.int a, .int b] ∧ d = .int (Mir.cf a b)
theorem vc_common_factor {G : Env} {ta tb : TE} {a b : Int} (ha : Val K ta G (.int a)) (hb : Val K tb G (.int b)) : Val K (tCall (sp_common_factor K) [] E0 (tCons ta (tCons tb tNil))) G (.int (Mir.cf a b)) := v_call (va_cons ha (va_cons hb va_nil)) rfl ⟨a, b, rfl, rfl⟩
theorem ok_common_factor {f : Addr} {fd : FuncData} (F : Def K mg "common_factor" s_common_factor ["a", "b"] f fd) (T : Txt K mg) : Has P w K mg base CX0 1 "common_factor" ["a", "b"] (sp_common_factor K) := by
  refine F.has (F.F.ok sc_common_factor (fun vs H Q E h => h.1) (fun cdv A outer s H vs Q E hr h => ⟨_, (pss_cons (ps_while PassesOwn.never (pt_cmpR op_ne (pv 1) pe_int (nomark _)) (pss_one (ps_par (i := 0) (j := 1) rfl sc_common_factor.nd rfl rfl (by decide) rfl rfl (pa_cons (pv 1) (pa_cons (pe_op op_modN (pv 0) (pv 1)) pa_nil)) (by rfl))))
  (pss_one (ps_ret (pe_callB call_abs (by rfl) T.abs (by decide +kernel) (pa_cons (pv 0) pa_nil))))), ?_⟩))
  obtain ⟨hn, B, ds, d, e, hr, ⟨a, b, rfl, rfl⟩, k⟩ := h
  have S := state_start e hr ["a", "b"]
  refine q_while (fun x : Int × Int => [some (.int x.1), some (.int x.2)]) (fun x => Int.gcd x.1 x.2 = Int.gcd a b) (fun x => x.2.natAbs) (fun x => !decide (x.2 = 0)) (a, b) S rfl ?_ ?_ ?_
  · intro x hx
    exact t_tst (v_neI (v_var rfl) v_int)
  · intro x σ B A hx hb S
    have h0 : x.2 ≠ 0 := by simpa using hb
    refine s_par (va_cons (v_var rfl) (va_cons (v_mod (v_var rfl) (v_var rfl) h0) va_nil)) S (by simp) (by simp) fun v u B' A' g S' => ?_
    exact ⟨B', (x.2, x.1.fmod x.2), S', (gcd_fmod _ _).trans hx, fmod_lt _ h0⟩
  · intro x σ B A hx hb S
    have h0 : x.2 = 0 := by simpa using hb
    refine s_ret (v_abs (v_var rfl)) S fun v B' A' g r => k v B' A' g ?_
    have : (x.1.natAbs : Int) = Mir.cf a b := by unfold Mir.cf; rw [← hx, h0]; simp
    rw [← this]; exact r

theorem sc_point : FnScope ["x", "y", "d", "by"] ["x", "y", "d"] (defScope s_point) := ⟨rfl, rfl, rfl, by decide +kernel, rfl, by decide +kernel, by decide +kernel⟩
def sp_point (K : PySem.W.Frag) : Sp := Fn K 3 fun ds r => ∃ x y d : Int, ds = [.int x, .int y, .int d] ∧ d ≠ 0 ∧ Sz 8999 d ∧ r = dP (Mir.point x y d)
theorem vc_point {G : Env} {ta tb tc : TE} {x y d : Int} (ha : Val K ta G (.int x)) (hb : Val K tb G (.int y)) (hc : Val K tc G (.int d)) (h0 : d ≠ 0) (h1 : Sz 8999 d) : Val K (tCall (sp_point K) [] E0 (tCons ta (tCons tb (tCons tc tNil)))) G (dP (Mir.point x y d)) :=
  v_call (va_cons ha (va_cons hb (va_cons hc va_nil))) rfl ⟨x, y, d, rfl, h0, h1, rfl⟩
theorem ok_point {f : Addr} {fd : FuncData} (F : Def K mg "point" s_point ["x", "y", "d"] f fd) (T : Txt K mg) (h_common_factor : Has P w K mg base CX0 1 "common_factor" ["a", "b"] (sp_common_factor K)) : Has P w K mg base CX0 2 "point" ["x", "y", "d"] (sp_point K) := by
  refine F.has (F.F.ok sc_point (fun vs H Q E h => h.1) (fun cdv A outer s H vs Q E hr h => ⟨_, (pss_cons (ps_set (i := 3) sc_point.nd rfl (Or.inl rfl) (h_common_factor.pe hr (by decide) rfl pass0 (pa_cons (h_common_factor.pe hr (by decide) rfl pass0 (pa_cons (pv 2) (pa_cons (pv 0) pa_nil))) (pa_cons (pv 1) pa_nil))))
  (pss_cons (ps_if (pt_cmpR op_lt (pv 2) pe_int (nomark _)) (pss_one (ps_set (i := 3) sc_point.nd rfl (Or.inl rfl) (pe_un un_neg (pv 3)))) pss_nil)
  (pss_one (ps_ret (pe_tup (pa_cons (pe_op op_fdivZ (pv 0) (pv 3)) (pa_cons (pe_op op_fdivZ (pv 1) (pv 3)) (pa_cons (pe_op op_fdivZ (pv 2) (pv 3)) pa_nil)))))))), ?_⟩))
  obtain ⟨hn, B, ds, d, e, hr, ⟨x, y, d, rfl, h0, h1, rfl⟩, k⟩ := h
  have S := state_start e hr ["x", "y", "d", "by"]
  have a0 : Mir.cf d x ≠ 0 := by unfold Mir.cf; rw [Int.gcd_comm]; exact cf_ne h0
  have a1 : Sz 8999 (Mir.cf d x) := by unfold Mir.cf; rw [Int.gcd_comm]; exact cf_sz h0 h1
  have b0 : Mir.cf (Mir.cf d x) y ≠ 0 := by unfold Mir.cf at a0 ⊢; rw [Int.gcd_comm]; exact cf_ne a0
  have b1 : Sz 8999 (Mir.cf (Mir.cf d x) y) := by unfold Mir.cf at a0 a1 ⊢; rw [Int.gcd_comm]; exact cf_sz a0 a1
  refine q_set (vc_common_factor (vc_common_factor (v_var rfl) (v_var rfl)) (v_var rfl)) S (by simp) fun v1 B1 A1 g1 S => ?_
  refine q_when (t_tst (v_lt (v_var rfl) v_int)) S (fun hc B2 A2 g2 S => ?_) (fun hc B2 A2 g2 S => ?_)
  · have hc : d < 0 := by simpa using hc
    refine s_set (v_neg (v_var rfl)) S (by simp) fun v3 B3 A3 g3 S => ?_
    refine s_ret (v_is (v_tup (va_cons (v_div (v_var rfl) (v_var rfl) (by omega) b1.neg9) (va_cons (v_div (v_var rfl) (v_var rfl) (by omega) b1.neg9) (va_cons (v_div (v_var rfl) (v_var rfl) (by omega) b1.neg9) va_nil))) (by simp)) ?_) S k
    simp only [Mir.point, dP, Mir.sgn, if_pos hc]
  · have hc : ¬ d < 0 := by simpa using hc
    refine s_ret (v_is (v_tup (va_cons (v_div (v_var rfl) (v_var rfl) b0 (b1.mono (by decide))) (va_cons (v_div (v_var rfl) (v_var rfl) b0 (b1.mono (by decide))) (va_cons (v_div (v_var rfl) (v_var rfl) b0 (b1.mono (by decide))) va_nil))) (by simp)) ?_) S k
    simp only [Mir.point, dP, Mir.sgn, if_neg hc]

theorem sc_point_at : FnScope ["right", "up"] ["right", "up"] (defScope s_point_at) := ⟨rfl, rfl, rfl, by decide +kernel, rfl, by decide +kernel, by decide +kernel⟩
def sp_point_at (K : PySem.W.Frag) : Sp := Fn K 2 fun ds res => ∃ (r : Fr) (u : Fr), ds = [(dF r), (dF u)] ∧ (Sz 4000 r.1) ∧ (Sz 4000 r.2) ∧ (Sz 4000 u.1) ∧ (Sz 4000 u.2) ∧ (r.2 ≠ 0) ∧ (u.2 ≠ 0) ∧ res = dP (Mir.pointAt r u)
theorem vc_point_at {G : Env} {t0 t1 : TE} {r : Fr} {u : Fr} (a0 : Val K t0 G ((dF r))) (a1 : Val K t1 G ((dF u))) (r1 : Sz 4000 r.1) (r2 : Sz 4000 r.2) (u1 : Sz 4000 u.1) (u2 : Sz 4000 u.2) (r0 : r.2 ≠ 0) (u0 : u.2 ≠ 0) : Val K (tCall (sp_point_at K) [] E0 (tCons t0 (tCons t1 tNil))) G (dP (Mir.pointAt r u)) := v_call (va_cons a0 (va_cons a1 va_nil)) rfl ⟨r, u, rfl, r1, r2, u1, u2, r0, u0, rfl⟩
theorem ok_point_at {f : Addr} {fd : FuncData} (F : Def K mg "point_at" s_point_at ["right", "up"] f fd) (T : Txt K mg) (h_point : Has P w K mg base CX0 2 "point" ["x", "y", "d"] (sp_point K)) : Has P w K mg base CX0 3 "point_at" ["right", "up"] (sp_point_at K) := by
  refine F.has (F.F.ok sc_point_at (fun vs H Q E h => h.1) (fun cdv A outer s H vs Q E hr h => ⟨_, (pss_one (ps_ret (h_point.pe hr (by decide) rfl pass0 (pa_cons (pe_op op_mulW (pe_ix ix_tup (pv 0) pe_int (fun _ _ => rfl)) (pe_ix ix_tup (pv 1) pe_int (fun _ _ => rfl))) (pa_cons (pe_op op_mulW (pe_ix ix_tup (pv 1) pe_int (fun _ _ => rfl)) (pe_ix ix_tup (pv 0) pe_int (fun _ _ => rfl))) (pa_cons (pe_op op_mulW (pe_ix ix_tup (pv 0) pe_int (fun _ _ => rfl)) (pe_ix ix_tup (pv 1) pe_int (fun _ _ => rfl))) pa_nil)))))), ?_⟩))
  obtain ⟨hn, B, ds, d, e, hr, ⟨r, u, rfl, r1, r2, u1, u2, r0, u0, rfl⟩, k⟩ := h
  have S := state_start e hr ["right", "up"]
  exact s_ret (vc_point (v_mul (v_ixT (j := 0) (v_var rfl) v_int rfl) (v_ixT (j := 1) (v_var rfl) v_int rfl) (by get_elem_tactic_extensible) (by get_elem_tactic_extensible)) (v_mul (v_ixT (j := 0) (v_var rfl) v_int rfl) (v_ixT (j := 1) (v_var rfl) v_int rfl) (by get_elem_tactic_extensible) (by get_elem_tactic_extensible)) (v_mul (v_ixT (j := 1) (v_var rfl) v_int rfl) (v_ixT (j := 1) (v_var rfl) v_int rfl) (by get_elem_tactic_extensible) (by get_elem_tactic_extensible)) (Int.mul_ne_zero r0 u0) ((Sz.mul r2 u2).mono (by decide))) S k

theorem sc_line_through : FnScope ["p", "q"] ["p", "q"] (defScope s_line_through) := ⟨rfl, rfl, rfl, by decide +kernel, rfl, by decide +kernel, by decide +kernel⟩
def sp_line_through (K : PySem.W.Frag) : Sp := Fn K 2 fun ds res => ∃ (p : Pt) (q : Pt), ds = [(dP p), (dP q)] ∧ (PtS 100000 p) ∧ (PtS 100000 q) ∧ res = dP (Mir.line p q)
theorem vc_line_through {G : Env} {t0 t1 : TE} {p : Pt} {q : Pt} (a0 : Val K t0 G ((dP p))) (a1 : Val K t1 G ((dP q))) (hp : PtS 100000 p) (hq : PtS 100000 q) : Val K (tCall (sp_line_through K) [] E0 (tCons t0 (tCons t1 tNil))) G (dP (Mir.line p q)) := v_call (va_cons a0 (va_cons a1 va_nil)) rfl ⟨p, q, rfl, hp, hq, rfl⟩
theorem ok_line_through {f : Addr} {fd : FuncData} (F : Def K mg "line_through" s_line_through ["p", "q"] f fd) (T : Txt K mg) : Has P w K mg base CX0 1 "line_through" ["p", "q"] (sp_line_through K) := by
  refine F.has (F.F.ok sc_line_through (fun vs H Q E h => h.1) (fun cdv A outer s H vs Q E hr h => ⟨_, (pss_one (ps_ret (pe_tup (pa_cons (pe_op op_sub (pe_op op_mulW (pe_ix ix_tup (pv 0) pe_int (fun _ _ => rfl)) (pe_ix ix_tup (pv 1) pe_int (fun _ _ => rfl))) (pe_op op_mulW (pe_ix ix_tup (pv 0) pe_int (fun _ _ => rfl)) (pe_ix ix_tup (pv 1) pe_int (fun _ _ => rfl)))) (pa_cons (pe_op op_sub (pe_op op_mulW (pe_ix ix_tup (pv 0) pe_int (fun _ _ => rfl)) (pe_ix ix_tup (pv 1) pe_int (fun _ _ => rfl))) (pe_op op_mulW (pe_ix ix_tup (pv 0) pe_int (fun _ _ => rfl)) (pe_ix ix_tup (pv 1) pe_int (fun _ _ => rfl)))) (pa_cons (pe_op op_sub (pe_op op_mulW (pe_ix ix_tup (pv 0) pe_int (fun _ _ => rfl)) (pe_ix ix_tup (pv 1) pe_int (fun _ _ => rfl))) (pe_op op_mulW (pe_ix ix_tup (pv 0) pe_int (fun _ _ => rfl)) (pe_ix ix_tup (pv 1) pe_int (fun _ _ => rfl)))) pa_nil)))))), ?_⟩))
  obtain ⟨hn, B, ds, d, e, hr, ⟨p, q, rfl, hp, hq, rfl⟩, k⟩ := h
  have S := state_start e hr ["p", "q"]
  exact s_ret (v_tup (va_cons (v_sub (v_mul (v_ixT (j := 1) (v_var rfl) v_int rfl) (v_ixT (j := 2) (v_var rfl) v_int rfl) (by get_elem_tactic_extensible) (by get_elem_tactic_extensible)) (v_mul (v_ixT (j := 2) (v_var rfl) v_int rfl) (v_ixT (j := 1) (v_var rfl) v_int rfl) (by get_elem_tactic_extensible) (by get_elem_tactic_extensible))) (va_cons (v_sub (v_mul (v_ixT (j := 2) (v_var rfl) v_int rfl) (v_ixT (j := 0) (v_var rfl) v_int rfl) (by get_elem_tactic_extensible) (by get_elem_tactic_extensible)) (v_mul (v_ixT (j := 0) (v_var rfl) v_int rfl) (v_ixT (j := 2) (v_var rfl) v_int rfl) (by get_elem_tactic_extensible) (by get_elem_tactic_extensible))) (va_cons (v_sub (v_mul (v_ixT (j := 0) (v_var rfl) v_int rfl) (v_ixT (j := 1) (v_var rfl) v_int rfl) (by get_elem_tactic_extensible) (by get_elem_tactic_extensible)) (v_mul (v_ixT (j := 1) (v_var rfl) v_int rfl) (v_ixT (j := 0) (v_var rfl) v_int rfl) (by get_elem_tactic_extensible) (by get_elem_tactic_extensible))) va_nil))) (by simp)) S k

theorem sc_side_of : FnScope ["line", "p"] ["line", "p"] (defScope s_side_of) := ⟨rfl, rfl, rfl, by decide +kernel, rfl, by decide +kernel, by decide +kernel⟩
def sp_side_of (K : PySem.W.Frag) : Sp := Fn K 2 fun ds res => ∃ (l : Pt) (p : Pt), ds = [(dP l), (dP p)] ∧ (PtS 200001 l) ∧ (PtS 100000 p) ∧ res = .int (Mir.side l p)
theorem vc_side_of {G : Env} {t0 t1 : TE} {l : Pt} {p : Pt} (a0 : Val K t0 G ((dP l))) (a1 : Val K t1 G ((dP p))) (hl : PtS 200001 l) (hp : PtS 100000 p) : Val K (tCall (sp_side_of K) [] E0 (tCons t0 (tCons t1 tNil))) G (.int (Mir.side l p)) := v_call (va_cons a0 (va_cons a1 va_nil)) rfl ⟨l, p, rfl, hl, hp, rfl⟩
theorem ok_side_of {f : Addr} {fd : FuncData} (F : Def K mg "side_of" s_side_of ["line", "p"] f fd) (T : Txt K mg) : Has P w K mg base CX0 1 "side_of" ["line", "p"] (sp_side_of K) := by
  refine F.has (F.F.ok sc_side_of (fun vs H Q E h => h.1) (fun cdv A outer s H vs Q E hr h => ⟨_, (pss_one (ps_ret (pe_op op_add (pe_op op_add (pe_op op_mulW (pe_ix ix_tup (pv 0) pe_int (fun _ _ => rfl)) (pe_ix ix_tup (pv 1) pe_int (fun _ _ => rfl))) (pe_op op_mulW (pe_ix ix_tup (pv 0) pe_int (fun _ _ => rfl)) (pe_ix ix_tup (pv 1) pe_int (fun _ _ => rfl)))) (pe_op op_mulW (pe_ix ix_tup (pv 0) pe_int (fun _ _ => rfl)) (pe_ix ix_tup (pv 1) pe_int (fun _ _ => rfl)))))), ?_⟩))
  obtain ⟨hn, B, ds, d, e, hr, ⟨l, p, rfl, hl, hp, rfl⟩, k⟩ := h
  have S := state_start e hr ["line", "p"]
  exact s_ret (v_add (v_add (v_mul (v_ixT (j := 0) (v_var rfl) v_int rfl) (v_ixT (j := 0) (v_var rfl) v_int rfl) (by get_elem_tactic_extensible) (by get_elem_tactic_extensible)) (v_mul (v_ixT (j := 1) (v_var rfl) v_int rfl) (v_ixT (j := 1) (v_var rfl) v_int rfl) (by get_elem_tactic_extensible) (by get_elem_tactic_extensible))) (v_mul (v_ixT (j := 2) (v_var rfl) v_int rfl) (v_ixT (j := 2) (v_var rfl) v_int rfl) (by get_elem_tactic_extensible) (by get_elem_tactic_extensible))) S k

theorem sc_is_piece : FnScope ["corners", "k", "around", "line", "corner"] ["corners"] (defScope s_is_piece) := ⟨rfl, rfl, rfl, by decide +kernel, rfl, by decide +kernel, by decide +kernel⟩
def sp_is_piece (K : PySem.W.Frag) : Sp := Fn K 1 fun ds res => ∃ (l : List Pt), ds = [(dPs l)] ∧ (3 ≤ l.length) ∧ (l.length ≤ 50000) ∧ (PtsS 100000 l) ∧ res = .bl (Mir.isPiece l)
theorem vc_is_piece {G : Env} {t0 : TE} {l : List Pt} (a0 : Val K t0 G ((dPs l))) (h3 : 3 ≤ l.length) (hm : l.length ≤ 50000) (hs : PtsS 100000 l) : Val K (tCall (sp_is_piece K) [] E0 (tCons t0 tNil)) G (.bl (Mir.isPiece l)) := v_call (va_cons a0 va_nil) rfl ⟨l, rfl, h3, hm, hs, rfl⟩
theorem ok_is_piece {f : Addr} {fd : FuncData} (F : Def K mg "is_piece" s_is_piece ["corners"] f fd) (T : Txt K mg) (h_line_through : Has P w K mg base CX0 1 "line_through" ["p", "q"] (sp_line_through K)) (h_side_of : Has P w K mg base CX0 1 "side_of" ["line", "p"] (sp_side_of K)) : Has P w K mg base CX0 2 "is_piece" ["corners"] (sp_is_piece K) := by
  refine F.has (F.F.ok sc_is_piece (fun vs H Q E h => h.1) (fun cdv A outer s H vs Q E hr h => ⟨_, (pss_cons (ps_for PassesOwn.never rfl (pi_range1 rfl T.range (pa_cons (pe_callB call_len_seq (by rfl) T.len (by decide +kernel) (pa_cons (pv 0) pa_nil)) pa_nil)) (pg_name (i := 1) sc_is_piece.nd rfl (Or.inl rfl)) (pss_cons (ps_set (i := 2) sc_is_piece.nd rfl (Or.inl rfl) (pe_op op_cat (pe_slice sl_list (pv 0) (po_some (pv 1)) po_none) (pe_slice sl_list (pv 0) po_none (po_some (pv 1)))))
  (pss_cons (ps_set (i := 3) sc_is_piece.nd rfl (Or.inr rfl) (h_line_through.pe hr (by decide) rfl pass0 (pa_cons (pe_ix ix_list (pv 2) (pe_un un_neg pe_int) (fun _ _ => rfl)) (pa_cons (pe_ix ix_list (pv 2) pe_int (fun _ _ => rfl)) pa_nil))))
  (pss_one (ps_if (pt_cmpR op_le (pe_callB (cr_min rfl) (by rfl) T.min (by decide +kernel) (pa_cons (pe_lc (own := [("corner", 4)]) (g := (gName 4)) (tt := tYes) rfl sc_is_piece.nd (pi_list (pe_slice sl_list (pv 2) (po_some pe_int) (po_some (pe_un un_neg pe_int)))) (blkOk_by (own := [("corner", 4)]) (N := ["corners", "k", "around", "line", "corner"]) (sc := defScope s_is_piece) (by decide +kernel)) (fun _ _ _ _ _ => (pg_name (i := 4) sc_is_piece.nd rfl (Or.inl rfl))) (fun _ _ _ _ _ => pts_nil) (fun _ _ _ _ _ => (h_side_of.pe hr (by decide) rfl pass0 (pa_cons (pv 3) (pa_cons (pv 4) pa_nil))))) pa_nil)) pe_int (nomark _)) (pss_one (ps_ret pe_bl)) pss_nil)))))
  (pss_one (ps_ret pe_bl))), ?_⟩))
  obtain ⟨hn, B, ds, d, e, hr, ⟨l, rfl, h3, hm, hs, rfl⟩, k⟩ := h
  have S := state_start e hr ["corners", "k", "around", "line", "corner"]
  refine q_rng1 (va_cons (v_lenP (v_var rfl)) va_nil) (by omega) S fun B1 A1 g1 S => ⟨fun j σ A => ∃ B, State K _ _ [some (dPs l), none, none, none, none] σ B A ∧ ∀ i < j, Mir.okAt l i = true, ⟨B1, S, fun i hi => absurd hi (Nat.not_lt_zero _)⟩, fun j σ A hj h => ?_, fun σ A h => ?_⟩
  · obtain ⟨B, S, hk⟩ := h
    have hj : j < l.length := by omega
    have S := S.set (i := 1) (.int (j : Int)) (by simp)
    refine q_set (v_rot (v_var rfl) (v_var rfl) (v_var rfl) (v_var rfl) rfl rfl (Nat.le_of_lt hj) hm) S (by simp) fun v2 B2 A2 g2 S => ?_
    have hl : (Mir.rotL l j).length = l.length := rot_len l j
    have hs2 := hs.rot j
    refine q_set (vc_line_through (v_atP (v_var rfl) (v_neg v_int) (by rw [hl]; omega) (by rw [hl]; omega)) (v_atP (v_var rfl) v_int (by rw [hl]; omega) (by rw [hl]; omega)) (hs2.at_ (by rw [hl]; omega) (by rw [hl]; omega)) (hs2.at_ (by rw [hl]; omega) (by rw [hl]; omega))) S (by simp) fun v3 B3 A3 g3 S => ?_
    have hln : PtS 200001 (Mir.line (Mir.atI (Mir.rotL l j) (-1)) (Mir.atI (Mir.rotL l j) 0)) := line_sz (hs2.at_ (by rw [hl]; omega) (by rw [hl]; omega)) (hs2.at_ (by rw [hl]; omega) (by rw [hl]; omega))
    obtain ⟨ns, hns⟩ : ∃ ns, (Mir.inner (Mir.rotL l j)).map (fun c => Mir.side (Mir.line (Mir.atI (Mir.rotL l j) (-1)) (Mir.atI (Mir.rotL l j) 0)) c) = ns := ⟨_, rfl⟩
    have hne : 0 < ns.length := by rw [← hns]; simp [inner_len, hl]; omega
    obtain ⟨m, hm1, hm2⟩ := least_of hne
    have hcomp : Val K (tLc (iList K (tSl (rSlL K) (tVar 2) (tPart (tC (V.int 1))) (tPart (tUn (rU fun i => .int (-i)) (tC (V.int 1)))))) (gName 4) tYes (tCall (sp_side_of K) [] E0 (tCons (tVar 3) (tCons (tVar 4) tNil))) [4])
        [some (dPs l), some (.int (j : Int)), some (dPs (Mir.rotL l j)), some (dP (Mir.line (Mir.atI (Mir.rotL l j) (-1)) (Mir.atI (Mir.rotL l j) 0))), none] (.lst (ns.map Dat.int)) :=
      v_is (v_lc (f := fun d => match d with | .tup [.int x, .int y, .int z] => .int (Mir.side (Mir.line (Mir.atI (Mir.rotL l j) (-1)) (Mir.atI (Mir.rotL l j) 0)) ⟨x, y, z⟩) | _ => .non) (v_inner (v_var rfl) v_int (v_neg v_int)) (by simp) (by simp [inner_len, hl]; omega) fun d hd => by
        obtain ⟨c, hc, rfl⟩ := List.mem_map.mp hd
        exact vc_side_of (v_var rfl) (v_var rfl) hln (hs2 c (inner_mem hc))) (by rw [← hns, List.map_map, List.map_map]; rfl)
    refine s_when (t_tst (v_le (v_minL hcomp hne fun k k1 k2 => Int.le_antisymm (k2 m hm1) (hm2 k k1)) v_int)) S (fun hc B4 A4 g4 S => ?_) (fun hc B4 A4 g4 S => ?_)
    · have hc : m ≤ 0 := by simpa using hc
      refine s_ret (v_is v_bl ?_) S k
      congr 1
      refine Eq.symm (Bool.eq_false_iff.mpr fun hz => ?_)
      have h1 := (List.all_eq_true.mp hz) j (List.mem_range.mpr hj)
      rw [← hns] at hm1
      obtain ⟨c, hc1, hc2⟩ := List.mem_map.mp hm1
      have h2 := of_decide_eq_true ((List.all_eq_true.mp h1) c hc1)
      omega
    · have hc : ¬ m ≤ 0 := by simpa using hc
      refine ⟨B4, S.drops rfl (by intro i hi; rcases i with _ | _ | _ | _ | _ | i <;> simp at hi ⊢), fun i hi => ?_⟩
      by_cases hij : i < j
      · exact hk i hij
      · have : i = j := by omega
        subst this
        refine List.all_eq_true.mpr fun c hc1 => decide_eq_true ?_
        have := hm2 (Mir.side (Mir.line (Mir.atI (Mir.rotL l i) (-1)) (Mir.atI (Mir.rotL l i) 0)) c) (by rw [← hns]; exact List.mem_map.mpr ⟨c, hc1, rfl⟩)
        omega
  · obtain ⟨B, S, hk⟩ := h
    refine s_ret (v_is v_bl ?_) S k
    congr 1
    refine Eq.symm (List.all_eq_true.mpr fun i hi => hk i (by have := List.mem_range.mp hi; omega))

theorem sc_check_count : FnScope ["cutting"] ["cutting"] (defScope s_check_count) := ⟨rfl, rfl, rfl, by decide +kernel, rfl, by decide +kernel, by decide +kernel⟩
def sp_check_count (K : PySem.W.Frag) (C_TooMuch : Addr) : Sp := FnX K 1 fun ds r => ∃ l : List Dat, ds = [.lst l] ∧ r = if l.length > 160 then .err C_TooMuch else .ok .non
theorem ok_check_count {f : Addr} {fd : FuncData} (F : Def K mg "check_count" s_check_count ["cutting"] f fd) (T : Txt K mg) (Z_TooMuch : Exn K mg "TooMuch" C_TooMuch) : Has P w K mg base (L2.CX P w) 1 "check_count" ["cutting"] (sp_check_count K C_TooMuch) := by
  refine F.has (F.F.okX sc_check_count (fun vs H Q E h => h.1) (fun cdv A outer s H vs Q E hr h => ?_))
  have tk : Takes (cxOf (L2.CX P w) P w K mg base ["cutting"] "check_count" (defScope s_check_count) f cdv A outer s H E) (fun cls d _ H => E cls d H) := takes_of rfl rfl rfl rfl
  refine ⟨_, (pss_one (ps_if (pt_cmpR op_gt (pe_callB call_len_seq (by rfl) T.len (by decide +kernel) (pa_cons (pv 0) pa_nil)) (glob_int rfl T.c_MOST_PARTS) (nomark _)) (pss_one (Z_TooMuch.raise rfl tk rfl)) pss_nil)), ?_⟩
  obtain ⟨hn, B, ds, r, e, hr, ⟨l, rfl, rfl⟩, k, kx⟩ := h
  have S := state_start e hr ["cutting"]
  refine s_when (t_tst (v_gt (v_len (v_var rfl)) v_int)) S (fun hc B1 A1 g1 S => ?_) (fun hc B1 A1 g1 S => ?_)
  · have hc : l.length > 160 := by have := of_decide_eq_true hc; omega
    exact kx _ (by rw [if_pos hc]) B1 A1 S.g
  · have hc : ¬ l.length > 160 := by have := of_decide_eq_false hc; omega
    exact k _ (by rw [if_neg hc]) _ B1 A1 S.g .non

theorem sc_slid_and_turned : FnScope ["cutting", "turned", "corners", "move"] ["cutting"] (defScope s_slid_and_turned) := ⟨rfl, rfl, rfl, by decide +kernel, rfl, by decide +kernel, by decide +kernel⟩
def sp_slid_and_turned (K : PySem.W.Frag) : Sp := Fn K 1 fun ds res => ∃ c : List Part, ds = [dC c] ∧ Cut c ∧ res = dI (Mir.slidOf c)
theorem ok_slid_and_turned {f : Addr} {fd : FuncData} (F : Def K mg "slid_and_turned" s_slid_and_turned ["cutting"] f fd) (T : Txt K mg) : Has P w K mg base CX0 1 "slid_and_turned" ["cutting"] (sp_slid_and_turned K) := by
  refine F.has (F.F.ok sc_slid_and_turned (fun vs H Q E h => h.1) (fun cdv A outer s H vs Q E hr h => ⟨_, (pss_cons (ps_set (i := 1) sc_slid_and_turned.nd rfl (Or.inl rfl) (pe_callB (cr_sum rfl) (by rfl) T.sum (by decide +kernel) (pa_cons (pe_lc (te := tOp (rIxT K) (tVar 3) (tC (V.int 0))) (own := [("corners", 2), ("move", 3)]) (g := (gTup K 2 (gCons (gName 2) (gCons (gName 3) gNil)))) (tt := tYes) rfl sc_slid_and_turned.nd (pi_list (pv 0)) (blkOk_by (own := [("corners", 2), ("move", 3)]) (N := ["cutting", "turned", "corners", "move"]) (sc := defScope s_slid_and_turned) (by decide +kernel)) (fun _ _ _ _ _ => (pg_tup rfl (pgs_cons (pg_name (i := 2) sc_slid_and_turned.nd rfl (Or.inl rfl)) (pgs_cons (pg_name (i := 3) sc_slid_and_turned.nd rfl (Or.inl rfl)) pgs_nil)))) (fun _ _ _ _ _ => pts_nil) (fun _ _ _ _ _ => (pe_ix ix_tup (pv 3) pe_int (fun _ _ => rfl)))) pa_nil)))
  (pss_one (ps_ret (pe_lst (pa_cons (pe_op op_sub (pe_callB call_len_seq (by rfl) T.len (by decide +kernel) (pa_cons (pv 0) pa_nil)) (pv 1)) (pa_cons (pv 1) pa_nil)))))), ?_⟩))
  obtain ⟨hn, B, ds, d, e, hr, ⟨c, rfl, hc, rfl⟩, k⟩ := h
  have S := state_start e hr ["cutting", "turned", "corners", "move"]
  refine q_set (v_sum (ns := c.map fun q => q.2.1) (v_is (v_lc2 (cs := c) (f1 := fun q => dPs q.1) (f2 := fun q => dM q.2) (f := fun q => .int q.2.1) (v_var rfl) (by simp) (by simp) (by decide) (by have := hc.n; omega) fun q hq => v_ixT (j := 0) (v_var rfl) v_int rfl) (by rw [List.map_map]; rfl))) S (by simp) fun v1 B1 A1 g1 S => ?_
  refine s_ret (v_is (v_lst (va_cons (v_sub (v_len (v_var rfl)) (v_var rfl)) (va_cons (v_var rfl) va_nil)) (by simp)) ?_) S k
  rw [List.length_map]; rfl

theorem sc_read_fraction : FnScope ["numbers", "place", "above", "below"] ["numbers", "place"] (defScope s_read_fraction) := ⟨rfl, rfl, rfl, by decide +kernel, rfl, by decide +kernel, by decide +kernel⟩
def sp_read_fraction (K : PySem.W.Frag) (C_NoCutting : Addr) : Sp := FnX K 2 fun ds r => ∃ (ns : List Int) (i : Nat), ds = [dI ns, .int (i : Int)] ∧ i + 1 < ns.length ∧ r = Res.of C_NoCutting ((Mir.readFr ns i).map dF)
theorem vcx_read_fraction {G : Env} {t0 t1 : TE} {W : WX} {ns : List Int} {i : Nat} {j : Int} {C_NoCutting : Addr} (a0 : Val K t0 G (dI ns)) (a1 : Val K t1 G (.int j)) (hj : j = i) (hi : i + 1 < ns.length) :
    VX K (tCallS (sp_read_fraction K C_NoCutting) (WE W) (tCons t0 (tCons t1 tNil))) W G (Res.of C_NoCutting ((Mir.readFr ns i).map dF)) := vx_call (va_cons a0 (va_cons (v_is a1 (by rw [hj])) va_nil)) rfl ⟨ns, i, rfl, hi, rfl⟩
theorem ok_read_fraction {f : Addr} {fd : FuncData} (F : Def K mg "read_fraction" s_read_fraction ["numbers", "place"] f fd) (T : Txt K mg) (h_common_factor : Has P w K mg base CX0 1 "common_factor" ["a", "b"] (sp_common_factor K)) (Z_NoCutting : Exn K mg "NoCutting" C_NoCutting) : Has P w K mg base (L2.CX P w) 2 "read_fraction" ["numbers", "place"] (sp_read_fraction K C_NoCutting) := by
  refine F.has (F.F.okX sc_read_fraction (fun vs H Q E h => h.1) (fun cdv A outer s H vs Q E hr h => ?_))
  have tk : Takes (cxOf (L2.CX P w) P w K mg base ["numbers", "place", "above", "below"] "read_fraction" (defScope s_read_fraction) f cdv A outer s H E) (fun cls d _ H => E cls d H) := takes_of rfl rfl rfl rfl
  refine ⟨_, (pss_cons (ps_set (i := 2) sc_read_fraction.nd rfl (Or.inl rfl) (pe_ix ix_list (pv 0) (pv 1) (fun _ _ => rfl)))
  (pss_cons (ps_set (i := 3) sc_read_fraction.nd rfl (Or.inl rfl) (pe_ix ix_list (pv 0) (pe_op op_add (pv 1) pe_int) (fun _ _ => rfl)))
  (pss_cons (ps_if (PW.pt (pw_or (pt_cmpR op_lt (pv 3) pe_int (nomark _)) (pw_or1 (pt_cmpR op_ne (h_common_factor.pe hr (by decide) rfl pass0 (pa_cons (pv 2) (pa_cons (pv 3) pa_nil))) pe_int (nomark _))))) (pss_one (Z_NoCutting.raise rfl tk rfl)) pss_nil)
  (pss_one (ps_ret (pe_tup (pa_cons (pv 2) (pa_cons (pv 3) pa_nil)))))))), ?_⟩
  obtain ⟨hn, B, ds, r, e, hr, ⟨ns, i, rfl, hi, rfl⟩, k, kx⟩ := h
  have S := state_start e hr ["numbers", "place", "above", "below"]
  refine q_set (v_atN (v_var rfl) (v_var rfl) rfl (by omega)) S (by simp) fun v1 B1 A1 g1 S => ?_
  refine q_set (v_atN (i := i + 1) (v_var rfl) (v_add (v_var rfl) v_int) (by simp) (by omega)) S (by simp) fun v2 B2 A2 g2 S => ?_
  refine q_when (t_or (t_tst (v_lt (v_var rfl) v_int)) fun _ => t_tst (v_neI (vc_common_factor (v_var rfl) (v_var rfl)) v_int)) S (fun hc B3 A3 g3 S => ?_) (fun hc B3 A3 g3 S => ?_)
  · have hc : ns.getD (i + 1) 0 < 1 ∨ Mir.cf (ns.getD i 0) (ns.getD (i + 1) 0) ≠ 1 := by simpa using hc
    exact kx _ (by rw [Mir.readFr, if_pos hc]; rfl) B3 A3 S.g
  · have hc : ¬ (ns.getD (i + 1) 0 < 1 ∨ Mir.cf (ns.getD i 0) (ns.getD (i + 1) 0) ≠ 1) := by simpa using hc
    exact s_ret (v_tup (va_cons (v_var rfl) (va_cons (v_var rfl) va_nil)) (by simp)) S fun v B' A' g r => k _ (by rw [Mir.readFr, if_neg hc]; rfl) v B' A' g r

theorem sc_read_point : FnScope ["numbers", "place"] ["numbers", "place"] (defScope s_read_point) := ⟨rfl, rfl, rfl, by decide +kernel, rfl, by decide +kernel, by decide +kernel⟩
def sp_read_point (K : PySem.W.Frag) (C_NoCutting : Addr) : Sp := FnX K 2 fun ds r => ∃ (ns : List Int) (i : Nat), ds = [dI ns, .int (i : Int)] ∧ i + 3 < ns.length ∧ (∀ n ∈ ns, Sz 256 n) ∧ r = Res.of C_NoCutting ((Mir.readPt ns i).map dP)
theorem vcx_read_point {G : Env} {t0 t1 : TE} {W : WX} {ns : List Int} {i : Nat} {j : Int} {C_NoCutting : Addr} (a0 : Val K t0 G (dI ns)) (a1 : Val K t1 G (.int j)) (hj : j = i) (hi : i + 3 < ns.length) (hs : ∀ n ∈ ns, Sz 256 n) :
    VX K (tCallS (sp_read_point K C_NoCutting) (WE W) (tCons t0 (tCons t1 tNil))) W G (Res.of C_NoCutting ((Mir.readPt ns i).map dP)) := vx_call (va_cons a0 (va_cons (v_is a1 (by rw [hj])) va_nil)) rfl ⟨ns, i, rfl, hi, hs, rfl⟩
theorem vce_read_point {G : Env} {t0 t1 : TE} {E : XK} {ns : List Int} {i : Nat} {j : Int} {C_NoCutting : Addr} (a0 : Val K t0 G (dI ns)) (a1 : Val K t1 G (.int j)) (hj : j = i) (hi : i + 3 < ns.length) (hs : ∀ n ∈ ns, Sz 256 n) :
    VX K (tCallS (sp_read_point K C_NoCutting) (fun _ => E) (tCons t0 (tCons t1 tNil))) (fun c d _ H => E c d H) G (Res.of C_NoCutting ((Mir.readPt ns i).map dP)) := vx_callE (va_cons a0 (va_cons (v_is a1 (by rw [hj])) va_nil)) rfl ⟨ns, i, rfl, hi, hs, rfl⟩
theorem ok_read_point {f : Addr} {fd : FuncData} (F : Def K mg "read_point" s_read_point ["numbers", "place"] f fd) (T : Txt K mg) (h_point_at : Has P w K mg base CX0 3 "point_at" ["right", "up"] (sp_point_at K)) (h_read_fraction : Has P w K mg base (L2.CX P w) 2 "read_fraction" ["numbers", "place"] (sp_read_fraction K C_NoCutting)) (Z_NoCutting : Exn K mg "NoCutting" C_NoCutting) : Has P w K mg base (L2.CX P w) 4 "read_point" ["numbers", "place"] (sp_read_point K C_NoCutting) := by
  refine F.has (F.F.okX sc_read_point (fun vs H Q E h => h.1) (fun cdv A outer s H vs Q E hr h => ?_))
  have tk : Takes (cxOf (L2.CX P w) P w K mg base ["numbers", "place"] "read_point" (defScope s_read_point) f cdv A outer s H E) (fun cls d _ H => E cls d H) := takes_of rfl rfl rfl rfl
  refine ⟨_, (pss_one (ps_ret (h_point_at.pe hr (by decide) rfl pass0 (pa_cons (h_read_fraction.peX hr (by decide) rfl (fun σ => passAt tk σ) (pa_cons (pv 0) (pa_cons (pv 1) pa_nil))) (pa_cons (h_read_fraction.peX hr (by decide) rfl (fun σ => passAt tk σ) (pa_cons (pv 0) (pa_cons (pe_op op_add (pv 1) pe_int) pa_nil))) pa_nil))))), ?_⟩
  obtain ⟨hn, B, ds, r, e, hr, ⟨ns, i, rfl, hi, hs, rfl⟩, k, kx⟩ := h
  have S := state_start e hr ["numbers", "place"]
  have key : ∀ (j : Nat) (x : Fr), j + 1 < ns.length → Mir.readFr ns j = some x → Sz 4000 x.1 ∧ Sz 4000 x.2 ∧ x.2 ≠ 0 := fun j x hj e => by
    have z := readFr_some hj e
    exact ⟨(hs _ z.1).mono (by decide), (hs _ z.2.1).mono (by decide), by omega⟩
  refine s_retX (W := fun cls d _ H => E cls d H) (vx_callN (f := fun ds => match ds with | [.tup [.int a, .int b], .tup [.int c, .int d]] => dP (Mir.pointAt (a, b) (c, d)) | _ => .non) (vxs_cons (vcx_read_fraction (i := i) (v_var rfl) (v_var rfl) rfl (by omega)) (vxs_cons (vcx_read_fraction (i := i + 2) (v_var rfl) (v_add (v_var rfl) v_int) (by simp) (by omega)) (vxs_of va_nil))) fun ds z => ?_) S (fun d z v B' A' g r => ?_) fun C z B' A' g => ?_
  · cases e1 : Mir.readFr ns i with
    | none => rw [e1] at z; cases z
    | some x =>
      cases e2 : Mir.readFr ns (i + 2) with
      | none => rw [e1, e2] at z; cases z
      | some y =>
        rw [e1, e2] at z
        cases z
        obtain ⟨a1, a2, a3⟩ := key i x (by omega) e1
        obtain ⟨b1, b2, b3⟩ := key (i + 2) y (by omega) e2
        exact ⟨rfl, x, y, rfl, a1, a2, b1, b2, a3, b3, rfl⟩
  · refine k d ?_ v B' A' g r
    rw [← z]
    unfold Mir.readPt
    cases e1 : Mir.readFr ns i with
    | none => rw [e1] at z; cases z
    | some x =>
      cases e2 : Mir.readFr ns (i + 2) with
      | none => rw [e1, e2] at z; cases z
      | some y => rfl
  · refine kx C ?_ B' A' g
    rw [← z]
    unfold Mir.readPt
    cases e1 : Mir.readFr ns i with
    | none => rfl
    | some x =>
      cases e2 : Mir.readFr ns (i + 2) with
      | none => rfl
      | some y => rw [e1, e2] at z; cases z

theorem sc_part_end : FnScope ["numbers", "place", "count", "end"] ["numbers", "place"] (defScope s_part_end) := ⟨rfl, rfl, rfl, by decide +kernel, rfl, by decide +kernel, by decide +kernel⟩
def sp_part_end (K : PySem.W.Frag) (C_NoCutting : Addr) : Sp := FnX K 2 fun ds r => ∃ (ns : List Int) (i : Nat), ds = [.raw ns, .int (i : Int)] ∧ i < ns.length ∧ ns.length ≤ 100000 ∧ r = Res.of C_NoCutting ((Mir.partLen (ns.drop i)).map fun (c : Nat) => .int ((i + (4 * c + 6) : Nat) : Int))
theorem vcx_part_end {G : Env} {t0 t1 : TE} {W : WX} {ns : List Int} {i : Nat} {C_NoCutting : Addr} (a0 : Val K t0 G (.raw ns)) (a1 : Val K t1 G (.int (i : Int))) (hi : i < ns.length) (hl : ns.length ≤ 100000) :
    VX K (tCallS (sp_part_end K C_NoCutting) (WE W) (tCons t0 (tCons t1 tNil))) W G (Res.of C_NoCutting ((Mir.partLen (ns.drop i)).map fun (c : Nat) => .int ((i + (4 * c + 6) : Nat) : Int))) := vx_call (va_cons a0 (va_cons a1 va_nil)) rfl ⟨ns, i, rfl, hi, hl, rfl⟩
theorem ok_part_end {f : Addr} {fd : FuncData} (F : Def K mg "part_end" s_part_end ["numbers", "place"] f fd) (T : Txt K mg) (Z_NoCutting : Exn K mg "NoCutting" C_NoCutting) : Has P w K mg base (L2.CX P w) 1 "part_end" ["numbers", "place"] (sp_part_end K C_NoCutting) := by
  refine F.has (F.F.okX sc_part_end (fun vs H Q E h => h.1) (fun cdv A outer s H vs Q E hr h => ?_))
  have tk : Takes (cxOf (L2.CX P w) P w K mg base ["numbers", "place", "count", "end"] "part_end" (defScope s_part_end) f cdv A outer s H E) (fun cls d _ H => E cls d H) := takes_of rfl rfl rfl rfl
  refine ⟨_, (pss_cons (ps_set (i := 2) sc_part_end.nd rfl (Or.inl rfl) (pe_ix ix_list (pv 0) (pv 1) (fun _ _ => rfl)))
  (pss_cons (ps_if (PW.pt (pw_or (pt_cmpR op_lt (pv 2) (glob_int rfl T.c_FEWEST_CORNERS) (nomark _)) (pw_or1 (pt_cmpR op_gt (pv 2) (glob_int rfl T.c_MOST_CORNERS) (nomark _))))) (pss_one (Z_NoCutting.raise rfl tk rfl)) pss_nil)
  (pss_cons (ps_set (i := 3) sc_part_end.nd rfl (Or.inl rfl) (pe_op op_add (pe_op op_add (pe_op op_add (pe_op op_add (pv 1) pe_int) (pe_op op_mulW (pv 2) (glob_int rfl T.c_POINT_LENGTH))) pe_int) (glob_int rfl T.c_POINT_LENGTH)))
  (pss_cons (ps_if (pt_cmpR op_gt (pv 3) (pe_callB call_len_seq (by rfl) T.len (by decide +kernel) (pa_cons (pv 0) pa_nil)) (nomark _)) (pss_one (Z_NoCutting.raise rfl tk rfl)) pss_nil)
  (pss_one (ps_ret (pv 3))))))), ?_⟩
  obtain ⟨hn, B, ds, r, e, hr, ⟨ns, i, rfl, hi, hl, rfl⟩, k, kx⟩ := h
  have S := state_start e hr ["numbers", "place", "count", "end"]
  have h0 : (ns.drop i).getD 0 0 = ns.getD i 0 := by simp [List.getD_eq_getElem?_getD]
  have hlen : ((ns.drop i).length : Int) = ns.length - i := by simp; omega
  refine q_set (v_ixR (v_var rfl) (v_var rfl) (n := ns.getD i 0) (by omega) (by unfold plc; rw [if_pos (by omega)]; simp [List.getD_eq_getElem?_getD, List.getElem?_eq_getElem hi])) S (by simp) fun v1 B1 A1 g1 S => ?_
  refine q_when (t_or (t_tst (v_lt (v_var rfl) v_int)) fun _ => t_tst (v_gt (v_var rfl) v_int)) S (fun hc B3 A3 g3 S => ?_) (fun hc B3 A3 g3 S => ?_)
  · have hc : ns.getD i 0 < 3 ∨ 40 < ns.getD i 0 := by simpa using hc
    refine kx _ ?_ B3 A3 S.g
    rw [Mir.partLen, if_pos (by rw [h0]; omega)]; rfl
  · have hc : ¬ (ns.getD i 0 < 3 ∨ 40 < ns.getD i 0) := by simpa using hc
    have hsz : Sz 400000 (ns.getD i 0) := Sz.small (by omega) (by decide)
    refine q_set (v_add (v_add (v_add (v_add (v_var rfl) v_int) (v_mul (v_var rfl) v_int hsz (Sz.small (by decide) (by decide)))) v_int) v_int) S (by simp) fun v4 B4 A4 g4 S => ?_
    refine q_when (t_tst (v_gt (v_var rfl) (v_lenR (v_var rfl)))) S (fun hd B5 A5 g5 S => ?_) (fun hd B5 A5 g5 S => ?_)
    · have hd := of_decide_eq_true hd
      refine kx _ ?_ B5 A5 S.g
      rw [Mir.partLen, if_pos (by rw [h0, hlen]; omega)]; rfl
    · have hd := of_decide_eq_false hd
      refine s_ret (v_var rfl) S fun v B' A' g r => k _ ?_ v B' A' g r
      rw [Mir.partLen, if_neg (by rw [h0, hlen]; omega), h0]
      simp only [Option.map_some, Res.of]
      congr 2
      omega

theorem sc_read_part : FnScope ["numbers", "way_place", "turned", "corners", "k"] ["numbers"] (defScope s_read_part) := ⟨rfl, rfl, rfl, by decide +kernel, rfl, by decide +kernel, by decide +kernel⟩
def sp_read_part (K : PySem.W.Frag) (C_NoCutting : Addr) : Sp := FnX K 1 fun ds r => ∃ (ns : List Int) (c : Nat), ds = [dI ns] ∧ ns.length = 4 * c + 6 ∧ 3 ≤ c ∧ c ≤ 40 ∧ (∀ n ∈ ns, Sz 256 n) ∧ r = Res.of C_NoCutting ((Mir.readPart c ns).map dPart)
theorem vcx_read_part {G : Env} {t0 : TE} {W : WX} {ns : List Int} {c : Nat} {C_NoCutting : Addr} (a0 : Val K t0 G (dI ns)) (hl : ns.length = 4 * c + 6) (h3 : 3 ≤ c) (h4 : c ≤ 40) (hs : ∀ n ∈ ns, Sz 256 n) :
    VX K (tCallS (sp_read_part K C_NoCutting) (WE W) (tCons t0 tNil)) W G (Res.of C_NoCutting ((Mir.readPart c ns).map dPart)) := vx_call (va_cons a0 va_nil) rfl ⟨ns, c, rfl, hl, h3, h4, hs, rfl⟩
theorem ok_read_part {f : Addr} {fd : FuncData} (F : Def K mg "read_part" s_read_part ["numbers"] f fd) (T : Txt K mg) (h_is_piece : Has P w K mg base CX0 2 "is_piece" ["corners"] (sp_is_piece K)) (h_read_point : Has P w K mg base (L2.CX P w) 4 "read_point" ["numbers", "place"] (sp_read_point K C_NoCutting)) (Z_NoCutting : Exn K mg "NoCutting" C_NoCutting) : Has P w K mg base (L2.CX P w) 5 "read_part" ["numbers"] (sp_read_part K C_NoCutting) := by
  refine F.has (F.F.okX sc_read_part (fun vs H Q E h => h.1) (fun cdv A outer s H vs Q E hr h => ?_))
  have tk : Takes (cxOf (L2.CX P w) P w K mg base ["numbers", "way_place", "turned", "corners", "k"] "read_part" (defScope s_read_part) f cdv A outer s H E) (fun cls d _ H => E cls d H) := takes_of rfl rfl rfl rfl
  refine ⟨_, (pss_cons (ps_set (i := 1) sc_read_part.nd rfl (Or.inl rfl) (pe_op op_sub (pe_callB call_len_seq (by rfl) T.len (by decide +kernel) (pa_cons (pv 0) pa_nil)) (glob_int rfl T.c_POINT_LENGTH)))
  (pss_cons (ps_set (i := 2) sc_read_part.nd rfl (Or.inl rfl) (pe_ix ix_list (pv 0) (pe_op op_sub (pv 1) pe_int) (fun _ _ => rfl)))
  (pss_cons (ps_setLcX (i := 3) (own := [("k", 4)]) (g := (gName 4)) (tt := tYes) rfl rfl rfl tk sc_read_part.nd rfl rfl (sw_true rfl rfl rfl (by decide +kernel)) (pi_range3 rfl T.range (pa_cons pe_int (pa_cons (pe_op op_sub (pv 1) pe_int) (pa_cons (glob_int rfl T.c_POINT_LENGTH) pa_nil)))) (blkOk_by (own := [("k", 4)]) (N := ["numbers", "way_place", "turned", "corners", "k"]) (sc := defScope s_read_part) (by decide +kernel)) (fun _ _ _ _ _ => (pg_name (i := 4) sc_read_part.nd rfl (Or.inl rfl))) (fun _ _ _ _ _ => pts_nil) (fun _ _ _ _ _ _ hx => (h_read_point.peX hr (by decide) rfl hx (pa_cons (pv 0) (pa_cons (pv 4) pa_nil)))))
  (pss_cons (ps_if (PW.pt (pw_or (pt_cmpR op_lt (pv 2) pe_int (nomark _)) (pw_or (pt_cmpR op_gt (pv 2) pe_int (nomark _)) (pw_or1 (pt_not (pt_val (h_is_piece.pe hr (by decide) rfl pass0 (pa_cons (pv 3) pa_nil)))))))) (pss_one (Z_NoCutting.raise rfl tk rfl)) pss_nil)
  (pss_one (ps_ret (pe_tup (pa_cons (pv 3) (pa_cons (pe_tup (pa_cons (pv 2) (pa_cons (h_read_point.peX hr (by decide) rfl (fun σ => passAt tk σ) (pa_cons (pv 0) (pa_cons (pv 1) pa_nil))) pa_nil))) pa_nil))))))))), ?_⟩
  obtain ⟨hn, B, ds, r, e, hr, ⟨ns, c, rfl, hl, h3, h4, hs, rfl⟩, k, kx⟩ := h
  have S := state_start e hr ["numbers", "way_place", "turned", "corners", "k"]
  refine q_set (v_is (v_sub (v_len (v_var rfl)) v_int) (d' := .int ((4 * c + 2 : Nat) : Int)) (by congr 1; simp; omega)) S (by simp) fun v1 B1 A1 g1 S => ?_
  refine q_set (v_atN (i := 4 * c + 1) (v_var rfl) (v_sub (v_var rfl) v_int) (by omega) (by omega)) S (by simp) fun v2 B2 A2 g2 S => ?_
  refine q_lcX (C := C_NoCutting) (f := fun k => (Mir.readPt ns (1 + 4 * k)).map dP) (n := c) (va_cons v_int (va_cons (v_sub (v_var rfl) v_int) (va_cons v_int va_nil))) (by simpa using range_four c (by omega)) (by simp) (by simp) (by omega) (fun k hk => vce_read_point (v_var rfl) (v_var rfl) (by omega) (by omega) hs) S (fun l hall v3 B3 A3 g3 S => ?_) (fun hall B' A' g => ?_)
  · rw [allOf_map] at hall
    cases hp : Mir.allOf (fun k => Mir.readPt ns (1 + 4 * k)) c with
    | none => rw [hp] at hall; cases hall
    | some pts =>
      rw [hp] at hall
      cases hall
      have hlen : pts.length = c := q_lcX.allOf_len hp
      have hps : PtsS 512 pts := allOf_all hp fun k _ p e => (readPt_ok e hs (by omega)).1
      refine q_when (t_or (t_tst (v_lt (v_var rfl) v_int)) fun _ => t_or (t_tst (v_gt (v_var rfl) v_int)) fun _ => t_not (t_B (vc_is_piece (l := pts) (v_var rfl) (by omega) (by omega) (fun p hp => (hps p hp).mono (by decide))))) S (fun hc B4 A4 g4 S => ?_) (fun hc B4 A4 g4 S => ?_)
      · have hc : ns.getD (4 * c + 1) 0 < 0 ∨ 1 < ns.getD (4 * c + 1) 0 ∨ Mir.isPiece pts = false := by simpa using hc
        exact kx _ (by rw [Mir.readPart, hp]; simp only; rw [if_pos hc]; rfl) B4 A4 S.g
      · have hc : ¬ (ns.getD (4 * c + 1) 0 < 0 ∨ 1 < ns.getD (4 * c + 1) 0 ∨ Mir.isPiece pts = false) := by simpa using hc
        refine s_retX (W := fun cls d _ H => E cls d H) (vx_tup (vxs_cons (vx_of (v_var rfl)) (vxs_cons (vx_tup (vxs_cons (vx_of (v_var rfl)) (vxs_cons (vcx_read_point (i := 4 * c + 2) (v_var rfl) (v_var rfl) rfl (by omega) hs) (vxs_of va_nil))) fun ds z => ?_) (vxs_of va_nil))) fun ds z => ?_) S (fun d z v B' A' g r => ?_) fun C z B' A' g => ?_
        · cases e1 : Mir.readPt ns (4 * c + 2) with
          | none => rw [e1] at z; cases z
          | some w => rw [e1] at z; cases z; simp
        · cases e1 : Mir.readPt ns (4 * c + 2) with
          | none => rw [e1] at z; cases z
          | some w => rw [e1] at z; cases z; simp
        · refine k d ?_ v B' A' g r
          rw [← z, Mir.readPart, hp]
          simp only
          rw [if_neg hc]
          cases e1 : Mir.readPt ns (4 * c + 2) with
          | none => rw [e1] at z; cases z
          | some w => rfl
        · refine kx C ?_ B' A' g
          rw [← z, Mir.readPart, hp]
          simp only
          rw [if_neg hc]
          cases e1 : Mir.readPt ns (4 * c + 2) with
          | none => rfl
          | some w => rw [e1] at z; cases z
  · refine kx _ ?_ B' A' g
    rw [allOf_map] at hall
    cases hp : Mir.allOf (fun k => Mir.readPt ns (1 + 4 * k)) c with
    | none => rw [Mir.readPart, hp]; rfl
    | some pts => rw [hp] at hall; cases hall

theorem sc_read_cutting : FnScope ["numbers", "cutting", "place", "end"] ["numbers"] (defScope s_read_cutting) := ⟨rfl, rfl, rfl, by decide +kernel, rfl, by decide +kernel, by decide +kernel⟩
def sp_read_cutting (K : PySem.W.Frag) (C_NoCutting C_TooMuch : Addr) : Sp := FnX K 1 fun ds r => ∃ ns : List Int, ds = [.raw ns] ∧ ns.length ≤ 4000 ∧ (∀ n ∈ ns, Sz 256 n) ∧ r = match Mir.readAll ns.length ns with
  | none => .err C_NoCutting
  | some c => if c.length > 160 then .err C_TooMuch else .ok (dC c)
theorem ok_read_cutting {f : Addr} {fd : FuncData} (F : Def K mg "read_cutting" s_read_cutting ["numbers"] f fd) (T : Txt K mg) (h_check_count : Has P w K mg base (L2.CX P w) 1 "check_count" ["cutting"] (sp_check_count K C_TooMuch)) (h_part_end : Has P w K mg base (L2.CX P w) 1 "part_end" ["numbers", "place"] (sp_part_end K C_NoCutting)) (h_read_part : Has P w K mg base (L2.CX P w) 5 "read_part" ["numbers"] (sp_read_part K C_NoCutting)) (Z_NoCutting : Exn K mg "NoCutting" C_NoCutting) (Z_TooMuch : Exn K mg "TooMuch" C_TooMuch) : Has P w K mg base (L2.CX P w) 6 "read_cutting" ["numbers"] (sp_read_cutting K C_NoCutting C_TooMuch) := by
  refine F.has (F.F.okX sc_read_cutting (fun vs H Q E h => h.1) (fun cdv A outer s H vs Q E hr h => ?_))
  have tk : Takes (cxOf (L2.CX P w) P w K mg base ["numbers", "cutting", "place", "end"] "read_cutting" (defScope s_read_cutting) f cdv A outer s H E) (fun cls d _ H => E cls d H) := takes_of rfl rfl rfl rfl
  refine ⟨_, (pss_cons (ps_set (i := 1) sc_read_cutting.nd rfl (Or.inl rfl) (pe_lst pa_nil))
  (pss_cons (ps_set (i := 2) sc_read_cutting.nd rfl (Or.inl rfl) pe_int)
  (pss_cons (ps_while (passes_of rfl) (pt_cmpR op_lt (pv 2) (pe_callB call_len_seq (by rfl) T.len (by decide +kernel) (pa_cons (pv 0) pa_nil)) (nomark _)) (pss_cons (ps_set (i := 3) sc_read_cutting.nd rfl (Or.inl rfl) (h_part_end.peX hr (by decide) rfl (fun σ => passAt tk σ) (pa_cons (pv 0) (pa_cons (pv 2) pa_nil))))
  (pss_cons (ps_expr (pe_bm PySem.F.plainAttrs_list PySem.F.slot_list_append PySem.F.type_list_append mt_append (pv 1) (pa_cons (h_read_part.peX hr (by decide) rfl (fun σ => passAt tk σ) (pa_cons (pe_slice sl_list (pv 0) (po_some (pv 2)) (po_some (pv 3))) pa_nil)) pa_nil)))
  (pss_one (ps_set (i := 2) sc_read_cutting.nd rfl (Or.inl rfl) (pv 3))))))
  (pss_cons (ps_expr (h_check_count.peX hr (by decide) rfl (fun σ => passAt tk σ) (pa_cons (pv 1) pa_nil)))
  (pss_one (ps_ret (pv 1))))))), ?_⟩
  obtain ⟨hn, B0, ds, r, e, hr, ⟨ns, rfl, hl, hs, rfl⟩, k, kx⟩ := h
  have S := state_start e hr ["numbers", "cutting", "place", "end"]
  refine q_new S (by simp) fun v A1 e1 S M => ?_
  refine q_set v_int S (by simp) fun v2 B2 A2 g2 S => ?_
  have M := (M.grow g2).set (i := 2) (by decide) (some v2)
  refine ⟨fun (m : Nat) σ A => ∃ (B : Hp) (p : Nat) (done : List Part), State K B0 H [some (.raw ns), none, some (.int (p : Int)), none] σ B A ∧ Mut K H 1 σ B A (done.map dPart) ∧ done.length ≤ p ∧ p ≤ ns.length ∧ m = ns.length - p ∧ Mir.readAll ns.length ns = (Mir.readAll (ns.length - p) (ns.drop p)).map (done ++ ·), ⟨ns.length, B2, 0, [], S, M, by simp, by simp, rfl, by simp⟩, ?_⟩
  rintro m σ A ⟨B, p, done, S, M, hd, hp, rfl, hread⟩
  refine t_tst (v_lt (v_var rfl) (v_lenR (v_var rfl))) σ B S.h A S.g.ba _ fun B3 A3 g3 => ?_
  have S := S.grow g3
  have M := M.grow g3
  by_cases hlt : p < ns.length
  · rw [decide_eq_true (by omega : (p : Int) < ns.length)]
    refine ⟨fun σ A => ∃ (B : Hp) (p' : Nat) (done : List Part), State K B0 H [some (.raw ns), none, some (.int (p' : Int)), none] σ B A ∧ Mut K H 1 σ B A (done.map dPart) ∧ done.length ≤ p' ∧ p' ≤ ns.length ∧ p < p' ∧ Mir.readAll ns.length ns = (Mir.readAll (ns.length - p') (ns.drop p')).map (done ++ ·), fun σ' A' h => ?_, ?_⟩
    · obtain ⟨B, p', done', S, M, h1, h2, h3, h4⟩ := h
      exact ⟨ns.length - p', by omega, B, p', done', S, M, h1, h2, rfl, h4⟩
    · have hstep := readAll_step hlt
      refine q_setX (W := fun cls d _ H => E cls d H) (vcx_part_end (v_var rfl) (v_var rfl) hlt (by omega)) S (by simp) (fun d z v4 B4 A4 g4 S => ?_) (fun C z B' A' g => ?_)
      · cases hc : Mir.partLen (ns.drop p) with
        | none => rw [hc] at z; cases z
        | some c =>
          rw [hc] at z
          cases z
          obtain ⟨c1, c2, c3⟩ := partLen_some hc
          have c3 : p + (4 * c + 6) ≤ ns.length := by simp at c3; omega
          have M := (M.grow g4).set (i := 3) (by decide) (some v4)
          have hsl : ((ns.drop p).take (4 * c + 6)).length = 4 * c + 6 := by simp; omega
          have hcut : cutD ns (some ((p : Nat) : Int)) (some ((p + (4 * c + 6) : Nat) : Int)) = (ns.drop p).take (4 * c + 6) := by
            unfold cutD
            rw [HT.sIx_nat, HT.sIx_nat, Nat.min_eq_left (by omega), Nat.min_eq_left (by omega)]
            congr 1; omega
          refine q_appX (W := fun cls d _ H => E cls d H) (vcx_read_part (c := c) (v_is (v_slR (v_var rfl) (p_some (v_var rfl)) (p_some (v_var rfl))) (by rw [hcut])) hsl c1 c2 fun n hn => hs n (List.mem_of_mem_drop (List.mem_of_mem_take hn))) S M (by simp; omega) (fun d z B5 A5 e5 S M => ?_) (fun C z B' A' g => ?_)
          · cases hpt : Mir.readPart c ((ns.drop p).take (4 * c + 6)) with
            | none => rw [hpt] at z; cases z
            | some q =>
              rw [hpt] at z
              cases z
              refine s_set (v_var rfl) S (by simp) fun v6 B6 A6 g6 S => ?_
              have M := (M.grow g6).set (i := 2) (by decide) (some v6)
              refine ⟨B6, p + (4 * c + 6), done ++ [q], S.drops rfl (by intro i hi; rcases i with _ | _ | _ | _ | i <;> simp at hi ⊢), by rw [List.map_append]; exact M, by simp; omega, c3, by omega, ?_⟩
              rw [hread, hstep, hc]
              simp only
              rw [hpt, List.drop_drop, readAll_fuel (by simp; omega) (by simp : (ns.drop (p + (4 * c + 6))).length ≤ ns.length - (p + (4 * c + 6)))]
              cases Mir.readAll (ns.length - (p + (4 * c + 6))) (ns.drop (p + (4 * c + 6))) with
              | none => rfl
              | some r => simp
          · refine kx C ?_ B' A' g
            cases hpt : Mir.readPart c ((ns.drop p).take (4 * c + 6)) with
            | some q => rw [hpt] at z; cases z
            | none =>
              rw [hpt] at z
              cases z
              have : Mir.readAll ns.length ns = none := by rw [hread, hstep, hc]; simp [hpt]
              rw [this]
      · refine kx C ?_ B' A' g
        cases hc : Mir.partLen (ns.drop p) with
        | some c => rw [hc] at z; cases z
        | none =>
          rw [hc] at z
          cases z
          have : Mir.readAll ns.length ns = none := by rw [hread, hstep, hc]; rfl
          rw [this]
  · have hpe : p = ns.length := by omega
    subst hpe
    rw [decide_eq_false (by omega)]
    have hfin : Mir.readAll ns.length ns = some done := by rw [hread, List.drop_of_length_le (Nat.le_refl _), Nat.sub_self]; simp [Mir.readAll]
    obtain ⟨B4, S, e4⟩ := S.freeze M (by simp)
    refine q_dropX (W := fun cls d _ H => E cls d H) (vx_call (pre := fun ds r => ∃ l : List Dat, ds = [.lst l] ∧ r = if l.length > 160 then .err C_TooMuch else .ok .non) (va_cons (v_var rfl) va_nil) rfl ⟨_, rfl, rfl⟩) S (fun d z B5 A5 g5 S => ?_) (fun C z B' A' g => ?_)
    · have h160 : ¬ done.length > 160 := fun h => by rw [List.length_map, if_pos h] at z; cases z
      refine s_ret (v_var rfl) S fun v B' A' g r => k _ ?_ v B' A' g r
      rw [hfin]; simp only; rw [if_neg h160]
    · have h160 : done.length > 160 := by
        false_or_by_contra
        rename_i h
        rw [List.length_map, if_neg h] at z; cases z
      rw [List.length_map, if_pos h160] at z
      cases z
      exact kx _ (by rw [hfin]; simp only; rw [if_pos h160]) B' A' g

theorem sc_of_cutting : FnScope ["c", "answer", "cutting"] ["c", "answer"] (defScope s_of_cutting) := ⟨rfl, rfl, rfl, by decide +kernel, rfl, by decide +kernel, by decide +kernel⟩
/-- which exception is caught where -/
structure Caught (K : PySem.W.Frag) (C1 C2 : Addr) : Prop where
  a : PySem.W.exmOne K (.ref C1) (.ref C1) = some true
  b : PySem.W.exmOne K (.ref C2) (.ref C1) = some false
  c : PySem.W.exmOne K (.ref C2) (.ref C2) = some true
/-- what of_cutting makes of what it's handed: numbers, and a def with its promise -/
def sp_of_cutting (K : PySem.W.Frag) (fa : Addr) (spA : Sp) : Sp := fun vs H Q _ => ∃ (v : V) (B : Hp) (ns : List Int), vs = [v, .ref fa] ∧ Ex B H ∧ Rp K B v (.raw ns) ∧ ns.length ≤ 4000 ∧ (∀ n ∈ ns, Sz 256 n) ∧
    (Mir.readAll ns.length ns = none → ∀ v B' A', Grow B H B' A' → Rp K B' v (dI [-22]) → Q v A') ∧
    (∀ c, Mir.readAll ns.length ns = some c → 160 < c.length → ∀ v B' A', Grow B H B' A' → Rp K B' v (dI [-28]) → Q v A') ∧
    (∀ c, Mir.readAll ns.length ns = some c → ¬ 160 < c.length → ∀ v B' A', Grow B H B' A' → Rp K B' v (dC c) → spA [v] A' Q E0)
theorem ok_of_cutting {f fa : Addr} {fd fda : FuncData} {spA : Sp} (F : Def K mg "of_cutting" s_of_cutting ["c", "answer"] f fd) (T : Txt K mg) (Z1 : Exn K mg "NoCutting" C_NoCutting) (Z2 : Exn K mg "TooMuch" C_TooMuch) (hc : Caught K C_NoCutting C_TooMuch)
    (h_read_cutting : Has P w K mg base (L2.CX P w) 6 "read_cutting" ["numbers"] (sp_read_cutting K C_NoCutting C_TooMuch)) (FA : FnOk P w K mg base CX0 6 fa fda ["cutting"] spA) (kpA : PySem.W.keepIn K (.ref fa) = true) (bA : Binds K fda ["cutting"] []) :
    Has P w K mg base CX0 7 "of_cutting" ["c", "answer"] (sp_of_cutting K fa spA) := by
  refine F.has (F.F.ok sc_of_cutting (fun vs H Q E h => by obtain ⟨v, _, _, rfl, _⟩ := h; rfl) (fun cdg A outer s H vs Q E hr h => ?_))
  obtain ⟨v0, B0, ns, rfl, e0, hv, hl4, hs, k1, k2, k3⟩ := h
  refine ⟨_, pss_cons (ps_try_many (l := [(.ref C_NoCutting, fun _ _ _ => tRet (tLst (tCons (tC (.int (-22))) tNil))), (.ref C_TooMuch, fun _ _ _ => tRet (tLst (tCons (tC (.int (-28))) tNil)))]) (tb := fun W => tAsg (tCallS (sp_read_cutting K C_NoCutting C_TooMuch) (WE W) (tCons (tVar 0) tNil)) (gName 2)) (Wout := fun _ _ _ _ => False) rfl rfl takes0
      (fun W pn xe tk _ => pss_one (ps_set (i := 2) sc_of_cutting.nd rfl (Or.inl rfl) (h_read_cutting.peX (X := (cxOf CX0 P w K mg base ["c", "answer", "cutting"] "of_cutting" (defScope s_of_cutting) f cdg A outer s H E).nox.tr pn xe) hr (by decide) rfl (fun σ => passAt tk σ) (pa_cons (pv 0) pa_nil))))
      (.cons ⟨rfl, by decide, .inl Z1.g⟩ (fun _ _ _ _ _ _ _ => pss_one (ps_ret (pe_lst (pa_cons (glob_int rfl T.c_NO_SUCH) pa_nil))))
        (.cons ⟨rfl, by decide, .inl Z2.g⟩ (fun _ _ _ _ _ _ _ => pss_one (ps_ret (pe_lst (pa_cons (glob_int rfl T.c_TOO_MUCH) pa_nil)))) .nil)))
    (pss_one (ps_ret (pe_callL (i := 1) (X := (cxOf CX0 P w K mg base ["c", "answer", "cutting"] "of_cutting" (defScope s_of_cutting) f cdg A outer s H E).nox) FA (hr.mono (by decide)) rfl (Or.inl rfl) kpA bA .nil pass0 (pa_cons (pv 2) pa_nil)))), ?_⟩
  have S : State K B0 H [some (.raw ns), none, none] (L2.start ["c", "answer", "cutting"] [v0, .ref fa]) B0 H := by
    refine ⟨Grow.refl e0, ⟨rfl, fun i d hd => ?_⟩, rfl⟩
    rcases i with _ | _ | _ | i <;> simp at hd
    subst hd; exact ⟨_, rfl, hv⟩
  have one : ∀ (nx : L2.St → Hp → Prop) (i : Int) (σ : L2.St) (B A : Hp), State K B0 H [some (.raw ns), none, none] σ B A → (∀ v B' A', Grow B0 H B' A' → Rp K B' v (dI [i]) → Q v A') → tRet (tLst (tCons (tC (.int i)) tNil)) { nx := nx, rt := Q } σ A := fun nx i σ B A S k => s_ret (v_lst (va_cons v_int va_nil) (by simp)) S k
  have hcall := fun (W : WX) => vx_call (K := K) (G := [some (.raw ns), none, none]) (W := W) (n := 1) (pre := fun ds r => ∃ ns : List Int, ds = [.raw ns] ∧ ns.length ≤ 4000 ∧ (∀ n ∈ ns, Sz 256 n) ∧ r = match Mir.readAll ns.length ns with
    | none => .err C_NoCutting
    | some c => if c.length > 160 then .err C_TooMuch else .ok (dC c)) (va_cons (v_var (i := 0) rfl) va_nil) rfl ⟨ns, rfl, hl4, hs, rfl⟩
  refine q_setX (hcall _) S (by simp) (fun d z v B' A' g S' => ?_) (fun C z B' A' g => ?_)
  · cases hrd : Mir.readAll ns.length ns with
    | none => rw [hrd] at z; cases z
    | some cc =>
      rw [hrd] at z
      simp only at z
      by_cases h160 : cc.length > 160
      · rw [if_pos h160] at z; cases z
      · rw [if_neg h160] at z
        cases z
        refine ⟨rfl, ?_⟩
        obtain ⟨w, hw1, hw2⟩ := S'.h.2 2 _ rfl
        exact ⟨w, hw1, k3 cc hrd h160 w B' A' S'.g hw2⟩
  · cases hrd : Mir.readAll ns.length ns with
    | none =>
      rw [hrd] at z
      cases z
      exact ⟨true, hc.a, fun _ a _ => one _ (-22) _ B' A' ⟨g, S.h.ex g.bb, rfl⟩ (k1 hrd), (fun h => nomatch h)⟩
    | some cc =>
      rw [hrd] at z
      simp only at z
      by_cases h160 : cc.length > 160
      · rw [if_pos h160] at z
        cases z
        exact ⟨false, hc.b, (fun h => nomatch h), fun _ => ⟨true, hc.c, fun _ a _ => one _ (-28) _ B' A' ⟨g, S.h.ex g.bb, rfl⟩ (k2 cc hrd h160), (fun h => nomatch h)⟩⟩
      · rw [if_neg h160] at z; cases z

theorem sc_slid : FnScope ["c"] ["c"] (defScope s_slid) := ⟨rfl, rfl, rfl, by decide +kernel, rfl, by decide +kernel, by decide +kernel⟩
def sp_slid (K : PySem.W.Frag) : Sp := Fn K 1 fun ds res => ∃ ns : List Int, ds = [.raw ns] ∧ ns.length ≤ 4000 ∧ (∀ n ∈ ns, Sz 256 n) ∧ (∀ c, Mir.readAll ns.length ns = some c → ¬ 160 < c.length → Cut c) ∧ res = dI (Mir.ofCut Mir.slidOf ns)
theorem ok_slid {f g : Addr} {fd fg : FuncData} (F : Fun K "slid" "slid" s_slid f fd) (Fg : Def K mg "of_cutting" s_of_cutting ["c", "answer"] g fg) (T : Txt K mg) (Z1 : Exn K mg "NoCutting" C_NoCutting) (Z2 : Exn K mg "TooMuch" C_TooMuch) (hc : Caught K C_NoCutting C_TooMuch)
    (h_read_cutting : Has P w K mg base (L2.CX P w) 6 "read_cutting" ["numbers"] (sp_read_cutting K C_NoCutting C_TooMuch)) (h_slid_and_turned : Has P w K mg base CX0 1 "slid_and_turned" ["cutting"] (sp_slid_and_turned K)) :
    FnOk P w K mg base CX0 8 f fd ["c"] (sp_slid K) := by
  obtain ⟨fa, fda, FA, ma, kpA, bA⟩ := h_slid_and_turned.ex
  have h_of := ok_of_cutting Fg T Z1 Z2 hc h_read_cutting (FA.mono (by decide)) kpA bA
  refine F.ok sc_slid (fun vs H Q E h => h.1) (fun cdv A outer s H vs Q E hr h => ⟨_, pss_one (ps_ret (h_of.pe hr (by decide) rfl pass0 (pa_cons (pv 0) (pa_cons (pe_glob (v := .ref fa) rfl ma rfl) pa_nil)))), ?_⟩)
  obtain ⟨hn, B, ds, d, e, hr, ⟨ns, rfl, hl, hs, hC, rfl⟩, k⟩ := h
  cases hr with
  | @cons v _ _ _ r0 r1 =>
    cases r1
    refine ⟨v, rfl, v, B, ns, rfl, e, r0, hl, hs, fun hrd v' B' A' g r => k v' B' A' g ?_, fun c hrd h v' B' A' g r => k v' B' A' g ?_, fun c hrd h v' B' A' g r => ?_⟩
    · rw [Mir.ofCut, hrd]; exact r
    · rw [Mir.ofCut, hrd]; simp only [if_pos h]; exact r
    · refine ⟨rfl, B', [dC c], _, g.ba, .cons r .nil, ⟨c, rfl, hC c hrd h, rfl⟩, fun v2 B2 A2 g2 r2 => k v2 B2 A2 (g.trans g2) ?_⟩
      rw [Mir.ofCut, hrd]; simp only [if_neg h]; exact r2

end
end Y
end

section
set_option Elab.async false
set_option linter.all false
set_option maxRecDepth 100000
set_option maxHeartbeats 2000000
/-! What the end of a row wants: what the top has left, told in the words of the walk. -/
namespace Y
open PySem PySem.Spec PyProof.Rows L2
open Evl (Ex)
section
variable {K : PySem.W.Frag} {h : Heap} {mg : Str → Option Value}
/-- a def of the text as the top leaves it -/
theorem fun_ex {x : Str} {st : Stmt} {ps : List Str} {f : Addr} {oc kV doc pm cdv ct : Value} {od an : Option Addr} {osl : Array (Option Value)} (X : K.In h) (G : h.Ns mainGlobals mg) (a : PySem.W.nsIn K mainGlobals x = some (some (.ref f)))
    (l : K.lookup f = some ⟨oc, od, .func (PySem.W.fnOf x x (defArgs st) (defBody st) (defScope st) .none kV doc pm an cdv ct), osl⟩) (c : PySem.W.codeIn K cdv x = true) (k : PySem.W.keepIn K (.ref f) = true)
    (b : ∀ (kV doc pm : Value) (an : Option Addr) (cdv ct : Value) (us : List Value), us.length = ps.length → bindArgs (PySem.W.fnOf x x (defArgs st) (defBody st) (defScope st) .none kV doc pm an cdv ct) ⟨us, []⟩ = pure (ps.zip us)) :
    ∃ f fd, Def K mg x st ps f fd := ⟨f, _, fun_mk l c k, PySem.W.mg_of X G a, (fun_mk l c k).binds b⟩
theorem int_ex {x : Str} {i : Int} {t : Tok} (X : K.In h) (G : h.Ns mainGlobals mg) (a : PySem.W.nsIn K mainGlobals x = some (some (.int i t))) : ∃ t, mg x = some (.int i t) := ⟨t, PySem.W.mg_of X G a⟩
/-- whether a class's errors are what the other's name catches -/
theorem exm_of {S C : Addr} {b : Bool} (h1 : PySem.W.subIn K (.ref C) (.type "BaseException") = some true) (h2 : PySem.W.isClsIn K C = true) (h3 : PySem.W.typeIn K (.ref C) = some (.type "type")) (h4 : PySem.W.subIn K (.ref S) (.ref C) = some b) :
    PySem.W.exmOne K (.ref S) (.ref C) = some b := by
  have e1 : (PySem.W.subIn K (.ref C) (.type "BaseException") == some true) = true := by rw [h1]; rfl
  have e2 : ((PySem.W.clsIn K C).isSome && PySem.W.typeIn K (.ref C) == some (.type "type")) = true := by
    have h2' : (PySem.W.clsIn K C).isSome = true := h2
    rw [h2', h3]; rfl
  unfold PySem.W.exmOne PySem.W.kitCls
  rw [if_pos e1]
  simp only
  rw [if_pos e2]
  exact h4
end
/-- without the tables -/
def noTab (H : Hp) : Hp := fun b => match H b with
  | some (.tbl _) => none
  | o => o
section
variable {K : PySem.W.Frag} {H H1 : Hp} {a : Addr}
theorem noTab_at {o : HO} (h : H a = some o) (n : ∀ ps, o ≠ .tbl ps) : noTab H a = some o := by
  unfold noTab
  rw [h]
  cases o <;> first | rfl | exact (n _ rfl).elim
theorem noTab_ex (e : LamX.ExtN H H1) : Ex (noTab H) H1 := fun b o z => by
  unfold noTab at z
  split at z
  · cases z
  · rename_i hn
    exact e b o z fun ps q => hn ps (by rw [z, q])
theorem noTab_sq {xs : List V} (s : SqL K H a xs) : SqL K (noTab H) a xs := by
  rcases s with s | s
  · refine .inl (s.elim (fun z => .inl (noTab_at z fun ps => nofun)) fun ⟨o, z⟩ => .inr ⟨o, noTab_at z fun ps => nofun⟩)
  · exact .inr s
theorem rp_ints {B : Hp} : ∀ {ns : List Int} {xs : List V}, RpAll K B xs (ns.map Dat.int) → xs = ns.map V.int
  | [], _, h => by cases h; rfl
  | n :: ns, _, h => by
    cases h with
    | cons h1 h2 =>
      cases h1
      rw [rp_ints h2]; rfl
theorem dw_told {B A : Hp} {v : V} {ns : List Int} (e : Ex B A) (r : Rp K B v (dI ns)) : Dw K A v (.list (ns.map PySem.W.WData.int)) := by
  cases r with
  | lst h1 h2 =>
    rw [rp_ints h2] at h1
    exact .lst (Evl.sq_of (e _ _ h1)) (dw_ints ns)
end
theorem sz_of {i : Int} (h : -115792089237316195423570985008687907853269984665640564039457584007913129639935 ≤ i ∧ i ≤ 115792089237316195423570985008687907853269984665640564039457584007913129639935) : Sz 256 i := ⟨by
  have : (2 : Nat) ^ 256 = 115792089237316195423570985008687907853269984665640564039457584007913129639936 := by decide
  rw [this]; omega⟩
end Y
end

section
set_option Elab.async false
set_option linter.all false
set_option maxRecDepth 100000
set_option maxHeartbeats 4000000
namespace Y
open PySem PySem.Spec PyProof.Rows L2
open Evl (Ex)
open PySem.W (Codec WData)
theorem slid_sp {K : PySem.W.Frag} {H : Hp} {xs : List V} (a : Codec.denoteAll PySem.Challenge.rw_recutfigures_s04_slid.args) (hwi : Codec.withinAll PySem.Challenge.rw_recutfigures_s04_slid.args a = true) (hx : DwAll K H xs (Codec.encAll PySem.Challenge.rw_recutfigures_s04_slid.args a)) :
    sp_slid K xs H (fun v H' => Dw K H' v (PySem.Challenge.rw_recutfigures_s04_slid.ret.enc (Codec.app PySem.Challenge.rw_recutfigures_s04_slid.args PySem.Challenge.rw_recutfigures_s04_slid.f a))) fun _ _ _ => False := by
  cases hx with
  | cons h1 h2 =>
    cases h2
    cases h1 with
    | lst hs ha =>
      have e := ints_dw a.1 _ ha
      subst e
      have q : ((Codec.inLen 0 4000 a.1 && a.1.all (Codec.inInt (-115792089237316195423570985008687907853269984665640564039457584007913129639935) 115792089237316195423570985008687907853269984665640564039457584007913129639935)) && true) = true := hwi
      rw [Bool.and_eq_true, Bool.and_eq_true] at q
      have hl : a.1.length ≤ 4000 := (Codec.inNat_iff.mp q.1.1).2
      have hz : ∀ n ∈ a.1, Sz 256 n := fun n hn => by
        have := List.all_eq_true.mp q.1.2 n hn
        simp only [Codec.inInt, Bool.and_eq_true, decide_eq_true_eq] at this
        exact sz_of this
      refine ⟨rfl, H, [.raw a.1], _, Ex.refl H, .cons (.raw hs) .nil, ⟨a.1, rfl, hl, hz, fun c h1 h2 => Geo.cut_of hz h1 h2, rfl⟩, fun v B' A' g r => ?_⟩
      rw [← Geo.slid_answer hz] at r
      exact dw_told g.ba r
theorem slid_at {w : World} {K : PySem.W.Frag} {mg : Str → Option Value} {h : Heap} {fa f C_NoCutting C_TooMuch : Addr} {cdv oc kV doc pm ct : Value} {od an : Option Addr} {osl : Array (Option Value)}
    (KX : K.In h) (G : h.Ns mainGlobals mg) (hmg : mg "slid" = some (.ref fa)) (T : Txt K mg) (Z_NoCutting : Exn K mg "NoCutting" C_NoCutting) (Z_TooMuch : Exn K mg "TooMuch" C_TooMuch) (hc : Caught K C_NoCutting C_TooMuch)
    (D_check_count : ∃ f fd, Def K mg "check_count" s_check_count ["cutting"] f fd)
    (D_part_end : ∃ f fd, Def K mg "part_end" s_part_end ["numbers", "place"] f fd)
    (D_line_through : ∃ f fd, Def K mg "line_through" s_line_through ["p", "q"] f fd)
    (D_side_of : ∃ f fd, Def K mg "side_of" s_side_of ["line", "p"] f fd)
    (D_is_piece : ∃ f fd, Def K mg "is_piece" s_is_piece ["corners"] f fd)
    (D_common_factor : ∃ f fd, Def K mg "common_factor" s_common_factor ["a", "b"] f fd)
    (D_point : ∃ f fd, Def K mg "point" s_point ["x", "y", "d"] f fd)
    (D_point_at : ∃ f fd, Def K mg "point_at" s_point_at ["right", "up"] f fd)
    (D_read_fraction : ∃ f fd, Def K mg "read_fraction" s_read_fraction ["numbers", "place"] f fd)
    (D_read_point : ∃ f fd, Def K mg "read_point" s_read_point ["numbers", "place"] f fd)
    (D_read_part : ∃ f fd, Def K mg "read_part" s_read_part ["numbers"] f fd)
    (D_read_cutting : ∃ f fd, Def K mg "read_cutting" s_read_cutting ["numbers"] f fd)
    (D_slid_and_turned : ∃ f fd, Def K mg "slid_and_turned" s_slid_and_turned ["cutting"] f fd)
    (D_of_cutting : ∃ f fd, Def K mg "of_cutting" s_of_cutting ["c", "answer"] f fd)
    (a3 : PySem.W.nsIn K mainGlobals "slid" = some (some (.ref f))) (l3 : K.lookup f = some ⟨oc, od, .func (PySem.W.fnOf "slid" "slid" (defArgs s_slid) (defBody s_slid) (defScope s_slid) .none kV doc pm an cdv ct), osl⟩) (c3 : PySem.W.codeIn K cdv "slid" = true) (k3 : PySem.W.keepIn K (.ref f) = true)
    (PT : PySem.Challenge.rw_recutfigures_s04_slid.prog.given.tree = none) : LamY.SpecAt PySem.Challenge.rw_recutfigures_s04_slid w K CX0 8 ["c"] mg fa h := by
  have e0 := hmg.symm.trans (PySem.W.mg_of KX G a3)
  cases e0
  refine ⟨PySem.W.fnOf "slid" "slid" (defArgs s_slid) (defBody s_slid) (defScope s_slid) .none kV doc pm an cdv ct, [], sp_slid K, fun p hp => (nomatch hp), fun p hp => (nomatch hp), fun p hp => (nomatch hp), fun s us hu => match us, hu with | [_], _ => .of_eq rfl, fun H xs a hwi hask hT hx => slid_sp a hwi hx, fun base KB GB TB NS => ?_⟩
  obtain ⟨f_check_count, fd_check_count, F_check_count⟩ := D_check_count
  obtain ⟨f_part_end, fd_part_end, F_part_end⟩ := D_part_end
  obtain ⟨f_line_through, fd_line_through, F_line_through⟩ := D_line_through
  obtain ⟨f_side_of, fd_side_of, F_side_of⟩ := D_side_of
  obtain ⟨f_is_piece, fd_is_piece, F_is_piece⟩ := D_is_piece
  obtain ⟨f_common_factor, fd_common_factor, F_common_factor⟩ := D_common_factor
  obtain ⟨f_point, fd_point, F_point⟩ := D_point
  obtain ⟨f_point_at, fd_point_at, F_point_at⟩ := D_point_at
  obtain ⟨f_read_fraction, fd_read_fraction, F_read_fraction⟩ := D_read_fraction
  obtain ⟨f_read_point, fd_read_point, F_read_point⟩ := D_read_point
  obtain ⟨f_read_part, fd_read_part, F_read_part⟩ := D_read_part
  obtain ⟨f_read_cutting, fd_read_cutting, F_read_cutting⟩ := D_read_cutting
  obtain ⟨f_slid_and_turned, fd_slid_and_turned, F_slid_and_turned⟩ := D_slid_and_turned
  obtain ⟨f_of_cutting, fd_of_cutting, F_of_cutting⟩ := D_of_cutting
  have h_check_count := ok_check_count (P := PySem.Challenge.rw_recutfigures_s04_slid.prog) (w := w) (base := base) F_check_count T Z_TooMuch
  have h_part_end := ok_part_end (P := PySem.Challenge.rw_recutfigures_s04_slid.prog) (w := w) (base := base) F_part_end T Z_NoCutting
  have h_line_through := ok_line_through (P := PySem.Challenge.rw_recutfigures_s04_slid.prog) (w := w) (base := base) F_line_through T 
  have h_side_of := ok_side_of (P := PySem.Challenge.rw_recutfigures_s04_slid.prog) (w := w) (base := base) F_side_of T 
  have h_is_piece := ok_is_piece (P := PySem.Challenge.rw_recutfigures_s04_slid.prog) (w := w) (base := base) F_is_piece T h_line_through h_side_of
  have h_common_factor := ok_common_factor (P := PySem.Challenge.rw_recutfigures_s04_slid.prog) (w := w) (base := base) F_common_factor T 
  have h_point := ok_point (P := PySem.Challenge.rw_recutfigures_s04_slid.prog) (w := w) (base := base) F_point T h_common_factor
  have h_point_at := ok_point_at (P := PySem.Challenge.rw_recutfigures_s04_slid.prog) (w := w) (base := base) F_point_at T h_point
  have h_read_fraction := ok_read_fraction (P := PySem.Challenge.rw_recutfigures_s04_slid.prog) (w := w) (base := base) F_read_fraction T h_common_factor Z_NoCutting
  have h_read_point := ok_read_point (P := PySem.Challenge.rw_recutfigures_s04_slid.prog) (w := w) (base := base) F_read_point T h_point_at h_read_fraction Z_NoCutting
  have h_read_part := ok_read_part (P := PySem.Challenge.rw_recutfigures_s04_slid.prog) (w := w) (base := base) F_read_part T h_is_piece h_read_point Z_NoCutting
  have h_read_cutting := ok_read_cutting (P := PySem.Challenge.rw_recutfigures_s04_slid.prog) (w := w) (base := base) F_read_cutting T h_check_count h_part_end h_read_part Z_NoCutting Z_TooMuch
  have h_slid_and_turned := ok_slid_and_turned (P := PySem.Challenge.rw_recutfigures_s04_slid.prog) (w := w) (base := base) F_slid_and_turned T 
  exact ok_slid (fun_mk l3 c3 k3) F_of_cutting T Z_NoCutting Z_TooMuch hc h_read_cutting h_slid_and_turned
end Y
end

section
set_option Elab.async false
set_option linter.all false
set_option maxRecDepth 100000
set_option maxHeartbeats 4000000
open PySem PySem.W PyProof.Rows
theorem Y.said : PySem.Challenge.rw_recutfigures_s04_slid.wellSaid = true := by decide +kernel
theorem PySem.Challenge.cw_recutfigures_s04_slid_holds : PySem.Challenge.rw_recutfigures_s04_slid.Holds := by
  w_on; k_headS; (case hw => exact ⟨[.list []], by decide +kernel, by decide +kernel⟩)
  k_fillS
  refine LamY.walk_specT (r := PySem.Challenge.rw_recutfigures_s04_slid) (k := 8) (CX := L2.CX0) (ps := ["c"]) Y.said (by decide +kernel) rfl rfl ⟨rfl, by decide, by decide⟩ (fun w h Y => PySem.W.kIn_of Y) ?F (fun _ _ _ _ z => z)
  intro w mg fa h YY KX G hmg own
  have b_len : mg "len" = none := PySem.W.mg_none_of KX G (by k_is)
  have b_abs : mg "abs" = none := PySem.W.mg_none_of KX G (by k_is)
  have b_min : mg "min" = none := PySem.W.mg_none_of KX G (by k_is)
  have b_max : mg "max" = none := PySem.W.mg_none_of KX G (by k_is)
  have b_range : mg "range" = none := PySem.W.mg_none_of KX G (by k_is)
  have b_list : mg "list" = none := PySem.W.mg_none_of KX G (by k_is)
  have b_sorted : mg "sorted" = none := PySem.W.mg_none_of KX G (by k_is)
  have b_all : mg "all" = none := PySem.W.mg_none_of KX G (by k_is)
  have b_set : mg "set" = none := PySem.W.mg_none_of KX G (by k_is)
  have b_sum : mg "sum" = none := PySem.W.mg_none_of KX G (by k_is)
  have c_MOST_PARTS : ∃ t, mg "MOST_PARTS" = some (.int 160 t) := by
    refine' Y.int_ex KX G ?a_MOST_PARTS
    (case a_MOST_PARTS => k_is)
  have c_FEWEST_CORNERS : ∃ t, mg "FEWEST_CORNERS" = some (.int 3 t) := by
    refine' Y.int_ex KX G ?a_FEWEST_CORNERS
    (case a_FEWEST_CORNERS => k_is)
  have c_MOST_CORNERS : ∃ t, mg "MOST_CORNERS" = some (.int 40 t) := by
    refine' Y.int_ex KX G ?a_MOST_CORNERS
    (case a_MOST_CORNERS => k_is)
  have c_POINT_LENGTH : ∃ t, mg "POINT_LENGTH" = some (.int 4 t) := by
    refine' Y.int_ex KX G ?a_POINT_LENGTH
    (case a_POINT_LENGTH => k_is)
  have c_NO_SUCH : ∃ t, mg "NO_SUCH" = some (.int (-22) t) := by
    refine' Y.int_ex KX G ?a_NO_SUCH
    (case a_NO_SUCH => k_is)
  have c_TOO_MUCH : ∃ t, mg "TOO_MUCH" = some (.int (-28) t) := by
    refine' Y.int_ex KX G ?a_TOO_MUCH
    (case a_TOO_MUCH => k_is)
  refine' Y.slid_at KX G hmg ⟨b_len, b_abs, b_min, b_max, b_range, b_list, b_sorted, b_all, b_set, b_sum, c_MOST_PARTS, c_FEWEST_CORNERS, c_MOST_CORNERS, c_POINT_LENGTH, c_NO_SUCH, c_TOO_MUCH⟩ ⟨PySem.W.mg_of KX G ?zn, ?xn, ?kn, ?bn, ?tn⟩ ⟨PySem.W.mg_of KX G ?zt, ?xt, ?kt, ?bt, ?tt⟩ ⟨Y.exm_of ?bn ?i1 ?tn ?s1, Y.exm_of ?bn ?i1 ?tn ?s2, Y.exm_of ?bt ?i3 ?tt ?s3⟩ (Y.fun_ex KX G ?a_check_count ?l_check_count ?c_check_count ?k_check_count (fun _ _ _ _ _ _ us hl => match us, hl with | [_], _ => rfl)) (Y.fun_ex KX G ?a_part_end ?l_part_end ?c_part_end ?k_part_end (fun _ _ _ _ _ _ us hl => match us, hl with | [_, _], _ => rfl)) (Y.fun_ex KX G ?a_line_through ?l_line_through ?c_line_through ?k_line_through (fun _ _ _ _ _ _ us hl => match us, hl with | [_, _], _ => rfl)) (Y.fun_ex KX G ?a_side_of ?l_side_of ?c_side_of ?k_side_of (fun _ _ _ _ _ _ us hl => match us, hl with | [_, _], _ => rfl)) (Y.fun_ex KX G ?a_is_piece ?l_is_piece ?c_is_piece ?k_is_piece (fun _ _ _ _ _ _ us hl => match us, hl with | [_], _ => rfl)) (Y.fun_ex KX G ?a_common_factor ?l_common_factor ?c_common_factor ?k_common_factor (fun _ _ _ _ _ _ us hl => match us, hl with | [_, _], _ => rfl)) (Y.fun_ex KX G ?a_point ?l_point ?c_point ?k_point (fun _ _ _ _ _ _ us hl => match us, hl with | [_, _, _], _ => rfl)) (Y.fun_ex KX G ?a_point_at ?l_point_at ?c_point_at ?k_point_at (fun _ _ _ _ _ _ us hl => match us, hl with | [_, _], _ => rfl)) (Y.fun_ex KX G ?a_read_fraction ?l_read_fraction ?c_read_fraction ?k_read_fraction (fun _ _ _ _ _ _ us hl => match us, hl with | [_, _], _ => rfl)) (Y.fun_ex KX G ?a_read_point ?l_read_point ?c_read_point ?k_read_point (fun _ _ _ _ _ _ us hl => match us, hl with | [_, _], _ => rfl)) (Y.fun_ex KX G ?a_read_part ?l_read_part ?c_read_part ?k_read_part (fun _ _ _ _ _ _ us hl => match us, hl with | [_], _ => rfl)) (Y.fun_ex KX G ?a_read_cutting ?l_read_cutting ?c_read_cutting ?k_read_cutting (fun _ _ _ _ _ _ us hl => match us, hl with | [_], _ => rfl)) (Y.fun_ex KX G ?a_slid_and_turned ?l_slid_and_turned ?c_slid_and_turned ?k_slid_and_turned (fun _ _ _ _ _ _ us hl => match us, hl with | [_], _ => rfl)) (Y.fun_ex KX G ?a_of_cutting ?l_of_cutting ?c_of_cutting ?k_of_cutting (fun _ _ _ _ _ _ us hl => match us, hl with | [_, _], _ => rfl)) ?a3 ?l3 ?c3 ?k3 rfl
  (case zn => k_is); (case xn => k_exc); (case kn => k_is); (case bn => k_is); (case tn => k_is); (case i1 => k_is)
  (case zt => k_is); (case xt => k_exc); (case kt => k_is); (case bt => k_is); (case tt => k_is); (case i3 => k_is)
  (case s1 => first | rfl | k_is); (case s2 => first | rfl | k_is); (case s3 => first | rfl | k_is)
  (case a_check_count => k_is); (case l_check_count => k_is); (case c_check_count => k_is); (case k_check_count => k_is)
  (case a_part_end => k_is); (case l_part_end => k_is); (case c_part_end => k_is); (case k_part_end => k_is)
  (case a_line_through => k_is); (case l_line_through => k_is); (case c_line_through => k_is); (case k_line_through => k_is)
  (case a_side_of => k_is); (case l_side_of => k_is); (case c_side_of => k_is); (case k_side_of => k_is)
  (case a_is_piece => k_is); (case l_is_piece => k_is); (case c_is_piece => k_is); (case k_is_piece => k_is)
  (case a_common_factor => k_is); (case l_common_factor => k_is); (case c_common_factor => k_is); (case k_common_factor => k_is)
  (case a_point => k_is); (case l_point => k_is); (case c_point => k_is); (case k_point => k_is)
  (case a_point_at => k_is); (case l_point_at => k_is); (case c_point_at => k_is); (case k_point_at => k_is)
  (case a_read_fraction => k_is); (case l_read_fraction => k_is); (case c_read_fraction => k_is); (case k_read_fraction => k_is)
  (case a_read_point => k_is); (case l_read_point => k_is); (case c_read_point => k_is); (case k_read_point => k_is)
  (case a_read_part => k_is); (case l_read_part => k_is); (case c_read_part => k_is); (case k_read_part => k_is)
  (case a_read_cutting => k_is); (case l_read_cutting => k_is); (case c_read_cutting => k_is); (case k_read_cutting => k_is)
  (case a_slid_and_turned => k_is); (case l_slid_and_turned => k_is); (case c_slid_and_turned => k_is); (case k_slid_and_turned => k_is)
  (case a_of_cutting => k_is); (case l_of_cutting => k_is); (case c_of_cutting => k_is); (case k_of_cutting => k_is)
  (case a3 => k_is)
  (case l3 => k_is)
  (case c3 => k_is)
  (case k3 => k_is)
#print axioms PySem.Challenge.cw_recutfigures_s04_slid_holds
end
