import PyProof.Rows.All
import Wide.All
import OpenK.AllK
import Wide.FinOn
import Open.SpecLaws
import KE.OsGo
import HandS.ForSpec
import HandS.ForMost
import HandS.TryMany
import HandS.Deep
import HandS.TupLen
import HandS.TupSets
import HandS.SetFor
import HandS.Walk
import HandS.Flow
import KE.KDictDisplayH
import HandS.Lambda
import HandS.SortKw
import KE.DataMinKey
import PySem.Challenge.RW_onecover_s01_answers
set_option Elab.async false
set_option linter.all false
set_option maxRecDepth 100000
set_option maxHeartbeats 2000000
/-! The edge of a shape: any closed way along sides with the shape on the left passes each such side equally often. -/
namespace Geo
open Ti01

abbrev Ed := Cell × Nat

def bd (s : List Cell) (e : Ed) : Prop := e.2 < 4 ∧ leftOf e.1 e.2 ∈ s ∧ rightOf e.1 e.2 ∉ s

def Path : Cell → List Ed → Cell → Prop
  | a, [], b => a = b
  | a, e :: es, b => e.1 = a ∧ Path (ahead e.1 e.2) es b

def tot (f : Ed → Int) : List Ed → Int
  | [] => 0
  | e :: es => f e + tot f es

def fv (x y : Int) (e : Ed) : Int :=
  if e.2 = 1 then (if e.1.1 = x ∧ e.1.2 = y then 1 else 0)
  else if e.2 = 3 then (if e.1.1 = x ∧ e.1.2 = y + 1 then -1 else 0) else 0
def fh (x y : Int) (e : Ed) : Int :=
  if e.2 = 0 then (if e.1.1 = x ∧ e.1.2 = y then 1 else 0)
  else if e.2 = 2 then (if e.1.1 = x + 1 ∧ e.1.2 = y then -1 else 0) else 0
def ff (x y : Int) (e : Ed) : Int :=
  if e.2 = 1 then (if e.1.2 = y ∧ e.1.1 ≤ x then 1 else 0)
  else if e.2 = 3 then (if e.1.2 = y + 1 ∧ e.1.1 ≤ x then -1 else 0) else 0
def fi (x y : Int) (p : Cell) : Int := if p.2 = y ∧ p.1 ≤ x then 1 else 0

theorem ff_x (x y : Int) (e : Ed) : ff x y e - ff (x - 1) y e = fv x y e := by
  unfold ff fv
  split
  · repeat' split
    all_goals omega
  · split
    · repeat' split
      all_goals omega
    · omega

theorem ff_y (x y : Int) (p : Cell) (d : Nat) (hd : d < 4) :
    ff x y (p, d) - ff x (y - 1) (p, d) + fh x y (p, d) = fi x y p - fi x y (ahead p d) := by
  have : d = 0 ∨ d = 1 ∨ d = 2 ∨ d = 3 := by omega
  rcases this with h | h | h | h <;> subst h <;> simp [ff, fh, fi, ahead] <;> repeat' split
  all_goals omega

theorem tot_x (x y : Int) (es : List Ed) : tot (ff x y) es - tot (ff (x - 1) y) es = tot (fv x y) es := by
  induction es with
  | nil => rfl
  | cons e es ih =>
    have := ff_x x y e
    simp only [tot]
    omega

theorem tot_y (x y : Int) (es : List Ed) : ∀ (a b : Cell), (∀ e ∈ es, e.2 < 4) → Path a es b →
    tot (ff x y) es - tot (ff x (y - 1)) es + tot (fh x y) es = fi x y a - fi x y b := by
  induction es with
  | nil => intro a b _ h; simp only [Path] at h; subst h; simp [tot]
  | cons e es ih =>
    intro a b hd h
    obtain ⟨h1, h2⟩ := h
    have i := ih _ _ (fun e he => hd e (List.mem_cons_of_mem _ he)) h2
    have j := ff_y x y e.1 e.2 (hd e (List.mem_cons_self ..))
    simp only [tot]
    have k : ((e.1, e.2) : Ed) = e := rfl
    rw [k] at j
    rw [← h1]
    omega

theorem tot_fv (x y : Int) (es : List Ed) :
    tot (fv x y) es = (es.count ((x, y), 1) : Int) - (es.count ((x, y + 1), 3) : Int) := by
  induction es with
  | nil => rfl
  | cons e es ih =>
    obtain ⟨⟨px, py⟩, d⟩ := e
    simp only [tot, List.count_cons, ih, fv, beq_iff_eq, Prod.mk.injEq]
    repeat' split
    all_goals omega

theorem tot_fh (x y : Int) (es : List Ed) :
    tot (fh x y) es = (es.count ((x, y), 0) : Int) - (es.count ((x + 1, y), 2) : Int) := by
  induction es with
  | nil => rfl
  | cons e es ih =>
    obtain ⟨⟨px, py⟩, d⟩ := e
    simp only [tot, List.count_cons, ih, fh, beq_iff_eq, Prod.mk.injEq]
    repeat' split
    all_goals omega

/-! joined -/
theorem spread_ind (s : List Cell) (P : Cell → Prop) (st : ∀ a c, a ∈ s → c ∈ s → c ∈ near a → P a → P c) :
    ∀ (n : Nat) (l : List Cell), (∀ a ∈ l, a ∈ s ∧ P a) → ∀ c ∈ spread s n l, c ∈ s ∧ P c := by
  intro n
  induction n with
  | zero => intro l h c hc; exact h c hc
  | succ n ih =>
    intro l h c hc
    refine ih _ ?_ c hc
    intro a ha
    rw [List.mem_filter] at ha
    refine ⟨ha.1, ?_⟩
    have h2 := ha.2
    rw [Bool.or_eq_true, List.contains_iff_mem, List.any_eq_true] at h2
    rcases h2 with h2 | ⟨b, hb, hn⟩
    · exact (h a h2).2
    · rw [List.contains_iff_mem] at hn
      exact st b a (h b hb).1 ha.1 hn (h b hb).2

theorem spread_sub (s : List Cell) : ∀ (n : Nat) (l : List Cell), ∃ p : Cell → Bool, spread s (n + 1) l = s.filter p := by
  intro n
  induction n with
  | zero => intro l; exact ⟨_, rfl⟩
  | succ n ih => intro l; exact ih _

theorem joined_all {c : Cell} {r : List Cell} (h : joined (c :: r) = true) : ∀ a ∈ c :: r, a ∈ spread (c :: r) (c :: r).length [c] := by
  have h' : (spread (c :: r) (c :: r).length [c]).length = (c :: r).length := by
    simpa [joined] using h
  obtain ⟨p, hp⟩ := spread_sub (c :: r) r.length [c]
  have e : (c :: r).length = r.length + 1 := rfl
  rw [e] at h' ⊢
  rw [hp] at h' ⊢
  intro a ha
  have := List.length_filter_eq_length_iff.mp h'
  exact List.mem_filter.mpr ⟨ha, this a ha⟩

theorem joined_ind {s : List Cell} (h : joined s = true) (P : Cell → Prop)
    (st : ∀ a c, a ∈ s → c ∈ s → c ∈ near a → P a → P c) {c0 : Cell} (h0 : s.head? = some c0) (hP : P c0) : ∀ c ∈ s, P c := by
  cases s with
  | nil => cases h0
  | cons c r =>
    cases h0
    intro a ha
    exact (spread_ind _ P st _ _ (by intro b hb; rw [List.mem_singleton] at hb; subst hb; exact ⟨List.mem_cons_self .., hP⟩) a (joined_all h a ha)).2

/-- a number that is the same on both sides of each side within s is the same all over s -/
theorem joined_const {s : List Cell} (h : joined s = true) (F : Cell → Int)
    (st : ∀ a c, a ∈ s → c ∈ s → c ∈ near a → F c = F a) : ∀ a ∈ s, ∀ c ∈ s, F a = F c := by
  cases s with
  | nil => intro a ha; cases ha
  | cons c r =>
    have := joined_ind h (fun a => F a = F c) (fun a b ha hb hn e => (st a b ha hb hn).trans e) (c0 := c) rfl rfl
    intro a ha b hb
    exact (this a ha).trans (this b hb).symm

theorem mem_around (s : List Cell) (c : Cell) : c ∈ around s ↔ (-1 ≤ c.1 ∧ c.1 ≤ 12 ∧ -1 ≤ c.2 ∧ c.2 ≤ 12) ∧ c ∉ s := by
  unfold around
  rw [List.mem_filter, List.mem_flatMap]
  constructor
  · rintro ⟨⟨x, hx, h⟩, h2⟩
    rw [List.mem_map] at h
    obtain ⟨y, hy, e⟩ := h
    rw [List.mem_range] at hx hy
    subst e
    refine ⟨⟨?_, ?_, ?_, ?_⟩, ?_⟩
    · show (-1 : Int) ≤ (x : Int) - 1; omega
    · show (x : Int) - 1 ≤ 12; omega
    · show (-1 : Int) ≤ (y : Int) - 1; omega
    · show (y : Int) - 1 ≤ 12; omega
    · intro hm
      rw [← List.contains_iff_mem] at hm
      rw [hm] at h2
      cases h2
  · rintro ⟨⟨h1, h2, h3, h4⟩, h5⟩
    refine ⟨⟨(c.1 + 1).toNat, List.mem_range.mpr (by omega), List.mem_map.mpr ⟨(c.2 + 1).toNat, List.mem_range.mpr (by omega), ?_⟩⟩, ?_⟩
    · apply Prod.ext
      · show ((c.1 + 1).toNat : Int) - 1 = c.1; omega
      · show ((c.2 + 1).toNat : Int) - 1 = c.2; omega
    · cases hc : s.contains c
      · rfl
      · exact absurd (List.contains_iff_mem.mp hc) h5

theorem mem_near (a c : Cell) : c ∈ near a ↔ c = (a.1 + 1, a.2) ∨ c = (a.1, a.2 + 1) ∨ c = (a.1 - 1, a.2) ∨ c = (a.1, a.2 - 1) := by
  simp [near]

/-- the plain premises on a shape -/
structure Good (s : List Cell) : Prop where
  box : ∀ c ∈ s, 0 ≤ c.1 ∧ c.1 ≤ 11 ∧ 0 ≤ c.2 ∧ c.2 ≤ 11
  jo : joined s = true
  ja : joined (around s) = true

section closed
variable {s : List Cell} {es : List Ed} {a : Cell}

theorem count_bd (hb : ∀ e ∈ es, bd s e) {e : Ed} (h : ¬ bd s e) : es.count e = 0 :=
  List.count_eq_zero.mpr fun hm => h (hb e hm)

theorem step_x (hb : ∀ e ∈ es, bd s e) (x y : Int) (h : (x - 1, y) ∈ s ↔ (x, y) ∈ s) :
    tot (ff x y) es = tot (ff (x - 1) y) es := by
  have h1 := tot_x x y es
  rw [tot_fv] at h1
  have h2 : es.count ((x, y), 1) = 0 := count_bd hb (by
    rintro ⟨_, h2, h3⟩; exact h3 (h.mp h2))
  have h3 : es.count ((x, y + 1), 3) = 0 := count_bd hb (by
    rintro ⟨_, h2, h3⟩
    have e : y + 1 - 1 = y := by omega
    simp only [leftOf, rightOf, e] at h2 h3
    exact h3 (h.mpr h2))
  omega

theorem step_y (hb : ∀ e ∈ es, bd s e) (hp : Path a es a) (x y : Int) (h : (x, y - 1) ∈ s ↔ (x, y) ∈ s) :
    tot (ff x y) es = tot (ff x (y - 1)) es := by
  have h1 := tot_y x y es a a (fun e he => (hb e he).1) hp
  rw [tot_fh] at h1
  have h2 : es.count ((x, y), 0) = 0 := count_bd hb (by
    rintro ⟨_, h2, h3⟩; exact h3 (h.mpr h2))
  have h3 : es.count ((x + 1, y), 2) = 0 := count_bd hb (by
    rintro ⟨_, h2, h3⟩
    have e : x + 1 - 1 = x := by omega
    simp only [leftOf, rightOf, e] at h2 h3
    exact h3 (h.mp h2))
  omega

theorem step_near (hb : ∀ e ∈ es, bd s e) (hp : Path a es a) {b c : Cell} (hn : c ∈ near b) (h : b ∈ s ↔ c ∈ s) :
    tot (ff c.1 c.2) es = tot (ff b.1 b.2) es := by
  obtain ⟨x, y⟩ := b
  rw [mem_near] at hn
  rcases hn with e | e | e | e <;> subst e
  · have := step_x hb (x + 1) y (by rw [show x + 1 - 1 = x by omega]; exact h)
    rw [show x + 1 - 1 = x by omega] at this
    exact this
  · have := step_y hb hp x (y + 1) (by rw [show y + 1 - 1 = y by omega]; exact h)
    rw [show y + 1 - 1 = y by omega] at this
    exact this
  · exact (step_x hb x y h.symm).symm
  · exact (step_y hb hp x y h.symm).symm

theorem tot_left (hb : ∀ e ∈ es, bd s e) (g : Good s) : tot (ff (-1) (-1)) es = 0 := by
  induction es with
  | nil => rfl
  | cons e es ih =>
    have h1 := ih (fun e he => hb e (List.mem_cons_of_mem _ he))
    have h2 := hb e (List.mem_cons_self ..)
    have h3 : ff (-1) (-1) e = 0 := by
      obtain ⟨⟨px, py⟩, d⟩ := e
      obtain ⟨hd, hl, _⟩ := h2
      have hx := g.box _ hl
      have : d = 0 ∨ d = 1 ∨ d = 2 ∨ d = 3 := by simp only at hd; omega
      rcases this with h | h | h | h <;> subst h <;> simp [ff, leftOf] at hx ⊢ <;> omega
    simp only [tot]
    omega

/-- **each side equally often** -/
theorem all_same (g : Good s) (hb : ∀ e ∈ es, bd s e) (hp : Path a es a) : ∃ k : Nat, ∀ e, bd s e → es.count e = k := by
  have cS : ∀ b ∈ s, ∀ c ∈ s, tot (ff b.1 b.2) es = tot (ff c.1 c.2) es :=
    joined_const g.jo (fun c => tot (ff c.1 c.2) es) (fun b c hb' hc hn => step_near hb hp hn ⟨fun _ => hc, fun _ => hb'⟩)
  have cA : ∀ b ∈ around s, ∀ c ∈ around s, tot (ff b.1 b.2) es = tot (ff c.1 c.2) es :=
    joined_const g.ja (fun c => tot (ff c.1 c.2) es) (fun b c hb' hc hn => step_near hb hp hn
      ⟨fun h => absurd h ((mem_around s b).mp hb').2, fun h => absurd h ((mem_around s c).mp hc).2⟩)
  have corner : ((-1, -1) : Cell) ∈ around s := (mem_around s _).mpr ⟨by decide, fun h => by have := (g.box _ h).1; revert this; decide⟩
  have zA : ∀ c ∈ around s, tot (ff c.1 c.2) es = 0 := fun c hc => (cA c hc _ corner).trans (tot_left hb g)
  cases hs : s with
  | nil => exact ⟨0, fun e he => by have := he.2.1; cases this⟩
  | cons c0 r =>
    have m0 : c0 ∈ s := by rw [hs]; exact List.mem_cons_self ..
    refine ⟨(- tot (ff c0.1 c0.2) es).toNat, ?_⟩
    rw [← hs]
    intro e he
    obtain ⟨⟨px, py⟩, d⟩ := e
    obtain ⟨hd, hl, hr⟩ := he
    have hx := g.box _ hl
    have e1 := cS _ hl c0 m0
    have hr' : rightOf (px, py) d ∈ around s := by
      refine (mem_around s _).mpr ⟨?_, hr⟩
      have : d = 0 ∨ d = 1 ∨ d = 2 ∨ d = 3 := by simp only at hd; omega
      rcases this with h | h | h | h <;> subst h <;> simp only [leftOf, rightOf] at hx ⊢ <;> omega
    have e2 := zA _ hr'
    have : d = 0 ∨ d = 1 ∨ d = 2 ∨ d = 3 := by simp only at hd; omega
    rcases this with h | h | h | h <;> subst h <;> simp only [leftOf, rightOf] at hl hr e1 e2
    · have t := tot_y px py es a a (fun e he => (hb e he).1) hp
      rw [tot_fh] at t
      have z : es.count ((px + 1, py), 2) = 0 := count_bd hb (by
        rintro ⟨_, _, h3⟩
        rw [show rightOf (px + 1, py) 2 = (px, py) by simp [rightOf]] at h3
        exact h3 hl)
      omega
    · have t := tot_x px py es
      rw [tot_fv] at t
      have z : es.count ((px, py + 1), 3) = 0 := count_bd hb (by
        rintro ⟨_, _, h3⟩
        rw [show rightOf (px, py + 1) 3 = (px - 1, py) by simp [rightOf]] at h3
        exact h3 hl)
      omega
    · have t := tot_y (px - 1) py es a a (fun e he => (hb e he).1) hp
      rw [tot_fh, show px - 1 + 1 = px by omega] at t
      have z : es.count ((px - 1, py), 0) = 0 := count_bd hb (by
        rintro ⟨_, _, h3⟩
        exact h3 hl)
      omega
    · have t := tot_x px (py - 1) es
      rw [tot_fv, show py - 1 + 1 = py by omega] at t
      have z : es.count ((px, py - 1), 1) = 0 := count_bd hb (by
        rintro ⟨_, _, h3⟩
        exact h3 hl)
      omega
end closed
end Geo
/-! The specification's walk round the edge: it comes back, and passes each side with the shape on the left just once; a corner has one such side at most. -/
namespace Geo
open Ti01

def nxt (s : List Cell) (e : Ed) : Ed := (ahead e.1 e.2, turn s (ahead e.1 e.2) e.2)
def st (s : List Cell) (b : Cell) : Nat → Ed
  | 0 => (b, 0)
  | i + 1 => nxt s (st s b i)
def seg (s : List Cell) (b : Cell) (i : Nat) : Nat → List Ed
  | 0 => []
  | n + 1 => st s b i :: seg s b (i + 1) n

theorem bd_nxt {s : List Cell} {e : Ed} (h : bd s e) : bd s (nxt s e) := by
  obtain ⟨⟨px, py⟩, d⟩ := e
  obtain ⟨hd, hl, hr⟩ := h
  have : d = 0 ∨ d = 1 ∨ d = 2 ∨ d = 3 := by simp only at hd; omega
  rcases this with h | h | h | h <;> subst h <;> simp only [leftOf, rightOf] at hl hr <;>
    simp only [nxt, turn, ahead, List.contains_iff_mem] <;> split <;> rename_i h1
  all_goals try (split <;> rename_i h2)
  all_goals simp only [leftOf, rightOf] at h1
  all_goals try simp only [leftOf, rightOf] at h2
  all_goals refine ⟨by simp, ?_, ?_⟩
  all_goals simp only [leftOf, rightOf, Nat.zero_add, Nat.reduceAdd, Nat.reduceMod]
  all_goals try assumption
  all_goals try simp only [Int.add_sub_cancel, Int.sub_add_cancel]
  all_goals try assumption
  all_goals simp only [Int.add_sub_cancel, Int.sub_add_cancel] at h1
  all_goals try assumption
  all_goals simp only [Int.add_sub_cancel, Int.sub_add_cancel] at h2
  all_goals assumption

theorem bd_st {s : List Cell} {b : Cell} (h : bd s (b, 0)) : ∀ i, bd s (st s b i)
  | 0 => h
  | i + 1 => bd_nxt (bd_st h i)

theorem seg_path (s : List Cell) (b : Cell) : ∀ (n i : Nat), Path (st s b i).1 (seg s b i n) (st s b (i + n)).1
  | 0, i => rfl
  | n + 1, i => ⟨rfl, by
      have := seg_path s b n (i + 1)
      rw [show i + 1 + n = i + (n + 1) by omega] at this
      exact this⟩

theorem mem_seg (s : List Cell) (b : Cell) : ∀ (n i : Nat) (e : Ed), e ∈ seg s b i n ↔ ∃ k, i ≤ k ∧ k < i + n ∧ st s b k = e
  | 0, i, e => by simp [seg]; omega
  | n + 1, i, e => by
    simp only [seg, List.mem_cons, mem_seg s b n (i + 1) e]
    constructor
    · rintro (h | ⟨k, h1, h2, h3⟩)
      · exact ⟨i, by omega, by omega, h.symm⟩
      · exact ⟨k, by omega, by omega, h3⟩
    · rintro ⟨k, h1, h2, h3⟩
      by_cases e : k = i
      · left; rw [← h3, e]
      · right; exact ⟨k, by omega, by omega, h3⟩

theorem seg_len (s : List Cell) (b : Cell) : ∀ (n i : Nat), (seg s b i n).length = n
  | 0, _ => rfl
  | n + 1, i => by simp [seg, seg_len s b n (i + 1)]

theorem seg_add (s : List Cell) (b : Cell) : ∀ (n m i : Nat), seg s b i (n + m) = seg s b i n ++ seg s b (i + n) m
  | 0, m, i => by simp [seg]
  | n + 1, m, i => by
    rw [show n + 1 + m = (n + m) + 1 by omega]
    simp only [seg, List.cons_append, seg_add s b n m (i + 1)]
    rw [show i + 1 + n = i + (n + 1) by omega]

theorem walk_seg (s : List Cell) (b : Cell) : ∀ (n m i : Nat), 1 ≤ m → m ≤ n → (st s b (i + m)).1 = b →
    (∀ k, 0 < k → k < m → (st s b (i + k)).1 ≠ b) →
    walk s b n (st s b i).1 (st s b i).2 = (seg s b i m).map (·.2)
  | 0, m, i, h1, h2, _, _ => by omega
  | n + 1, m, i, h1, h2, h3, h4 => by
    obtain ⟨m', rfl⟩ : ∃ m', m = m' + 1 := ⟨m - 1, by omega⟩
    simp only [walk, seg, List.map_cons]
    congr 1
    have e : ahead (st s b i).1 (st s b i).2 = (st s b (i + 1)).1 := rfl
    have e2 : turn s (st s b (i + 1)).1 (st s b i).2 = (st s b (i + 1)).2 := rfl
    rw [e]
    by_cases hm : m' = 0
    · subst hm
      rw [if_pos h3]
      rfl
    · rw [if_neg (h4 1 (by omega) (by omega)), e2]
      refine walk_seg s b n m' (i + 1) (by omega) (by omega) (by rw [show i + 1 + m' = i + (m' + 1) by omega]; exact h3) ?_
      intro k k1 k2
      rw [show i + 1 + k = i + (1 + k) by omega]
      exact h4 _ (by omega) (by omega)

/-- all sides that may be on the edge -/
def sides (s : List Cell) : List Ed := s.flatMap fun c => [((c.1, c.2), 0), ((c.1 + 1, c.2), 1), ((c.1 + 1, c.2 + 1), 2), ((c.1, c.2 + 1), 3)]

theorem sides_len (s : List Cell) : (sides s).length = 4 * s.length := by
  induction s with
  | nil => rfl
  | cons c s ih =>
    simp only [sides, List.flatMap_cons, List.length_append, List.length_cons, List.length_nil] at ih ⊢
    omega

theorem mem_sides {s : List Cell} {e : Ed} (h : bd s e) : e ∈ sides s := by
  obtain ⟨⟨px, py⟩, d⟩ := e
  obtain ⟨hd, hl, _⟩ := h
  have : d = 0 ∨ d = 1 ∨ d = 2 ∨ d = 3 := by simp only at hd; omega
  refine List.mem_flatMap.mpr ⟨_, hl, ?_⟩
  rcases this with h | h | h | h <;> subst h <;> simp [leftOf]

theorem twice (f : Nat → Ed) (l : List Ed) (h : ∀ i, f i ∈ l) : ∃ i j, i < j ∧ j ≤ l.length ∧ f i = f j := by
  apply Classical.byContradiction
  intro hn
  have nd : ((List.range (l.length + 1)).map f).Nodup := by
    rw [List.nodup_iff_pairwise_ne, List.pairwise_map]
    refine List.Pairwise.imp_of_mem ?_ List.pairwise_lt_range
    intro a b ha hb hab e
    rw [List.mem_range] at ha hb
    exact hn ⟨a, b, hab, by omega, e⟩
  have := List.Nodup.length_le_of_subset nd (l₂ := l) (by
    intro e he
    rw [List.mem_map] at he
    obtain ⟨i, _, rfl⟩ := he
    exact h i)
  simp at this
  omega

theorem least {p : Nat → Prop} (h : ∃ n, p n) : ∃ n, p n ∧ ∀ k, k < n → ¬ p k := by
  obtain ⟨n, hn⟩ := h
  induction n using Nat.strongRecOn with
  | _ n ih =>
    by_cases hk : ∃ k, k < n ∧ p k
    · obtain ⟨k, h1, h2⟩ := hk
      exact ih k h1 h2
    · exact ⟨n, hn, fun k h1 h2 => hk ⟨k, h1, h2⟩⟩

theorem count_pos_seg {s : List Cell} {b : Cell} {i n k : Nat} (h1 : i ≤ k) (h2 : k < i + n) : 0 < (seg s b i n).count (st s b k) :=
  List.count_pos_iff.mpr ((mem_seg s b n i _).mpr ⟨k, h1, h2, rfl⟩)

/-- it comes back to where it began -/
theorem comes_back {s : List Cell} (g : Good s) {b : Cell} (h : bd s (b, 0)) : ∃ m, (1 ≤ m ∧ m ≤ 4 * s.length ∧ (st s b m).1 = b) ∧
    ∀ k, k < m → ¬ (1 ≤ k ∧ k ≤ 4 * s.length ∧ (st s b k).1 = b) := by
  apply least
  obtain ⟨i, j, hij, hj, e⟩ := twice (st s b) (sides s) (fun i => mem_sides (bd_st h i))
  rw [sides_len] at hj
  have hp : Path (st s b i).1 (seg s b i (j - i)) (st s b i).1 := by
    have := seg_path s b (j - i) i
    rw [show i + (j - i) = j by omega, ← e] at this
    exact this
  obtain ⟨k, hk⟩ := all_same g (es := seg s b i (j - i)) (by
    intro e' he'
    obtain ⟨k, _, _, h3⟩ := (mem_seg s b _ _ _).mp he'
    rw [← h3]; exact bd_st h k) hp
  have k0 : 0 < k := by
    rw [← hk _ (bd_st h i)]
    exact count_pos_seg (Nat.le_refl _) (by omega)
  have m0 : (b, 0) ∈ seg s b i (j - i) := List.count_pos_iff.mp (by rw [hk _ h]; exact k0)
  obtain ⟨t, t1, t2, t3⟩ := (mem_seg s b _ _ _).mp m0
  by_cases t0 : t = 0
  · have i0 : i = 0 := by omega
    refine ⟨j, by omega, hj, ?_⟩
    rw [← e, i0]
    rfl
  · exact ⟨t, by omega, by omega, by rw [t3]⟩

/-- **The walk**: m steps, from b to b; each side just once; one side at each corner. -/
structure Round (s : List Cell) (b : Cell) (m : Nat) : Prop where
  pos : 1 ≤ m
  most : m ≤ 4 * s.length
  back : (st s b m).1 = b
  inner : ∀ k, 0 < k → k < m → (st s b k).1 ≠ b
  on : ∀ i, bd s (st s b i)
  once : ∀ e, bd s e → (seg s b 0 m).count e = 1
  one : ∀ p d d', bd s (p, d) → bd s (p, d') → d = d'

theorem round {s : List Cell} (g : Good s) {b : Cell} (h : bd s (b, 0)) : ∃ m, Round s b m := by
  obtain ⟨m, ⟨m1, m2, m3⟩, m4⟩ := comes_back g h
  have inner : ∀ k, 0 < k → k < m → (st s b k).1 ≠ b := fun k k1 k2 k3 => m4 k k2 ⟨k1, by omega, k3⟩
  have all_bd : ∀ i n, ∀ e ∈ seg s b i n, bd s e := by
    intro i n e' he'
    obtain ⟨k, _, _, h3⟩ := (mem_seg s b _ _ _).mp he'
    rw [← h3]; exact bd_st h k
  have once : ∀ e, bd s e → (seg s b 0 m).count e = 1 := by
    have hp : Path b (seg s b 0 m) b := by
      have := seg_path s b m 0
      rw [Nat.zero_add, m3] at this
      exact this
    obtain ⟨k, hk⟩ := all_same g (all_bd 0 m) hp
    have k1 : k = 1 := by
      rw [← hk _ h]
      obtain ⟨m', rfl⟩ : ∃ m', m = m' + 1 := ⟨m - 1, by omega⟩
      simp only [seg, st, List.count_cons_self]
      have : (seg s b (0 + 1) m').count (b, 0) = 0 := by
        apply List.count_eq_zero.mpr
        intro hm
        obtain ⟨t, t1, t2, t3⟩ := (mem_seg s b _ _ _).mp hm
        exact inner t (by omega) (by omega) (by rw [t3])
      omega
    intro e he
    rw [hk e he, k1]
  have lt : ∀ p i j, i < j → j < m → (st s b i).1 = p → (st s b j).1 = p → False := by
    intro p i j hij hj e1 e2
    have hp : Path p (seg s b i (j - i)) p := by
      have := seg_path s b (j - i) i
      rw [show i + (j - i) = j by omega, e1, e2] at this
      exact this
    obtain ⟨k, hk⟩ := all_same g (all_bd i (j - i)) hp
    have k0 : 0 < (seg s b i (j - i)).count (st s b j) := by
      rw [hk _ (bd_st h j), ← hk _ (bd_st h i)]
      exact count_pos_seg (Nat.le_refl _) (by omega)
    have k1 : 0 < (seg s b j (m - j)).count (st s b j) := count_pos_seg (Nat.le_refl _) (by omega)
    have o := once _ (bd_st h j)
    rw [show m = i + ((j - i) + (m - j)) by omega, seg_add, seg_add, List.count_append, List.count_append, show 0 + i + (j - i) = j by omega, show 0 + i = i by omega] at o
    omega
  refine ⟨m, m1, m2, m3, inner, bd_st h, once, ?_⟩
  intro p d d' h1 h2
  have c1 : 0 < (seg s b 0 m).count (p, d) := by rw [once _ h1]; decide
  have c2 : 0 < (seg s b 0 m).count (p, d') := by rw [once _ h2]; decide
  obtain ⟨i, _, i2, i3⟩ := (mem_seg s b _ _ _).mp (List.count_pos_iff.mp c1)
  obtain ⟨j, _, j2, j3⟩ := (mem_seg s b _ _ _).mp (List.count_pos_iff.mp c2)
  rcases Nat.lt_trichotomy i j with t | t | t
  · exact (lt p i j t (by omega) (by rw [i3]) (by rw [j3])).elim
  · subst t
    rw [i3] at j3
    exact (Prod.mk.inj j3).2
  · exact (lt p j i t (by omega) (by rw [j3]) (by rw [i3])).elim

/-! the lowest square -/
theorem lowest_mem (s : List Cell) (b : Cell) (l : List Cell) (hs : ∀ c ∈ l, c ∈ s) (hb : b ∈ s) :
    l.foldl (fun b c => if c.2 < b.2 ∨ (c.2 = b.2 ∧ c.1 < b.1) then c else b) b ∈ s := by
  induction l generalizing b with
  | nil => exact hb
  | cons c l ih =>
    rw [List.foldl_cons]
    refine ih _ (fun x hx => hs x (List.mem_cons_of_mem _ hx)) ?_
    split
    · exact hs c (List.mem_cons_self ..)
    · exact hb

def low (b c : Cell) : Prop := b.2 < c.2 ∨ (b.2 = c.2 ∧ b.1 ≤ c.1)

theorem lowest_le (l : List Cell) : ∀ b, low (l.foldl (fun b c => if c.2 < b.2 ∨ (c.2 = b.2 ∧ c.1 < b.1) then c else b) b) b ∧
    ∀ c ∈ l, low (l.foldl (fun b c => if c.2 < b.2 ∨ (c.2 = b.2 ∧ c.1 < b.1) then c else b) b) c := by
  induction l with
  | nil => intro b; exact ⟨.inr ⟨rfl, Int.le_refl _⟩, fun c hc => nomatch hc⟩
  | cons x l ih =>
    intro b
    rw [List.foldl_cons]
    have ⟨h1, h2⟩ := ih (if x.2 < b.2 ∨ (x.2 = b.2 ∧ x.1 < b.1) then x else b)
    refine ⟨?_, ?_⟩
    · revert h1; unfold low; split <;> omega
    · intro c hc
      rcases List.mem_cons.mp hc with e | e
      · subst e
        revert h1; unfold low; split <;> omega
      · exact h2 c e

theorem lowest_in {s : List Cell} (h : s ≠ []) : lowest s ∈ s := by
  cases s with
  | nil => exact absurd rfl h
  | cons c r => exact lowest_mem (c :: r) _ _ (fun _ h => h) (List.mem_cons_self ..)

theorem lowest_low (s : List Cell) : ∀ c ∈ s, low (lowest s) c := (lowest_le s _).2

theorem bd_low {s : List Cell} (h : s ≠ []) : bd s (lowest s, 0) := by
  refine ⟨by simp, lowest_in h, ?_⟩
  intro hm
  have := lowest_low s _ hm
  simp only [low, rightOf] at this
  omega

theorem bd_low_only {s : List Cell} (d : Nat) (hb : bd s (lowest s, d)) : d = 0 := by
  obtain ⟨hd, hl, _⟩ := hb
  have : d = 0 ∨ d = 1 ∨ d = 2 ∨ d = 3 := by simp only at hd; omega
  have l := lowest_low s _ hl
  rcases this with h | h | h | h <;> subst h <;> simp only [low, leftOf] at l <;> omega

/-- **the edge** -/
theorem edge_round {s : List Cell} (g : Good s) (h : s ≠ []) :
    ∃ m, Round s (lowest s) m ∧ edge s = (seg s (lowest s) 0 m).map (·.2) := by
  obtain ⟨m, r⟩ := round g (bd_low h)
  refine ⟨m, r, ?_⟩
  exact walk_seg s (lowest s) (4 * s.length) m 0 r.pos r.most (by rw [Nat.zero_add]; exact r.back)
    (fun k k1 k2 => by rw [Nat.zero_add]; exact r.inner k k1 k2)
end Geo
/-! A search from the first square on finds all just if the squares are joined, as the specification tells it. -/
namespace Geo
open Ti01

def Closed (s l : List Cell) : Prop := ∀ a ∈ l, ∀ c ∈ s, c ∈ near a → c ∈ l

theorem step_mem (s l : List Cell) (c : Cell) : c ∈ (s.filter fun c => l.contains c || l.any fun a => (near a).contains c) ↔ c ∈ s ∧ (c ∈ l ∨ ∃ a ∈ l, c ∈ near a) := by
  rw [List.mem_filter, Bool.or_eq_true, List.contains_iff_mem, List.any_eq_true]
  simp only [List.contains_iff_mem]

theorem spread_closed_of {s : List Cell} : ∀ (n : Nat) (l : List Cell), (∀ a ∈ l, a ∈ s) → Closed s l → Closed s (spread s n l)
  | 0, l, _, h => h
  | n + 1, l, hs, h => by
    refine spread_closed_of n _ ?_ ?_
    · intro a ha
      exact ((step_mem s l a).mp ha).1
    · intro a ha c hc hn
      have same : ∀ x, x ∈ (s.filter fun c => l.contains c || l.any fun a => (near a).contains c) → x ∈ l := by
        intro x hx
        rcases ((step_mem s l x).mp hx) with ⟨hxs, h1 | ⟨b, hb, hn⟩⟩
        · exact h1
        · exact h b hb x hxs hn
      exact (step_mem s l c).mpr ⟨hc, .inl (h a (same a ha) c hc hn)⟩

theorem spread_nodup {s : List Cell} (nd : s.Nodup) : ∀ (n : Nat) (l : List Cell), l.Nodup → (spread s n l).Nodup
  | 0, _, h => h
  | n + 1, l, _ => spread_nodup nd n _ (nd.filter _)

theorem spread_in {s : List Cell} : ∀ (n : Nat) (l : List Cell), (∀ a ∈ l, a ∈ s) → ∀ a ∈ spread s n l, a ∈ s
  | 0, _, h => h
  | n + 1, l, _ => spread_in n _ (fun a ha => ((step_mem s l a).mp ha).1)

theorem spread_has {s : List Cell} : ∀ (n : Nat) (l : List Cell), (∀ a ∈ l, a ∈ s) → ∀ a ∈ l, a ∈ spread s n l
  | 0, _, _ => fun _ h => h
  | n + 1, l, hs => fun a ha => spread_has n _ (fun a ha => ((step_mem s l a).mp ha).1) a ((step_mem s l a).mpr ⟨hs a ha, .inl ha⟩)

theorem spread_grows {s : List Cell} (nd : s.Nodup) : ∀ (n : Nat) (l : List Cell), l.Nodup → (∀ a ∈ l, a ∈ s) →
    Closed s (spread s n l) ∨ l.length + n ≤ (spread s n l).length
  | 0, l, _, _ => .inr (Nat.le_refl _)
  | n + 1, l, hl, hs => by
    by_cases hc : Closed s l
    · exact .inl (spread_closed_of (n + 1) l hs hc)
    · have ⟨a, ha, c, hc1, hn, hno⟩ : ∃ a, a ∈ l ∧ ∃ c, c ∈ s ∧ c ∈ near a ∧ c ∉ l := by
        apply Classical.byContradiction
        intro h
        exact hc fun a ha c hc hn => Classical.byContradiction fun hno => h ⟨a, ha, c, hc, hn, hno⟩
      have h1 : (c :: l).length ≤ (s.filter fun c => l.contains c || l.any fun a => (near a).contains c).length := by
        refine List.Nodup.length_le_of_subset (List.nodup_cons.mpr ⟨hno, hl⟩) ?_
        intro x hx
        rcases List.mem_cons.mp hx with e | e
        · subst e
          exact (step_mem s l x).mpr ⟨hc1, .inr ⟨a, ha, hn⟩⟩
        · exact (step_mem s l x).mpr ⟨hs x e, .inl e⟩
      rw [List.length_cons] at h1
      rcases spread_grows nd n _ (nd.filter _) (fun a ha => ((step_mem s l a).mp ha).1) with h2 | h2
      · exact .inl h2
      · right
        show l.length + (n + 1) ≤ (spread s n _).length
        omega

/-- what the search has come to: all of it told, the first k looked around -/
structure Found (s : List Cell) (c0 : Cell) (l : List Cell) (k : Nat) : Prop where
  nd : l.Nodup
  sub : ∀ a ∈ l, a ∈ s
  first : c0 ∈ l
  done : ∀ i a, i < k → l[i]? = some a → ∀ c ∈ s, c ∈ near a → c ∈ l
  come : ∀ P : Cell → Prop, P c0 → (∀ a c, a ∈ s → c ∈ s → c ∈ near a → P a → P c) → ∀ a ∈ l, P a

theorem Found.start {s : List Cell} {c0 : Cell} (h : c0 ∈ s) : Found s c0 [c0] 0 where
  nd := by simp
  sub := by intro a ha; rw [List.mem_singleton] at ha; subst ha; exact h
  first := List.mem_singleton.mpr rfl
  done := by intro i a hi; omega
  come := by intro P h0 _ a ha; rw [List.mem_singleton] at ha; subst ha; exact h0

theorem Found.few {s : List Cell} {c0 : Cell} {l : List Cell} {k : Nat} (f : Found s c0 l k) : l.length ≤ s.length :=
  List.Nodup.length_le_of_subset f.nd (fun a ha => f.sub a ha)

theorem Found.more {s : List Cell} {c0 : Cell} {l : List Cell} {k : Nat} (f : Found s c0 l k) {a c : Cell} (ha : a ∈ l) (hc : c ∈ s) (hn : c ∈ near a) (hno : c ∉ l) (hk : k ≤ l.length) : Found s c0 (l ++ [c]) k where
  nd := by
    rw [List.nodup_append]
    refine ⟨f.nd, by simp, ?_⟩
    intro x hx y hy e
    rw [List.mem_singleton] at hy
    subst hy e
    exact hno hx
  sub := by
    intro x hx
    rcases List.mem_append.mp hx with h | h
    · exact f.sub x h
    · rw [List.mem_singleton] at h; subst h; exact hc
  first := List.mem_append_left _ f.first
  done := by
    intro i x hi hx y hy hyn
    rw [List.getElem?_append_left (by omega)] at hx
    exact List.mem_append_left _ (f.done i x hi hx y hy hyn)
  come := by
    intro P h0 st x hx
    rcases List.mem_append.mp hx with h | h
    · exact f.come P h0 st x h
    · rw [List.mem_singleton] at h
      subst h
      exact st a x (f.sub a ha) hc hn (f.come P h0 st a ha)

/-- one square looked around -/
theorem Found.next {s : List Cell} {c0 : Cell} {l : List Cell} {k : Nat} (f : Found s c0 l k) {a : Cell} (ha : l[k]? = some a) (h : ∀ c ∈ s, c ∈ near a → c ∈ l) : Found s c0 l (k + 1) where
  nd := f.nd
  sub := f.sub
  first := f.first
  done := by
    intro i x hi hx
    by_cases e : i = k
    · subst e
      rw [ha] at hx
      cases hx
      exact h
    · exact f.done i x (by omega) hx
  come := f.come

theorem Found.ends {r : List Cell} {c0 : Cell} {l : List Cell} (nd : (c0 :: r).Nodup) (f : Found (c0 :: r) c0 l l.length) : joined (c0 :: r) = decide (l.length = (c0 :: r).length) := by
  by_cases h : l.length = (c0 :: r).length
  · rw [decide_eq_true h]
    have all : ∀ a ∈ c0 :: r, a ∈ l := by
      intro a ha
      apply Classical.byContradiction
      intro hno
      have := List.Nodup.length_le_of_subset (l₁ := a :: l) (l₂ := c0 :: r) (List.nodup_cons.mpr ⟨hno, f.nd⟩) (by
        intro x hx
        rcases List.mem_cons.mp hx with e | e
        · subst e; exact ha
        · exact f.sub x e)
      rw [List.length_cons] at this
      omega
    have hin : ∀ a ∈ [c0], a ∈ c0 :: r := by intro a ha; rw [List.mem_singleton] at ha; subst ha; exact List.mem_cons_self ..
    have cl : Closed (c0 :: r) (spread (c0 :: r) (c0 :: r).length [c0]) := by
      rcases spread_grows nd (c0 :: r).length [c0] (by simp) hin with h1 | h1
      · exact h1
      · exfalso
        have := List.Nodup.length_le_of_subset (spread_nodup nd (c0 :: r).length [c0] (by simp)) (fun a ha => spread_in _ _ hin a ha)
        simp only [List.length_singleton] at h1
        omega
    have sub : ∀ a ∈ c0 :: r, a ∈ spread (c0 :: r) (c0 :: r).length [c0] := by
      intro a ha
      exact f.come (fun x => x ∈ spread (c0 :: r) (c0 :: r).length [c0]) (spread_has _ _ hin c0 (List.mem_singleton.mpr rfl)) (fun x y _ hy hn hx => cl x hx y hy hn) a (all a ha)
    have h1 := List.Nodup.length_le_of_subset nd sub
    have h2 := List.Nodup.length_le_of_subset (spread_nodup nd (c0 :: r).length [c0] (by simp)) (fun a ha => spread_in _ _ hin a ha)
    show ((spread (c0 :: r) (c0 :: r).length [c0]).length == (c0 :: r).length) = true
    rw [beq_iff_eq]
    omega
  · rw [decide_eq_false h]
    apply Bool.eq_false_iff.mpr
    intro hj
    apply h
    have sub : ∀ a ∈ c0 :: r, a ∈ l := joined_ind hj (fun a => a ∈ l) (fun a c _ hc hn hl => by
      obtain ⟨i, hi, e⟩ := List.mem_iff_getElem.mp hl
      exact f.done i a hi (by rw [List.getElem?_eq_getElem hi, e]) c hc hn) (c0 := c0) rfl f.first
    have h1 := List.Nodup.length_le_of_subset nd sub
    have h2 := f.few
    omega
end Geo
/-! The calls of one list, taken one behind another, as the specification plays them. -/
namespace Par
open Ti01

def stepN (s : St) (c : List (List Int)) : St × List Int := Ti01Neutral.step s (c.headD [])
/-- what is still to be told from the state s on over the rest l of the list -/
def Rest (s : St) (l out : List Int) : Prop := ∃ f cs, PyFlat.calls PyTi01.shape f l = some cs ∧ PyInside.calls PyTi01.bound cs = true ∧
  out = PyFlat.told (PyFlat.played stepN s (cs.map PyTi01.whole))

theorem rest_start {l : List Int} (h : PyTi01.answers_asked l = true) : Rest init l (PyTi01.answers l) := by
  unfold PyTi01.answers_asked at h
  unfold PyTi01.answers PyTi01.calls
  cases e : PyFlat.calls PyTi01.shape l.length l with
  | none => rw [e] at h; cases h
  | some raw =>
    rw [e] at h
    simp only [Bool.and_eq_true] at h
    exact ⟨_, raw, e, h.1.1.2, rfl⟩

theorem rest_nil {s : St} {out : List Int} (h : Rest s [] out) : out = [] := by
  obtain ⟨f, cs, h1, _, h3⟩ := h
  have : cs = [] := by
    cases f <;> simp [PyFlat.calls] at h1 <;> exact h1
  subst this
  exact h3

/-- one call's answer, its count ahead -/
def tell1 (a : List Int) : List Int := (a.length : Int) :: a

theorem told_cons (a : List Int) (r : List (List Int)) : PyFlat.told (a :: r) = tell1 a ++ PyFlat.told r := by
  unfold PyFlat.told tell1
  rw [List.flatMap_cons]

theorem ints_of {l : List Int} (h : ∀ x ∈ l, 0 ≤ x) : ∃ n : List Nat, l = Ti01.ints n := by
  refine ⟨l.map Int.toNat, ?_⟩
  unfold Ti01.ints
  rw [List.map_map]
  induction l with
  | nil => rfl
  | cons x l ih =>
    rw [List.map_cons, ← ih (fun y hy => h y (List.mem_cons_of_mem _ hy))]
    congr 1
    have := h x (List.mem_cons_self ..)
    show x = ((x.toNat : Nat) : Int)
    omega

theorem toNat_ints (n : List Nat) : (Ti01.ints n).map Int.toNat = n := by
  unfold Ti01.ints
  rw [List.map_map]
  induction n with
  | nil => rfl
  | cons x n ih => rw [List.map_cons, ih]; rfl

theorem step_of {s : St} {n : List Nat} {c : Call} (hn : ∀ x ∈ n, x ≤ 4294967295) (hc : Ti01Neutral.callIn n = some c) : Ti01Neutral.step s (Ti01.ints n) = Ti01.step s c := by
  unfold Ti01Neutral.step Ti01Neutral.callOf
  have : (Ti01.ints n).all Ti01Neutral.nat = true := by
    rw [List.all_eq_true]
    intro x hx
    unfold Ti01.ints at hx
    rw [List.mem_map] at hx
    obtain ⟨y, hy, rfl⟩ := hx
    have := hn y hy
    unfold Ti01Neutral.nat
    simp only [Bool.and_eq_true, decide_eq_true_eq]
    omega
  rw [this, toNat_ints, hc]
  rfl

theorem rest_cons {s : St} {p : Int} {r out : List Int} (h : Rest s (p :: r) out) :
    ∃ (c : List (List Int)) (t out2 : List Int), PyFlat.call PyTi01.shape (p :: r) = some (c, t) ∧ PyInside.call PyTi01.bound c = true ∧
      out = tell1 (stepN s (PyTi01.whole c)).2 ++ out2 ∧ Rest (stepN s (PyTi01.whole c)).1 t out2 := by
  obtain ⟨f, cs, h1, h2, h3⟩ := h
  cases f with
  | zero => simp [PyFlat.calls] at h1
  | succ f =>
    unfold PyFlat.calls at h1
    cases e : PyFlat.call PyTi01.shape (p :: r) with
    | none => rw [e] at h1; cases h1
    | some ct =>
      obtain ⟨c, t⟩ := ct
      rw [e] at h1
      simp only at h1
      cases e2 : PyFlat.calls PyTi01.shape f t with
      | none => rw [e2] at h1; cases h1
      | some cs2 =>
        rw [e2] at h1
        simp only [Option.some.injEq] at h1
        subst h1
        unfold PyInside.calls at h2
        rw [List.all_cons, Bool.and_eq_true] at h2
        refine ⟨c, t, _, rfl, h2.1, ?_, f, cs2, e2, h2.2, rfl⟩
        rw [h3, List.map_cons]
        show PyFlat.told ((stepN s (PyTi01.whole c)).2 :: PyFlat.played stepN (stepN s (PyTi01.whole c)).1 (cs2.map PyTi01.whole)) = _
        rw [told_cons]

/-- **One call** of what is left: which it is, its numbers, what it answers, what is left behind it. -/
inductive One (s : St) (l out : List Int) : Prop
  | shape (n : List Nat) (t out2 : List Int) : l = 0 :: (n.length : Int) :: (Ti01.ints n ++ t) → n.length ≤ 30 → out = tell1 (Ti01.step s (.shape n)).2 ++ out2 → Rest (Ti01.step s (.shape n)).1 t out2 → One s l out
  | edge (t out2 : List Int) : l = 1 :: t → out = tell1 (Ti01.step s .edge).2 ++ out2 → Rest s t out2 → One s l out
  | cut (t out2 : List Int) : l = 2 :: t → out = tell1 (Ti01.step s .cut).2 ++ out2 → Rest s t out2 → One s l out
  | cuts (t out2 : List Int) : l = 3 :: t → out = tell1 (Ti01.step s .cuts).2 ++ out2 → Rest s t out2 → One s l out
  | moves (i a b : Nat) (t out2 : List Int) : l = 4 :: (i : Int) :: (a : Int) :: (b : Int) :: t → i ≤ 4294967295 → a ≤ 4294967295 → b ≤ 4294967295 → out = tell1 (Ti01.step s (.moves i a b)).2 ++ out2 → Rest s t out2 → One s l out
  | grids (t out2 : List Int) : l = 5 :: t → out = tell1 (Ti01.step s .grids).2 ++ out2 → Rest s t out2 → One s l out
  | on (n x y : Nat) (t out2 : List Int) : l = 6 :: (n : Int) :: (x : Int) :: (y : Int) :: t → n ≤ 4294967295 → x ≤ 4294967295 → y ≤ 4294967295 → out = tell1 (Ti01.step s (.on n x y)).2 ++ out2 → Rest s t out2 → One s l out
  | gridof (i a b : Nat) (t out2 : List Int) : l = 7 :: (i : Int) :: (a : Int) :: (b : Int) :: t → i ≤ 4294967295 → a ≤ 4294967295 → b ≤ 4294967295 → out = tell1 (Ti01.step s (.gridOf i a b)).2 ++ out2 → Rest s t out2 → One s l out
  | tiles (t out2 : List Int) : l = 8 :: t → out = tell1 (Ti01.step s .tiles).2 ++ out2 → Rest s t out2 → One s l out

theorem three {r : List Int} (h : ¬ r.length < 3) : ∃ x y z t, r = x :: y :: z :: t := by
  match r, h with
  | x :: y :: z :: t, _ => exact ⟨x, y, z, t, rfl⟩
  | [], h => simp at h
  | [_], h => simp at h
  | [_, _], h => simp at h

theorem nat_of {x : Int} (h : PyInside.within 0 4294967295 x = true) : ∃ n : Nat, x = (n : Int) ∧ n ≤ 4294967295 := by
  unfold PyInside.within at h
  simp only [Bool.and_eq_true, decide_eq_true_eq] at h
  exact ⟨x.toNat, by omega, by omega⟩

theorem one_of {s : St} {p : Int} {r out : List Int} (h : Rest s (p :: r) out) : One s (p :: r) out := by
  obtain ⟨c, t, out2, h1, h2, h3, h4⟩ := rest_cons h
  unfold PyFlat.call at h1
  dsimp only at h1
  cases e : PyTi01.shape p with
  | none => rw [e] at h1; cases h1
  | some nk =>
    obtain ⟨n, k⟩ := nk
    rw [e] at h1
    simp only at h1
    have hp : p = 0 ∨ p = 1 ∨ p = 2 ∨ p = 3 ∨ p = 4 ∨ p = 5 ∨ p = 6 ∨ p = 7 ∨ p = 8 := by
      unfold PyTi01.shape at e
      repeat' split at e
      all_goals first | omega | cases e
    rcases hp with hp | hp | hp | hp | hp | hp | hp | hp | hp
    all_goals subst hp
    all_goals simp [PyTi01.shape] at e
    all_goals obtain ⟨rfl, rfl⟩ := e
    · rw [if_neg (by omega)] at h1
      simp only [List.drop_zero, List.take_zero, PyFlat.rows] at h1
      cases r with
      | nil => simp [PyFlat.row] at h1
      | cons m r =>
        simp only [PyFlat.row] at h1
        by_cases hm : 0 ≤ m ∧ m.toNat ≤ r.length
        · rw [if_pos hm] at h1
          simp only [Option.some.injEq, Prod.mk.injEq] at h1
          obtain ⟨rfl, rfl⟩ := h1
          simp only [PyInside.call, PyTi01.bound, if_true, PyInside.each, PyInside.lists, Bool.true_and, Bool.and_true, Bool.and_eq_true, decide_eq_true_eq, List.all_eq_true] at h2
          have hr : ∀ x ∈ r.take m.toNat, 0 ≤ x := by
            intro x hx
            have := h2.2 x hx
            unfold PyInside.within at this
            simp only [Bool.and_eq_true, decide_eq_true_eq] at this
            exact this.1
          obtain ⟨n, hn⟩ := ints_of hr
          have hlen : n.length = m.toNat := by
            have e1 := congrArg List.length hn
            unfold Ti01.ints at e1
            rw [List.length_take, List.length_map] at e1
            omega
          have hw : stepN s (PyTi01.whole [[0], r.take m.toNat]) = Ti01.step s (.shape n) := by
            rw [hn]
            show Ti01Neutral.step s ([0] ++ Ti01.ints n) = _
            refine step_of (n := 0 :: n) (fun x hx => ?_) rfl
            rcases List.mem_cons.mp hx with z | z
            · omega
            · have hx2 : (x : Int) ∈ r.take m.toNat := by
                rw [hn]
                unfold Ti01.ints
                exact List.mem_map.mpr ⟨x, z, rfl⟩
              have := h2.2 _ hx2
              unfold PyInside.within at this
              simp only [Bool.and_eq_true, decide_eq_true_eq] at this
              omega
          rw [hw] at h3 h4
          refine .shape n (r.drop m.toNat) out2 ?_ ?_ h3 h4
          · rw [← hn, List.take_append_drop, hlen]
            congr 2
            omega
          · have := h2.1.2
            rw [hn] at this
            unfold Ti01.ints at this
            rw [List.length_map] at this
            exact this
        · rw [if_neg hm] at h1
          cases h1
    all_goals first
      | (rw [if_neg (by omega)] at h1
         simp only [List.drop_zero, List.take_zero, PyFlat.rows, Option.some.injEq, Prod.mk.injEq] at h1
         obtain ⟨rfl, rfl⟩ := h1
         first
         | exact .edge _ _ rfl h3 h4
         | exact .cut _ _ rfl h3 h4
         | exact .cuts _ _ rfl h3 h4
         | exact .grids _ _ rfl h3 h4
         | exact .tiles _ _ rfl h3 h4)
      | (by_cases hl : r.length < 3
         · rw [if_pos hl] at h1
           cases h1
         · obtain ⟨x, y, z, t', rfl⟩ := three hl
           rw [if_neg hl] at h1
           simp only [List.drop_succ_cons, List.drop_zero, List.take_succ_cons, List.take_zero, PyFlat.rows, Option.some.injEq, Prod.mk.injEq] at h1
           obtain ⟨rfl, rfl⟩ := h1
           simp [PyInside.call, PyTi01.bound, PyInside.each, PyInside.lists] at h2
           obtain ⟨hx, hy, hz⟩ := h2
           obtain ⟨nx, rfl, bx⟩ := nat_of hx
           obtain ⟨ny, rfl, yb⟩ := nat_of hy
           obtain ⟨nz, rfl, bz⟩ := nat_of hz
           have hb : ∀ q : Nat, q ≤ 8 → ∀ v ∈ [q, nx, ny, nz], v ≤ 4294967295 := by
             intro q hq v hv
             simp at hv
             omega
           first
           | (have hw : stepN s (PyTi01.whole [[4, (nx : Int), (ny : Int), (nz : Int)]]) = Ti01.step s (.moves nx ny nz) := step_of (n := [4, nx, ny, nz]) (hb 4 (by decide)) rfl
              rw [hw] at h3 h4
              exact .moves nx ny nz t' out2 rfl bx yb bz h3 h4)
           | (have hw : stepN s (PyTi01.whole [[6, (nx : Int), (ny : Int), (nz : Int)]]) = Ti01.step s (.on nx ny nz) := step_of (n := [6, nx, ny, nz]) (hb 6 (by decide)) rfl
              rw [hw] at h3 h4
              exact .on nx ny nz t' out2 rfl bx yb bz h3 h4)
           | (have hw : stepN s (PyTi01.whole [[7, (nx : Int), (ny : Int), (nz : Int)]]) = Ti01.step s (.gridOf nx ny nz) := step_of (n := [7, nx, ny, nz]) (hb 7 (by decide)) rfl
              rw [hw] at h3 h4
              exact .gridof nx ny nz t' out2 rfl bx yb bz h3 h4))
end Par
/-! A cut gives a grid: the shape covers by the grid of the cut's two moves. -/
namespace Til
open Ti01 Geo

def add (p q : Cell) : Cell := (p.1 + q.1, p.2 + q.2)
def sumC (f : Cell → Int) : List Cell → Int
  | [] => 0
  | c :: l => f c + sumC f l
theorem sumC_append (f : Cell → Int) (l m : List Cell) : sumC f (l ++ m) = sumC f l + sumC f m := by
  induction l with
  | nil => simp [sumC]
  | cons c l ih => simp only [List.cons_append, sumC, ih]; omega
theorem sumC_perm (f : Cell → Int) {l m : List Cell} (h : l.Perm m) : sumC f l = sumC f m := by
  induction h with
  | nil => rfl
  | cons x _ ih => simp only [sumC, ih]
  | swap x y l => simp only [sumC]; omega
  | trans _ _ h1 h2 => exact h1.trans h2
theorem sumC_map (f : Cell → Int) (g : Cell → Cell) (l : List Cell) : sumC f (l.map g) = sumC (fun c => f (g c)) l := by
  induction l with
  | nil => rfl
  | cons c l ih => simp only [List.map_cons, sumC, ih]
theorem sumC_split (f : Cell → Int) (p : Cell → Bool) (l : List Cell) : sumC f l = sumC f (l.filter p) + sumC f (l.filter fun c => !p c) := by
  induction l with
  | nil => rfl
  | cons c l ih =>
    cases h : p c
    · rw [List.filter_cons_of_neg (by rw [h]; decide), List.filter_cons_of_pos (by simp [h])]
      simp only [sumC]
      omega
    · rw [List.filter_cons_of_pos h, List.filter_cons_of_neg (by simp [h])]
      simp only [sumC]
      omega
theorem sumC_sub (f g : Cell → Int) (l : List Cell) : sumC (fun c => f c - g c) l = sumC f l - sumC g l := by
  induction l with
  | nil => rfl
  | cons c l ih => simp only [sumC, ih]; omega
theorem nodup_map {α β : Type} {f : α → β} {l : List α} (hf : ∀ a b, f a = f b → a = b) (h : l.Nodup) : (l.map f).Nodup := by
  rw [List.nodup_iff_pairwise_ne, List.pairwise_map]
  exact List.Pairwise.imp (fun hne e => hne (hf _ _ e)) h

/-- a step's share: A a side by which e comes into the shape, B one by which e leaves it -/
structure Dirn where
  e : Cell
  A : Nat
  B : Nat
  fa : Cell → Cell
  fb : Cell → Cell
def Dirn.psi (D : Dirn) (φ : Cell → Int) (x : Ed) : Int := if x.2 = D.A then φ (D.fa x.1) else if x.2 = D.B then - φ (D.fb x.1) else 0
def vert : Dirn := ⟨(1, 0), 3, 1, fun p => (p.1, p.2 - 1), fun p => p⟩
def hori : Dirn := ⟨(0, 1), 0, 2, fun p => p, fun p => (p.1 - 1, p.2)⟩
structure Dirn.Ok (D : Dirn) : Prop where
  ne : D.A ≠ D.B
  ia : ∀ p q, D.fa p = D.fa q → p = q
  ib : ∀ p q, D.fb p = D.fb q → p = q
  ja : ∀ c, ∃ p, D.fa p = c
  jb : ∀ c, ∃ p, D.fb p = c
  ba : ∀ (s : List Cell) p, bd s (p, D.A) ↔ D.fa p ∈ s ∧ ((D.fa p).1 - D.e.1, (D.fa p).2 - D.e.2) ∉ s
  bb : ∀ (s : List Cell) p, bd s (p, D.B) ↔ ((D.fb p).1 - D.e.1, (D.fb p).2 - D.e.2) ∈ s ∧ D.fb p ∉ s
theorem vert_ok : vert.Ok where
  ne := by decide
  ia := by
    rintro ⟨a, b⟩ ⟨c, d⟩ h
    simp only [vert, Prod.mk.injEq] at h
    exact Prod.ext h.1 (by show b = d; omega)
  ib := fun _ _ h => h
  ja := fun c => ⟨(c.1, c.2 + 1), by simp [vert]⟩
  jb := fun c => ⟨c, rfl⟩
  ba := by
    intro s p
    show ((3 : Nat) < 4 ∧ _ ∧ _) ↔ _
    simp [vert, leftOf, rightOf]
  bb := by
    intro s p
    show ((1 : Nat) < 4 ∧ _ ∧ _) ↔ _
    simp [vert, leftOf, rightOf]
theorem hori_ok : hori.Ok where
  ne := by decide
  ia := fun _ _ h => h
  ib := by
    rintro ⟨a, b⟩ ⟨c, d⟩ h
    simp only [hori, Prod.mk.injEq] at h
    exact Prod.ext (by show a = c; omega) h.2
  ja := fun c => ⟨c, rfl⟩
  jb := fun c => ⟨(c.1 + 1, c.2), by simp [hori]⟩
  ba := by
    intro s p
    show ((0 : Nat) < 4 ∧ _ ∧ _) ↔ _
    simp [hori, leftOf, rightOf]
  bb := by
    intro s p
    show ((2 : Nat) < 4 ∧ _ ∧ _) ↔ _
    simp [hori, leftOf, rightOf]

theorem tot_split (D : Dirn) (hne : D.A ≠ D.B) (φ : Cell → Int) (es : List Ed) : tot (D.psi φ) es = sumC φ ((es.filter fun x => decide (x.2 = D.A)).map fun x => D.fa x.1) - sumC φ ((es.filter fun x => decide (x.2 = D.B)).map fun x => D.fb x.1) := by
  induction es with
  | nil => rfl
  | cons x es ih =>
    simp only [tot, ih, Dirn.psi]
    by_cases h1 : x.2 = D.A
    · have h2 : ¬ x.2 = D.B := fun z => hne (h1.symm.trans z)
      rw [if_pos h1, List.filter_cons_of_pos (by simpa using h1), List.filter_cons_of_neg (by simpa using h2)]
      simp only [List.map_cons, sumC]
      omega
    · by_cases h2 : x.2 = D.B
      · rw [if_neg h1, if_pos h2, List.filter_cons_of_neg (by simpa using h1), List.filter_cons_of_pos (by simpa using h2)]
        simp only [List.map_cons, sumC]
        omega
      · rw [if_neg h1, if_neg h2, List.filter_cons_of_neg (by simpa using h1), List.filter_cons_of_neg (by simpa using h2)]
        omega

/-- **from the squares to the sides** -/
theorem stokes {D : Dirn} (ok : D.Ok) {s : List Cell} (nd : s.Nodup) {es : List Ed} (hn : es.Nodup) (hm : ∀ x, x ∈ es ↔ bd s x) (φ : Cell → Int) :
    sumC (fun c => φ c - φ (add c D.e)) s = tot (D.psi φ) es := by
  have hA : ((es.filter fun x => decide (x.2 = D.A)).map fun x => D.fa x.1).Perm (s.filter fun c => !s.contains (c.1 - D.e.1, c.2 - D.e.2)) := by
    rw [List.perm_ext_iff_of_nodup]
    · intro c
      rw [List.mem_map, List.mem_filter]
      constructor
      · rintro ⟨x, hx, rfl⟩
        rw [List.mem_filter, decide_eq_true_eq] at hx
        have hb := (hm x).mp hx.1
        obtain ⟨p, d⟩ := x
        simp only at hx
        obtain ⟨_, rfl⟩ := hx
        have := (ok.ba s p).mp hb
        refine ⟨this.1, ?_⟩
        simp only [Bool.not_eq_true']
        exact Bool.eq_false_iff.mpr fun z => this.2 (List.contains_iff_mem.mp z)
      · rintro ⟨h1, h2⟩
        obtain ⟨p, rfl⟩ := ok.ja c
        refine ⟨(p, D.A), List.mem_filter.mpr ⟨(hm _).mpr ((ok.ba s p).mpr ⟨h1, fun z => ?_⟩), by simp⟩, rfl⟩
        rw [List.contains_iff_mem.mpr z] at h2
        cases h2
    · refine List.Pairwise.map _ ?_ (List.Pairwise.and_mem.mp (hn.filter _))
      rintro x y ⟨hx, hy, hne⟩ e
      rw [List.mem_filter, decide_eq_true_eq] at hx hy
      exact hne (Prod.ext (ok.ia _ _ e) (hx.2.trans hy.2.symm))
    · exact nd.filter _
  have hB : ((es.filter fun x => decide (x.2 = D.B)).map fun x => D.fb x.1).Perm ((s.filter fun c => !s.contains (add c D.e)).map fun c => add c D.e) := by
    have inj : ∀ a b : Cell, add a D.e = add b D.e → a = b := by
      rintro ⟨a, b⟩ ⟨c, d⟩ h
      simp only [add, Prod.mk.injEq] at h
      exact Prod.ext (by show a = c; omega) (by show b = d; omega)
    rw [List.perm_ext_iff_of_nodup]
    · intro c
      rw [List.mem_map, List.mem_map]
      constructor
      · rintro ⟨x, hx, rfl⟩
        rw [List.mem_filter, decide_eq_true_eq] at hx
        have hb := (hm x).mp hx.1
        obtain ⟨p, d⟩ := x
        simp only at hx
        obtain ⟨_, rfl⟩ := hx
        have := (ok.bb s p).mp hb
        have e : add ((D.fb p).1 - D.e.1, (D.fb p).2 - D.e.2) D.e = D.fb p := by
          simp [add]
        refine ⟨_, List.mem_filter.mpr ⟨this.1, ?_⟩, e⟩
        rw [e]
        simp only [Bool.not_eq_true']
        exact Bool.eq_false_iff.mpr fun z => this.2 (List.contains_iff_mem.mp z)
      · rintro ⟨q, hq, rfl⟩
        rw [List.mem_filter] at hq
        obtain ⟨p, hp⟩ := ok.jb (add q D.e)
        refine ⟨(p, D.B), List.mem_filter.mpr ⟨(hm _).mpr ((ok.bb s p).mpr ⟨?_, fun z => ?_⟩), by simp⟩, hp⟩
        · rw [hp]
          simp only [add, Int.add_sub_cancel]
          exact hq.1
        · rw [hp] at z
          have := hq.2
          rw [List.contains_iff_mem.mpr z] at this
          cases this
    · refine List.Pairwise.map _ ?_ (List.Pairwise.and_mem.mp (hn.filter _))
      rintro x y ⟨hx, hy, hne⟩ e
      rw [List.mem_filter, decide_eq_true_eq] at hx hy
      exact hne (Prod.ext (ok.ib _ _ e) (hx.2.trans hy.2.symm))
    · exact nodup_map inj (nd.filter _)
  have hC : (s.filter fun c => s.contains (c.1 - D.e.1, c.2 - D.e.2)).Perm ((s.filter fun c => s.contains (add c D.e)).map fun c => add c D.e) := by
    have inj : ∀ a b : Cell, add a D.e = add b D.e → a = b := by
      rintro ⟨a, b⟩ ⟨c, d⟩ h
      simp only [add, Prod.mk.injEq] at h
      exact Prod.ext (by show a = c; omega) (by show b = d; omega)
    rw [List.perm_ext_iff_of_nodup (nd.filter _) (nodup_map inj (nd.filter _))]
    intro c
    have e : add (c.1 - D.e.1, c.2 - D.e.2) D.e = c := by simp [add]
    rw [List.mem_filter, List.mem_map]
    constructor
    · rintro ⟨h1, h2⟩
      exact ⟨(c.1 - D.e.1, c.2 - D.e.2), List.mem_filter.mpr ⟨List.contains_iff_mem.mp h2, by rw [e]; exact List.contains_iff_mem.mpr h1⟩, e⟩
    · rintro ⟨q, hq, rfl⟩
      rw [List.mem_filter] at hq
      refine ⟨List.contains_iff_mem.mp hq.2, ?_⟩
      simp only [add, Int.add_sub_cancel]
      exact List.contains_iff_mem.mpr hq.1
  rw [sumC_sub, tot_split D ok.ne, sumC_perm φ hA, sumC_perm φ hB, sumC_split φ (fun c => s.contains (c.1 - D.e.1, c.2 - D.e.2)) s, sumC_split (fun c => φ (add c D.e)) (fun c => s.contains (add c D.e)) s, sumC_perm φ hC, sumC_map, sumC_map]
  omega
end Til
namespace Til
open Ti01 Geo

def run : Cell → List Nat → List Ed
  | _, [] => []
  | p, d :: ds => (p, d) :: run (ahead p d) ds
def fin (p : Cell) (ds : List Nat) : Cell := ds.foldl ahead p
theorem run_append : ∀ (X Y : List Nat) (p : Cell), run p (X ++ Y) = run p X ++ run (fin p X) Y
  | [], _, _ => rfl
  | d :: X, Y, p => by
    show (p, d) :: run (ahead p d) (X ++ Y) = (p, d) :: (run (ahead p d) X ++ run (fin (ahead p d) X) Y)
    rw [run_append X Y]
theorem fin_append (X Y : List Nat) (p : Cell) : fin p (X ++ Y) = fin (fin p X) Y := by
  unfold fin
  rw [List.foldl_append]
theorem tot_append (f : Ed → Int) (l m : List Ed) : tot f (l ++ m) = tot f l + tot f m := by
  induction l with
  | nil => simp [tot]
  | cons c l ih => simp only [List.cons_append, tot, ih]; omega
def Psi (D : Dirn) (φ : Cell → Int) (p : Cell) (X : List Nat) : Int := tot (D.psi φ) (run p X)
theorem Psi_append (D : Dirn) (φ : Cell → Int) (p : Cell) (X Y : List Nat) : Psi D φ p (X ++ Y) = Psi D φ p X + Psi D φ (fin p X) Y := by
  unfold Psi
  rw [run_append, tot_append]
theorem Psi_cons (D : Dirn) (φ : Cell → Int) (p : Cell) (d : Nat) (X : List Nat) : Psi D φ p (d :: X) = D.psi φ (p, d) + Psi D φ (ahead p d) X := rfl
theorem ahead_add (p q : Cell) (d : Nat) : ahead (add p q) d = add (ahead p d) q := by
  match d with
  | 0 => simp only [ahead, add]; apply Prod.ext <;> simp <;> omega
  | 1 => simp only [ahead, add]; apply Prod.ext <;> simp <;> omega
  | 2 => simp only [ahead, add]; apply Prod.ext <;> simp <;> omega
  | _ + 3 => simp only [ahead, add]; apply Prod.ext <;> simp <;> omega
theorem fin_add (q : Cell) : ∀ (X : List Nat) (p : Cell), fin (add p q) X = add (fin p X) q
  | [], _ => rfl
  | d :: X, p => by
    show fin (ahead (add p q) d) X = add (fin (ahead p d) X) q
    rw [ahead_add, fin_add q X]
theorem fin_gone (X : List Nat) (p : Cell) : fin p X = add p (gone X) := by
  have : p = add (0, 0) p := by simp [add]
  rw [show fin p X = fin (add (0, 0) p) X by rw [← this], fin_add]
  show add (gone X) p = add p (gone X)
  simp only [add]
  apply Prod.ext <;> simp <;> omega
theorem four {d : Nat} (h : d < 4) : d = 0 ∨ d = 1 ∨ d = 2 ∨ d = 3 := by omega
theorem ahead_back (p : Cell) {d : Nat} (h : d < 4) : ahead (ahead p ((d + 2) % 4)) d = p := by
  rcases four h with e | e | e | e <;> subst e <;> simp [ahead]
/-- a step gone back counts against itself -/
def Dirn.Rev (D : Dirn) : Prop := ∀ (φ : Cell → Int) (p : Cell) (d : Nat), d < 4 → D.psi φ (ahead p d, (d + 2) % 4) = - D.psi φ (p, d)
theorem vert_rev : vert.Rev := by
  intro φ p d h
  rcases four h with e | e | e | e <;> subst e <;> simp [Dirn.psi, vert, ahead]
theorem hori_rev : hori.Rev := by
  intro φ p d h
  rcases four h with e | e | e | e <;> subst e <;> simp [Dirn.psi, hori, ahead]
theorem back_cons (d : Nat) (X : List Nat) : back (d :: X) = back X ++ [(d + 2) % 4] := by
  simp [back]
theorem Psi_back {D : Dirn} (hD : D.Rev) (φ : Cell → Int) : ∀ (X : List Nat) (p : Cell), (∀ d ∈ X, d < 4) → Psi D φ p (back X) = - Psi D φ (fin p (back X)) X ∧ fin (fin p (back X)) X = p
  | [], p, _ => ⟨by simp [back, Psi, run, tot], rfl⟩
  | d :: X, p, h => by
    have hd := h d (List.mem_cons_self ..)
    obtain ⟨i1, i2⟩ := Psi_back hD φ X p (fun x hx => h x (List.mem_cons_of_mem _ hx))
    rw [back_cons, Psi_append, fin_append]
    have hB : fin (fin p (back X)) [(d + 2) % 4] = ahead (fin p (back X)) ((d + 2) % 4) := rfl
    rw [hB]
    have hC := ahead_back (fin p (back X)) hd
    constructor
    · have e0 : Psi D φ (ahead (fin p (back X)) ((d + 2) % 4)) (d :: X) = D.psi φ (ahead (fin p (back X)) ((d + 2) % 4), d) + Psi D φ (fin p (back X)) X := by
        rw [Psi_cons, hC]
      rw [e0, i1]
      have r := hD φ (ahead (fin p (back X)) ((d + 2) % 4)) d hd
      rw [hC] at r
      have e : Psi D φ (fin p (back X)) [(d + 2) % 4] = D.psi φ (fin p (back X), (d + 2) % 4) := by
        rw [Psi_cons]
        simp [Psi, run, tot]
      rw [e, r]
      omega
    · show fin (ahead (ahead (fin p (back X)) ((d + 2) % 4)) d) X = p
      rw [hC]
      exact i2
theorem gone_back {X : List Nat} (h : ∀ d ∈ X, d < 4) : gone (back X) = (-(gone X).1, -(gone X).2) := by
  have := (Psi_back vert_rev (fun _ => 0) X (0, 0) h).2
  rw [fin_gone (back X), fin_gone X] at this
  simp only [add, Prod.mk.injEq] at this
  apply Prod.ext
  · show (gone (back X)).1 = -(gone X).1; omega
  · show (gone (back X)).2 = -(gone X).2; omega
/-- moved by what φ does not see -/
def Dirn.Moves (D : Dirn) : Prop := ∀ (p q : Cell), D.fa (add p q) = add (D.fa p) q ∧ D.fb (add p q) = add (D.fb p) q
theorem vert_moves : vert.Moves := by
  intro p q
  simp only [vert, add]
  refine ⟨?_, trivial⟩
  apply Prod.ext <;> simp <;> omega
theorem hori_moves : hori.Moves := by
  intro p q
  simp only [hori, add]
  refine ⟨trivial, ?_⟩
  apply Prod.ext <;> simp <;> omega
theorem Psi_move {D : Dirn} (hD : D.Moves) {φ : Cell → Int} {q : Cell} (hφ : ∀ c, φ (add c q) = φ c) : ∀ (X : List Nat) (p : Cell), Psi D φ (add p q) X = Psi D φ p X
  | [], _ => rfl
  | d :: X, p => by
    rw [Psi_cons, Psi_cons, ahead_add, Psi_move hD hφ X]
    congr 1
    simp only [Dirn.psi]
    rw [(hD p q).1, (hD p q).2, hφ, hφ]
/-- the six parts of a cut -/
structure Six (v X Y Z : List Nat) : Prop where
  eq : v = X ++ (Y ++ (Z ++ (back X ++ (back Y ++ back Z))))
  x4 : ∀ d ∈ X, d < 4
  y4 : ∀ d ∈ Y, d < 4
  z4 : ∀ d ∈ Z, d < 4
theorem six_sum {v X Y Z : List Nat} (h : Six v X Y Z) {D : Dirn} (hD : D.Rev) (φ : Cell → Int) (p : Cell) :
    Psi D φ p v = Psi D φ p X - Psi D φ (add p (add (gone Y) (gone Z))) X + (Psi D φ (add p (gone X)) Y - Psi D φ (add p (gone Z)) Y) + (Psi D φ (add p (add (gone X) (gone Y))) Z - Psi D φ p Z) := by
  have bx := gone_back h.x4
  have hy := gone_back h.y4
  have bz := gone_back h.z4
  rw [h.eq]
  simp only [Psi_append, fin_gone]
  rw [(Psi_back hD φ X _ h.x4).1, (Psi_back hD φ Y _ h.y4).1, (Psi_back hD φ Z _ h.z4).1]
  simp only [fin_gone, bx, hy, bz]
  have e1 : add (add (add (add p (gone X)) (gone Y)) (gone Z)) (-(gone X).1, -(gone X).2) = add p (add (gone Y) (gone Z)) := by
    simp only [add]; apply Prod.ext <;> simp <;> omega
  have e2 : add (add (add (add (add p (gone X)) (gone Y)) (gone Z)) (-(gone X).1, -(gone X).2)) (-(gone Y).1, -(gone Y).2) = add p (gone Z) := by
    simp only [add]; apply Prod.ext <;> simp <;> omega
  have e3 : add (add (add (add (add (add p (gone X)) (gone Y)) (gone Z)) (-(gone X).1, -(gone X).2)) (-(gone Y).1, -(gone Y).2)) (-(gone Z).1, -(gone Z).2) = p := by
    simp only [add]; apply Prod.ext <;> simp <;> omega
  have e4 : add (add p (gone X)) (gone Y) = add p (add (gone X) (gone Y)) := by
    simp only [add]; apply Prod.ext <;> simp <;> omega
  rw [e3, e2, e1, e4]
  omega
/-- nothing is left of what the moves do not change -/
theorem six_zero {v X Y Z : List Nat} (h : Six v X Y Z) {D : Dirn} (hr : D.Rev) (hm : D.Moves) {φ : Cell → Int} (hu : ∀ c, φ (add c (add (gone X) (gone Y))) = φ c) (hv : ∀ c, φ (add c (add (gone Y) (gone Z))) = φ c) (p : Cell) : Psi D φ p v = 0 := by
  rw [six_sum h hr, Psi_move hm hv, Psi_move hm hu]
  have e : add p (gone Z) = add (add p (gone X)) (add (add (gone Y) (gone Z)) (-(add (gone X) (gone Y)).1, -(add (gone X) (gone Y)).2)) := by
    simp only [add]; apply Prod.ext <;> simp <;> omega
  have hw : ∀ c, φ (add c (add (add (gone Y) (gone Z)) (-(add (gone X) (gone Y)).1, -(add (gone X) (gone Y)).2))) = φ c := by
    intro c
    have e2 : add (add c (add (add (gone Y) (gone Z)) (-(add (gone X) (gone Y)).1, -(add (gone X) (gone Y)).2))) (add (gone X) (gone Y)) = add c (add (gone Y) (gone Z)) := by
      simp only [add]; apply Prod.ext <;> simp <;> omega
    rw [← hu, e2, hv]
  rw [e, Psi_move hm hw]
  omega
/-- the area -/
theorem Psi_area (q : Cell) : ∀ (X : List Nat) (p : Cell), (∀ d ∈ X, d < 4) → Psi vert (fun c => - c.1) (add p q) X = Psi vert (fun c => - c.1) p X + q.1 * (gone X).2
  | [], _, _ => by simp [Psi, run, tot, gone]
  | d :: X, p, h => by
    have ih := Psi_area q X (ahead p d) (fun x hx => h x (List.mem_cons_of_mem _ hx))
    have hg : gone (d :: X) = add (ahead (0, 0) d) (gone X) := by
      show fin (ahead (0, 0) d) X = _
      exact fin_gone X _
    rw [Psi_cons, Psi_cons, ahead_add, ih, hg]
    rcases four (h d (List.mem_cons_self ..)) with e | e | e | e <;> subst e <;> simp [Dirn.psi, vert, ahead, add, Int.mul_add] <;> omega
theorem six_area {v X Y Z : List Nat} (h : Six v X Y Z) (p : Cell) : Psi vert (fun c => - c.1) p v = (add (gone X) (gone Y)).1 * (add (gone Y) (gone Z)).2 - (add (gone X) (gone Y)).2 * (add (gone Y) (gone Z)).1 := by
  rw [six_sum h vert_rev, Psi_area _ X _ h.x4, Psi_area _ Y _ h.y4, Psi_area _ Y _ h.y4, Psi_area _ Z _ h.z4]
  simp only [add, Int.add_mul, Int.mul_add]
  generalize (gone X).1 = a
  generalize (gone X).2 = b
  generalize (gone Y).1 = c
  generalize (gone Y).2 = d
  generalize (gone Z).1 = e
  generalize (gone Z).2 = f
  have h1 : b * c = c * b := Int.mul_comm ..
  have h2 : b * e = e * b := Int.mul_comm ..
  have h3 : d * e = e * d := Int.mul_comm ..
  have h4 : d * c = c * d := Int.mul_comm ..
  rw [h1, h2, h3, h4]
  omega
end Til
namespace Til
open Ti01 Geo

/-! grids -/
structure Pos (g : Grid) : Prop where
  a : 0 < g.a
  d : 0 < g.d
theorem home_is {g : Grid} (h : Pos g) (c : Cell) : home g c = ((c.1 - c.2 / (g.d : Int) * (g.b : Int)) % (g.a : Int), c.2 - c.2 / (g.d : Int) * (g.d : Int)) := by
  unfold home
  simp only [Int.fdiv_eq_ediv_of_nonneg c.2 (show (0 : Int) ≤ (g.d : Int) by omega), Int.fmod_eq_emod_of_nonneg _ (show (0 : Int) ≤ (g.a : Int) by omega)]
theorem home_rel {g : Grid} (h : Pos g) (p q : Cell) : home g p = home g q ↔ ∃ k j : Int, p.2 = q.2 + k * (g.d : Int) ∧ p.1 = q.1 + k * (g.b : Int) + j * (g.a : Int) := by
  have hd : (g.d : Int) ≠ 0 := by have := h.d; omega
  have ha : (g.a : Int) ≠ 0 := by have := h.a; omega
  rw [home_is h, home_is h, Prod.mk.injEq]
  generalize (g.d : Int) = D at hd
  generalize (g.b : Int) = B
  generalize (g.a : Int) = A at ha
  constructor
  · rintro ⟨h1, h2⟩
    refine ⟨p.2 / D - q.2 / D, (p.1 - p.2 / D * B) / A - (q.1 - q.2 / D * B) / A, ?_, ?_⟩
    · rw [Int.sub_mul]; omega
    · have e1 := Int.emod_add_mul_ediv (p.1 - p.2 / D * B) A
      have e2 := Int.emod_add_mul_ediv (q.1 - q.2 / D * B) A
      rw [h1] at e1
      rw [Int.sub_mul, Int.sub_mul, Int.mul_comm (_ / A) A, Int.mul_comm ((q.1 - q.2 / D * B) / A) A]
      omega
  · rintro ⟨k, j, h1, h2⟩
    have e : p.2 / D = q.2 / D + k := by rw [h1, Int.add_mul_ediv_right _ _ hd]
    rw [e, h1, h2, Int.add_mul, Int.add_mul]
    constructor
    · rw [show q.1 + k * B + j * A - (q.2 / D * B + k * B) = (q.1 - q.2 / D * B) + j * A by omega, Int.add_mul_emod_self_right]
    · omega
theorem home_zero {g : Grid} (h : Pos g) : home g (0, 0) = (0, 0) := by
  rw [home_is h]
  simp
theorem isIn_rel {g : Grid} (h : Pos g) (m : Cell) : isIn g m = true ↔ ∃ k j : Int, m.2 = k * (g.d : Int) ∧ m.1 = k * (g.b : Int) + j * (g.a : Int) := by
  unfold isIn
  rw [beq_iff_eq]
  have := home_rel h m (0, 0)
  rw [home_zero h] at this
  rw [this]
  simp
theorem home_add {g : Grid} (h : Pos g) {m : Cell} (hm : isIn g m = true) (c : Cell) : home g (add c m) = home g c := by
  obtain ⟨k, j, h1, h2⟩ := (isIn_rel h m).mp hm
  refine (home_rel h _ _).mpr ⟨k, j, ?_, ?_⟩
  · show c.2 + m.2 = _; rw [h1]
  · show c.1 + m.1 = _; rw [h2]; omega
theorem home_shift {g : Grid} (h : Pos g) (p q e : Cell) : home g (add p e) = home g (add q e) ↔ home g p = home g q := by
  rw [home_rel h, home_rel h]
  constructor
  · rintro ⟨k, j, h1, h2⟩
    refine ⟨k, j, ?_, ?_⟩
    · have : p.2 + e.2 = q.2 + e.2 + k * (g.d : Int) := h1
      omega
    · have : p.1 + e.1 = q.1 + e.1 + k * (g.b : Int) + j * (g.a : Int) := h2
      omega
  · rintro ⟨k, j, h1, h2⟩
    refine ⟨k, j, ?_, ?_⟩
    · show p.2 + e.2 = q.2 + e.2 + k * (g.d : Int)
      omega
    · show p.1 + e.1 = q.1 + e.1 + k * (g.b : Int) + j * (g.a : Int)
      omega
/-! two moves and their grid -/
theorem bezout : ∀ (n : Nat) (x y : Int), y.natAbs ≤ n → ∃ p q e k l : Int, e = p * x + q * y ∧ x = k * e ∧ y = l * e
  | 0, x, y, h => ⟨1, 0, x, 1, 0, by omega, by omega, by omega⟩
  | n + 1, x, y, h => by
    by_cases h0 : y = 0
    · subst h0
      exact ⟨1, 0, x, 1, 0, by omega, by omega, by omega⟩
    · have h1 := Int.emod_nonneg x h0
      have h2 := Int.emod_lt x h0
      obtain ⟨p, q, e, k, l, e1, e2, e3⟩ := bezout n y (x % y) (by omega)
      have e4 := Int.emod_add_mul_ediv x y
      refine ⟨q, p - q * (x / y), e, (x / y) * k + l, k, ?_, ?_, e2⟩
      · rw [e1]
        generalize x % y = r at *
        generalize x / y = t at *
        subst e4
        grind
      · generalize x % y = r at *
        generalize x / y = t at *
        grind
theorem bezout_pos (x y : Int) (h : x ≠ 0 ∨ y ≠ 0) : ∃ p q e k l : Int, 0 < e ∧ e = p * x + q * y ∧ x = k * e ∧ y = l * e := by
  obtain ⟨p, q, e, k, l, e1, e2, e3⟩ := bezout y.natAbs x y (Nat.le_refl _)
  have hne : e ≠ 0 := by
    intro z
    rw [z, Int.mul_zero] at e2 e3
    omega
  by_cases hp : 0 < e
  · exact ⟨p, q, e, k, l, hp, e1, e2, e3⟩
  · refine ⟨-p, -q, -e, -k, -l, by omega, ?_, ?_, ?_⟩
    · rw [Int.neg_mul, Int.neg_mul]; omega
    · rw [Int.neg_mul_neg]; exact e2
    · rw [Int.neg_mul_neg]; exact e3
theorem grid_of (u v : Cell) (n : Nat) (hn : 0 < n) (hdet : u.1 * v.2 - u.2 * v.1 = (n : Int)) : ∃ g : Grid, Pos g ∧ g.a * g.d = n ∧ g.b < g.a ∧ isIn g u = true ∧ isIn g v = true := by
  obtain ⟨u1, u2⟩ := u
  obtain ⟨v1, v2⟩ := v
  simp only at hdet
  obtain ⟨p, q, e, k, l, he, e1, e2, e3⟩ := bezout_pos u2 v2 (by
    apply Classical.byContradiction
    intro h
    have h1 : u2 = 0 := by omega
    have h2 : v2 = 0 := by omega
    rw [h1, h2] at hdet
    omega)
  have hpk : p * k + q * l = 1 := by
    have : (p * k + q * l) * e = 1 * e := by grind
    exact Int.eq_of_mul_eq_mul_right (by omega) this
  have ha : (u1 * l - k * v1) * e = (n : Int) := by grind
  have hapos : 0 < u1 * l - k * v1 := by
    apply Classical.byContradiction
    intro h
    have : (u1 * l - k * v1) * e ≤ 0 := Int.mul_nonpos_of_nonpos_of_nonneg (by omega) (by omega)
    omega
  generalize hA : u1 * l - k * v1 = A at ha hapos
  have hb1 := Int.emod_nonneg (p * u1 + q * v1) (show A ≠ 0 by omega)
  have hb2 := Int.emod_lt_of_pos (p * u1 + q * v1) hapos
  have hb3 := Int.emod_add_mul_ediv (p * u1 + q * v1) A
  generalize (p * u1 + q * v1) % A = b at hb1 hb2 hb3
  generalize (p * u1 + q * v1) / A = t at hb3
  have pos : Pos ⟨A.toNat, b.toNat, e.toNat⟩ := ⟨by show 0 < A.toNat; omega, by show 0 < e.toNat; omega⟩
  refine ⟨⟨A.toNat, b.toNat, e.toNat⟩, pos, ?_, ?_, ?_, ?_⟩
  · show A.toNat * e.toNat = n
    have h1 : ((A.toNat * e.toNat : Nat) : Int) = A * e := by
      rw [Int.natCast_mul, Int.toNat_of_nonneg (by omega), Int.toNat_of_nonneg (by omega)]
    omega
  · show b.toNat < A.toNat
    omega
  · refine (isIn_rel pos _).mpr ⟨k, k * t + q, ?_, ?_⟩
    · show u2 = k * ((e.toNat : Nat) : Int)
      rw [Int.toNat_of_nonneg (by omega)]
      exact e2
    · show u1 = k * ((b.toNat : Nat) : Int) + (k * t + q) * ((A.toNat : Nat) : Int)
      rw [Int.toNat_of_nonneg (by omega), Int.toNat_of_nonneg (by omega)]
      grind
  · refine (isIn_rel pos _).mpr ⟨l, l * t - p, ?_, ?_⟩
    · show v2 = l * ((e.toNat : Nat) : Int)
      rw [Int.toNat_of_nonneg (by omega)]
      exact e3
    · show v1 = l * ((b.toNat : Nat) : Int) + (l * t - p) * ((A.toNat : Nat) : Int)
      rw [Int.toNat_of_nonneg (by omega), Int.toNat_of_nonneg (by omega)]
      grind
end Til
namespace Til
open Ti01 Geo

def ind (g : Grid) (h : Cell) (c : Cell) : Int := if home g c = h then 1 else 0
/-- how many squares of the shape lie as c does -/
def M (g : Grid) (s : List Cell) (c : Cell) : Int := sumC (ind g (home g c)) s
theorem M_shift {g : Grid} (hg : Pos g) (s : List Cell) (c e : Cell) (h : sumC (fun q => ind g (home g (add c e)) q - ind g (home g (add c e)) (add q e)) s = 0) : M g s (add c e) = M g s c := by
  rw [sumC_sub] at h
  unfold M
  have : (fun q => ind g (home g (add c e)) (add q e)) = ind g (home g c) := by
    funext q
    unfold ind
    by_cases z : home g q = home g c
    · rw [if_pos z, if_pos ((home_shift hg q c e).mpr z)]
    · rw [if_neg z, if_neg (fun y => z ((home_shift hg q c e).mp y))]
  rw [this] at h
  omega
theorem M_pos {g : Grid} {s : List Cell} {q : Cell} (hq : q ∈ s) : 1 ≤ M g s q := by
  unfold M
  have nn : ∀ l : List Cell, 0 ≤ sumC (ind g (home g q)) l := by
    intro l
    induction l with
    | nil => exact Int.le_refl _
    | cons c l ih =>
      have : 0 ≤ ind g (home g q) c := by unfold ind; split <;> omega
      simp only [sumC]
      omega
  induction s with
  | nil => cases hq
  | cons c s ih =>
    simp only [sumC]
    rcases List.mem_cons.mp hq with e | e
    · subst e
      have := nn s
      have h1 : ind g (home g q) q = 1 := if_pos rfl
      omega
    · have := ih e
      have : 0 ≤ ind g (home g q) c := by unfold ind; split <;> omega
      omega
theorem M_mem {g : Grid} {s : List Cell} {c : Cell} (h : 1 ≤ M g s c) : ∃ q ∈ s, home g q = home g c := by
  unfold M at h
  induction s with
  | nil => simp [sumC] at h
  | cons q s ih =>
    by_cases e : home g q = home g c
    · exact ⟨q, List.mem_cons_self .., e⟩
    · have h1 : ind g (home g c) q = 0 := if_neg e
      simp only [sumC, h1] at h
      obtain ⟨q', h2, h3⟩ := ih (by omega)
      exact ⟨q', List.mem_cons_of_mem _ h2, h3⟩
theorem const_all {f : Cell → Int} (hx : ∀ c, f (add c (1, 0)) = f c) (hy : ∀ c, f (add c (0, 1)) = f c) (p q : Cell) : f p = f q := by
  have nx : ∀ (n : Nat) (x y : Int), f (x + (n : Int), y) = f (x, y) := by
    intro n
    induction n with
    | zero => intro x y; rw [show x + ((0 : Nat) : Int) = x by omega]
    | succ n ih =>
      intro x y
      rw [show x + ((n + 1 : Nat) : Int) = (x + (n : Int)) + 1 by omega, ← ih x y, ← hx (x + (n : Int), y)]
      simp [add]
  have ny : ∀ (n : Nat) (x y : Int), f (x, y + (n : Int)) = f (x, y) := by
    intro n
    induction n with
    | zero => intro x y; rw [show y + ((0 : Nat) : Int) = y by omega]
    | succ n ih =>
      intro x y
      rw [show y + ((n + 1 : Nat) : Int) = (y + (n : Int)) + 1 by omega, ← ih x y, ← hy (x, y + (n : Int))]
      simp [add]
  have ex : ∀ x x' y : Int, f (x, y) = f (x', y) := by
    intro x x' y
    by_cases h : x ≤ x'
    · have := nx (x' - x).toNat x y
      rw [show x + (((x' - x).toNat : Nat) : Int) = x' by omega] at this
      exact this.symm
    · have := nx (x - x').toNat x' y
      rw [show x' + (((x - x').toNat : Nat) : Int) = x by omega] at this
      exact this
  have ey : ∀ x y y' : Int, f (x, y) = f (x, y') := by
    intro x y y'
    by_cases h : y ≤ y'
    · have := ny (y' - y).toNat x y
      rw [show y + (((y' - y).toNat : Nat) : Int) = y' by omega] at this
      exact this.symm
    · have := ny (y - y').toNat x y'
      rw [show y' + (((y - y').toNat : Nat) : Int) = y by omega] at this
      exact this
  exact (ex p.1 q.1 p.2).trans (ey q.1 p.2 q.2)
/-! the homes -/
def reps (g : Grid) : List Cell := (List.range g.d).flatMap fun (y : Nat) => (List.range g.a).map fun (x : Nat) => (((x : Int), (y : Int)) : Cell)
theorem reps_len (g : Grid) : (reps g).length = g.a * g.d := by
  unfold reps
  have : ∀ n : Nat, ((List.range n).flatMap fun (y : Nat) => (List.range g.a).map fun (x : Nat) => (((x : Int), (y : Int)) : Cell)).length = g.a * n := by
    intro n
    induction n with
    | zero => rfl
    | succ n ih =>
      rw [List.range_succ, List.flatMap_append, List.length_append, ih]
      simp
      rw [Nat.mul_succ]
  exact this g.d
theorem mem_reps {g : Grid} {c : Cell} : c ∈ reps g ↔ 0 ≤ c.1 ∧ c.1 < (g.a : Int) ∧ 0 ≤ c.2 ∧ c.2 < (g.d : Int) := by
  unfold reps
  rw [List.mem_flatMap]
  constructor
  · rintro ⟨y, hy, h⟩
    rw [List.mem_map] at h
    obtain ⟨x, hx, rfl⟩ := h
    rw [List.mem_range] at hx hy
    refine ⟨?_, ?_, ?_, ?_⟩
    · show (0 : Int) ≤ (x : Int); omega
    · show (x : Int) < _; omega
    · show (0 : Int) ≤ (y : Int); omega
    · show (y : Int) < _; omega
  · rintro ⟨h1, h2, h3, h4⟩
    refine ⟨c.2.toNat, List.mem_range.mpr (by omega), List.mem_map.mpr ⟨c.1.toNat, List.mem_range.mpr (by omega), ?_⟩⟩
    apply Prod.ext
    · show ((c.1.toNat : Nat) : Int) = c.1; omega
    · show ((c.2.toNat : Nat) : Int) = c.2; omega
theorem reps_nodup (g : Grid) : (reps g).Nodup := by
  unfold reps
  have : ∀ n : Nat, ((List.range n).flatMap fun (y : Nat) => (List.range g.a).map fun (x : Nat) => (((x : Int), (y : Int)) : Cell)).Nodup := by
    intro n
    induction n with
    | zero => simp
    | succ n ih =>
      rw [List.range_succ, List.flatMap_append, List.nodup_append]
      refine ⟨ih, ?_, ?_⟩
      · simp only [List.flatMap_cons, List.flatMap_nil, List.append_nil]
        refine nodup_map (fun a b e => ?_) List.nodup_range
        injection e with e1 _
        omega
      · intro p hp q hq e
        subst e
        rw [List.mem_flatMap] at hp
        obtain ⟨y, hy, h⟩ := hp
        rw [List.mem_map] at h
        obtain ⟨x, _, rfl⟩ := h
        simp at hq
        rw [List.mem_range] at hy
        omega
  exact this g.d
theorem home_reps {g : Grid} (h : Pos g) (c : Cell) : home g c ∈ reps g := by
  have h1 := h.a
  have h2 := h.d
  rw [mem_reps, home_is h]
  have e := Int.emod_add_mul_ediv c.2 (g.d : Int)
  have e1 := Int.emod_nonneg c.2 (show (g.d : Int) ≠ 0 by omega)
  have e2 := Int.emod_lt_of_pos c.2 (show (0 : Int) < (g.d : Int) by omega)
  rw [Int.mul_comm] at e
  refine ⟨Int.emod_nonneg _ (by omega), Int.emod_lt_of_pos _ (by omega), ?_, ?_⟩
  · show 0 ≤ c.2 - c.2 / (g.d : Int) * (g.d : Int); omega
  · show c.2 - c.2 / (g.d : Int) * (g.d : Int) < _; omega
theorem home_rep {g : Grid} (h : Pos g) {c : Cell} (hc : c ∈ reps g) : home g c = c := by
  rw [mem_reps] at hc
  obtain ⟨h1, h2, h3, h4⟩ := hc
  rw [home_is h, Int.ediv_eq_zero_of_lt h3 h4]
  apply Prod.ext
  · show (c.1 - 0 * (g.b : Int)) % (g.a : Int) = c.1
    rw [Int.zero_mul, Int.sub_zero, Int.emod_eq_of_lt h1 h2]
  · show c.2 - 0 * (g.d : Int) = c.2
    omega
theorem diff_of_nodup : ∀ l : List Cell, l.Nodup → different l = true
  | [], _ => rfl
  | c :: l, h => by
    rw [List.nodup_cons] at h
    simp only [different, Bool.and_eq_true, Bool.not_eq_true']
    refine ⟨Bool.eq_false_iff.mpr fun z => h.1 (List.contains_iff_mem.mp z), diff_of_nodup l h.2⟩
theorem nodup_of_all {ks R : List Cell} (hR : R.Nodup) (h1 : ∀ r ∈ R, r ∈ ks) (hl : ks.length ≤ R.length) : ks.Nodup := by
  apply Classical.byContradiction
  intro hn
  have few : ∀ l : List Cell, ¬ l.Nodup → ∃ m : List Cell, (∀ x ∈ l, x ∈ m) ∧ m.length < l.length := by
    intro l
    induction l with
    | nil => intro h; exact absurd (by simp) h
    | cons x r ih =>
      intro h
      by_cases hx : x ∈ r
      · refine ⟨r, fun y hy => ?_, by simp⟩
        rcases List.mem_cons.mp hy with e | e
        · subst e; exact hx
        · exact e
      · obtain ⟨m, h1, h2⟩ := ih (fun hr => h (List.nodup_cons.mpr ⟨hx, hr⟩))
        refine ⟨x :: m, fun y hy => ?_, by simp only [List.length_cons]; omega⟩
        rcases List.mem_cons.mp hy with e | e
        · subst e; exact List.mem_cons_self ..
        · exact List.mem_cons_of_mem _ (h1 y e)
  obtain ⟨m, h2, h3⟩ := few ks hn
  have := List.Nodup.length_le_of_subset hR (fun r hr => h2 r (h1 r hr))
  omega
/-! the way round from a step on -/
theorem run_seg (s : List Cell) (b : Cell) : ∀ (n i : Nat), run (st s b i).1 ((seg s b i n).map (·.2)) = seg s b i n
  | 0, _ => rfl
  | n + 1, i => by
    show ((st s b i).1, (st s b i).2) :: run (ahead (st s b i).1 (st s b i).2) ((seg s b (i + 1) n).map (·.2)) = st s b i :: seg s b (i + 1) n
    rw [show ahead (st s b i).1 (st s b i).2 = (st s b (i + 1)).1 from rfl, run_seg s b n (i + 1)]
theorem fin_seg (s : List Cell) (b : Cell) : ∀ (n i : Nat), fin (st s b i).1 ((seg s b i n).map (·.2)) = (st s b (i + n)).1
  | 0, _ => rfl
  | n + 1, i => by
    show fin (ahead (st s b i).1 (st s b i).2) ((seg s b (i + 1) n).map (·.2)) = _
    rw [show ahead (st s b i).1 (st s b i).2 = (st s b (i + 1)).1 from rfl, fin_seg s b n (i + 1)]
    rw [show i + 1 + n = i + (n + 1) by omega]
theorem seg_drop (s : List Cell) (b : Cell) (m i : Nat) (h : i ≤ m) : (seg s b 0 m).drop i = seg s b i (m - i) ∧ (seg s b 0 m).take i = seg s b 0 i := by
  have e : seg s b 0 m = seg s b 0 i ++ seg s b i (m - i) := by
    rw [show m = i + (m - i) by omega, seg_add, show 0 + i = i by omega, show i + (m - i) - i = m - i by omega]
  have l := seg_len s b i 0
  constructor
  · rw [e, List.drop_append_of_le_length (by omega), List.drop_eq_nil_of_le (by omega)]
    rfl
  · rw [e, List.take_append_of_le_length (by omega), List.take_of_length_le (by omega)]
theorem run_from {s : List Cell} {b : Cell} {m : Nat} (r : Round s b m) {i : Nat} (hi : i ≤ m) :
    run (st s b i).1 (from_ ((seg s b 0 m).map (·.2)) i) = seg s b i (m - i) ++ seg s b 0 i := by
  unfold from_
  rw [← List.map_drop, ← List.map_take, (seg_drop s b m i hi).1, (seg_drop s b m i hi).2, run_append, run_seg, fin_seg, show i + (m - i) = m by omega, r.back]
  have : run b ((seg s b 0 i).map (·.2)) = seg s b 0 i := run_seg s b i 0
  rw [this]
theorem seg_nodup {s : List Cell} {b : Cell} {m : Nat} (r : Round s b m) : (seg s b 0 m).Nodup ∧ ∀ x, x ∈ seg s b 0 m ↔ bd s x := by
  have all : ∀ x ∈ seg s b 0 m, bd s x := by
    intro x hx
    obtain ⟨k, _, _, h3⟩ := (mem_seg s b _ _ _).mp hx
    rw [← h3]; exact r.on k
  refine ⟨?_, fun x => ⟨all x, fun h => List.count_pos_iff.mp (by rw [r.once x h]; decide)⟩⟩
  rw [List.nodup_iff_count]
  intro x
  by_cases h : bd s x
  · rw [r.once x h]; exact Nat.le_refl _
  · rw [List.count_eq_zero.mpr fun z => h (all x z)]; exact Nat.zero_le _
/-- the cut's six parts -/
theorem six_of {w : List Nat} {i a b : Nat} (h4 : ∀ d ∈ w, d < 4) (hc : (cuts w).contains (i, a, b) = true) : i < w.length / 2 ∧ a + b ≤ w.length / 2 ∧
    Six (from_ w i) ((from_ w i).take a) (((from_ w i).drop a).take b) ((((from_ w i).drop a).drop b).take (w.length / 2 - a - b)) := by
  have hm := List.contains_iff_mem.mp hc
  unfold cuts at hm
  simp only [List.mem_flatMap, List.mem_range, List.mem_map, List.mem_filter, Prod.mk.injEq] at hm
  obtain ⟨i', hi, a', ha, b', ⟨hb, hcut⟩, rfl, rfl, rfl⟩ := hm
  have fl : (from_ w i').length = w.length := by
    unfold from_
    rw [List.length_append, List.length_drop, List.length_take]
    omega
  have f4 : ∀ d ∈ from_ w i', d < 4 := by
    intro d hd
    unfold from_ at hd
    rcases List.mem_append.mp hd with h | h
    · exact h4 d (List.mem_of_mem_drop h)
    · exact h4 d (List.mem_of_mem_take h)
  unfold isCut at hcut
  simp only [Bool.and_eq_true, decide_eq_true_eq, fl] at hcut
  refine ⟨hi, hcut.1, eq_of_beq hcut.2, fun d hd => f4 d (List.mem_of_mem_take hd), fun d hd => f4 d (List.mem_of_mem_drop (List.mem_of_mem_take hd)), fun d hd => f4 d (List.mem_of_mem_drop (List.mem_of_mem_drop (List.mem_of_mem_take hd)))⟩
theorem gone_append (X Y : List Nat) : gone (X ++ Y) = add (gone X) (gone Y) := by
  show fin (0, 0) (X ++ Y) = _
  rw [fin_append, fin_gone Y]
  rfl
theorem moves_of {w : List Nat} {i a b : Nat} (hab : a + b ≤ w.length / 2) : moves w (i, a, b) =
    (add (gone ((from_ w i).take a)) (gone (((from_ w i).drop a).take b)), add (gone (((from_ w i).drop a).take b)) (gone ((((from_ w i).drop a).drop b).take (w.length / 2 - a - b)))) := by
  unfold moves
  simp only
  rw [← gone_append, ← gone_append]
  have e1 : (from_ w i).take a ++ ((from_ w i).drop a).take b = (from_ w i).take (a + b) := (List.take_add ..).symm
  have e2 : ((from_ w i).drop a).take b ++ (((from_ w i).drop a).drop b).take (w.length / 2 - a - b) = ((from_ w i).drop a).take (w.length / 2 - a) := by
    rw [← List.take_add]
    congr 1
    omega
  rw [e1, e2]
/-- **A cut gives a grid.** -/
theorem cut_grid {s : List Cell} (g : Good s) (hne : s ≠ []) (nd : s.Nodup) {i a b : Nat} (hc : (cuts (edge s)).contains (i, a, b) = true) :
    ∃ gr ∈ grids s, isIn gr (moves (edge s) (i, a, b)).1 = true ∧ isIn gr (moves (edge s) (i, a, b)).2 = true := by
  obtain ⟨m, r, ed⟩ := edge_round g hne
  have h4 : ∀ d ∈ edge s, d < 4 := by
    intro d hd
    rw [ed, List.mem_map] at hd
    obtain ⟨x, hx, rfl⟩ := hd
    exact (((seg_nodup r).2 x).mp hx).1
  obtain ⟨hi, hab, six⟩ := six_of h4 hc
  have lw : (edge s).length = m := by rw [ed, List.length_map, seg_len]
  have him : i ≤ m := by omega
  rw [moves_of hab]
  generalize (from_ (edge s) i).take a = X at six
  generalize ((from_ (edge s) i).drop a).take b = Y at six
  generalize (((from_ (edge s) i).drop a).drop b).take ((edge s).length / 2 - a - b) = Z at six
  have hrun : run (st s (lowest s) i).1 (from_ (edge s) i) = seg s (lowest s) i (m - i) ++ seg s (lowest s) 0 i := by
    rw [ed]
    exact run_from r him
  have esplit : seg s (lowest s) 0 m = seg s (lowest s) 0 i ++ seg s (lowest s) i (m - i) := by
    have := seg_drop s (lowest s) m i him
    rw [← this.1, ← this.2, List.take_append_drop]
  have hperm : (run (st s (lowest s) i).1 (from_ (edge s) i)).Perm (seg s (lowest s) 0 m) := by
    rw [hrun, esplit]
    exact List.perm_append_comm
  have rn : (run (st s (lowest s) i).1 (from_ (edge s) i)).Nodup := hperm.nodup_iff.mpr (seg_nodup r).1
  have rm : ∀ x, x ∈ run (st s (lowest s) i).1 (from_ (edge s) i) ↔ bd s x := fun x => (hperm.mem_iff).trans ((seg_nodup r).2 x)
  have area : (add (gone X) (gone Y)).1 * (add (gone Y) (gone Z)).2 - (add (gone X) (gone Y)).2 * (add (gone Y) (gone Z)).1 = (s.length : Int) := by
    rw [← six_area six (st s (lowest s) i).1]
    unfold Psi
    rw [← stokes vert_ok nd rn rm]
    have : ∀ l : List Cell, sumC (fun c => - c.1 - - (add c vert.e).1) l = (l.length : Int) := by
      intro l
      induction l with
      | nil => rfl
      | cons c l ih =>
        simp only [sumC, ih, List.length_cons]
        simp [add, vert]
        omega
    exact this s
  obtain ⟨gr, pos, had, hb, iu, iv⟩ := grid_of _ _ s.length (List.length_pos_iff.mpr hne) area
  have zero : ∀ (D : Dirn), D.Ok → D.Rev → D.Moves → ∀ h : Cell, sumC (fun q => ind gr h q - ind gr h (add q D.e)) s = 0 := by
    intro D ok rv mv h
    rw [stokes ok nd rn rm]
    refine six_zero six rv mv (fun c => ?_) (fun c => ?_) _
    · unfold ind
      rw [home_add pos iu]
    · unfold ind
      rw [home_add pos iv]
  have mx : ∀ c, M gr s (add c (1, 0)) = M gr s c := fun c => M_shift pos s c (1, 0) (zero vert vert_ok vert_rev vert_moves _)
  have my : ∀ c, M gr s (add c (0, 1)) = M gr s c := fun c => M_shift pos s c (0, 1) (zero hori hori_ok hori_rev hori_moves _)
  have all : ∀ rr ∈ reps gr, rr ∈ s.map (home gr) := by
    intro rr hr
    obtain ⟨q0, hq0⟩ := List.exists_mem_of_ne_nil s hne
    have h1 := M_pos (g := gr) hq0
    rw [const_all mx my q0 rr] at h1
    obtain ⟨q, hq, e⟩ := M_mem h1
    rw [home_rep pos hr] at e
    exact List.mem_map.mpr ⟨q, hq, e⟩
  have nh : (s.map (home gr)).Nodup := nodup_of_all (reps_nodup gr) all (by rw [List.length_map, reps_len, had]; exact Nat.le_refl _)
  refine ⟨gr, ?_, iu, iv⟩
  unfold grids
  rw [List.mem_flatMap]
  have ha := pos.a
  have hd := pos.d
  have hale : gr.a ≤ s.length := by
    rw [← had]
    exact Nat.le_mul_of_pos_right _ hd
  refine ⟨gr.a - 1, List.mem_range.mpr (by omega), ?_⟩
  rw [show gr.a - 1 + 1 = gr.a by omega, if_pos (by rw [← had]; exact Nat.mul_mod_right _ _), List.mem_filter, List.mem_map]
  refine ⟨⟨gr.b, List.mem_range.mpr hb, ?_⟩, ?_⟩
  · rw [← had, Nat.mul_div_cancel_left _ ha]
  · unfold covers
    rw [diff_of_nodup _ nh, Bool.and_true, beq_iff_eq]
    exact had
end Til
namespace Til
open Ti01 Geo

theorem mem_grids {s : List Cell} {g : Grid} (h : g ∈ grids s) (hne : s ≠ []) : Pos g ∧ g.a * g.d = s.length ∧ g.b < g.a ∧ (s.map (home g)).Nodup := by
  unfold grids at h
  rw [List.mem_flatMap] at h
  obtain ⟨i, hi, h⟩ := h
  rw [List.mem_range] at hi
  by_cases hm : s.length % (i + 1) = 0
  · rw [if_pos hm, List.mem_filter, List.mem_map] at h
    obtain ⟨⟨b, hb, rfl⟩, hc⟩ := h
    rw [List.mem_range] at hb
    unfold covers at hc
    rw [Bool.and_eq_true, beq_iff_eq] at hc
    have dn : ∀ l : List Cell, different l = true → l.Nodup := by
      intro l
      induction l with
      | nil => intro _; simp
      | cons c l ih =>
        intro h
        simp only [different, Bool.and_eq_true, Bool.not_eq_true'] at h
        exact List.nodup_cons.mpr ⟨fun z => (by rw [List.contains_iff_mem.mpr z] at h; cases h.1), ih h.2⟩
    refine ⟨⟨Nat.succ_pos i, ?_⟩, hc.1, hb, dn _ hc.2⟩
    show 0 < s.length / (i + 1)
    exact Nat.div_pos (by omega) (by omega)
  · rw [if_neg hm] at h
    cases h
/-- a grid by which the shape covers brings a square of it to each place -/
theorem grid_all {s : List Cell} {g : Grid} (h : g ∈ grids s) (hne : s ≠ []) (c : Cell) : ∃ q ∈ s, home g q = home g c := by
  obtain ⟨pos, had, _, nd⟩ := mem_grids h hne
  have sub : ∀ x ∈ s.map (home g), x ∈ reps g := by
    intro x hx
    obtain ⟨q, _, rfl⟩ := List.mem_map.mp hx
    exact home_reps pos q
  apply Classical.byContradiction
  intro hno
  have hc := home_reps pos c
  have hn : home g c ∉ s.map (home g) := by
    intro z
    obtain ⟨q, hq, e⟩ := List.mem_map.mp z
    exact hno ⟨q, hq, e⟩
  have := List.Nodup.length_le_of_subset (List.nodup_cons.mpr ⟨hn, nd⟩) (l₂ := reps g) (by
    intro x hx
    rcases List.mem_cons.mp hx with e | e
    · subst e; exact hc
    · exact sub x e)
  rw [List.length_cons, List.length_map, reps_len, had] at this
  omega
/-- two moves whose area is a grid's own are in one such grid alone -/
theorem grid_one {g g' : Grid} (h : Pos g) (h' : Pos g') (hb : g.b < g.a) (hb' : g'.b < g'.a) {u v : Cell} {n : Nat} (hn : 0 < n) (had : g.a * g.d = n) (had' : g'.a * g'.d = n) (hdet : u.1 * v.2 - u.2 * v.1 = (n : Int))
    (iu : isIn g u = true) (iv : isIn g v = true) (iu' : isIn g' u = true) (iv' : isIn g' v = true) : g = g' := by
  obtain ⟨u1, u2⟩ := u
  obtain ⟨v1, v2⟩ := v
  obtain ⟨k, j, k1, k2⟩ := (isIn_rel h _).mp iu
  obtain ⟨l, i, l1, l2⟩ := (isIn_rel h _).mp iv
  obtain ⟨k', j', k1', k2'⟩ := (isIn_rel h' _).mp iu'
  obtain ⟨l', i', l1', l2'⟩ := (isIn_rel h' _).mp iv'
  simp only at k1 k2 l1 l2 k1' k2' l1' l2' hdet
  have pa := h.a
  have pd := h.d
  have pa' := h'.a
  have pd' := h'.d
  obtain ⟨a, b, d⟩ := g
  obtain ⟨a', b', d'⟩ := g'
  simp only at *
  have e1 : ((a : Int)) * (d : Int) = (n : Int) := by rw [← Int.natCast_mul, had]
  have e1' : ((a' : Int)) * (d' : Int) = (n : Int) := by rw [← Int.natCast_mul, had']
  have nn : (n : Int) ≠ 0 := by omega
  have one : j * l - k * i = 1 := by
    have : (j * l - k * i) * (n : Int) = 1 * (n : Int) := by grind
    exact Int.eq_of_mul_eq_mul_right nn this
  have one' : j' * l' - k' * i' = 1 := by
    have : (j' * l' - k' * i') * (n : Int) = 1 * (n : Int) := by grind
    exact Int.eq_of_mul_eq_mul_right nn this
  have dd : ∃ t : Int, (d : Int) = t * (d' : Int) := ⟨j * l' - i * k', by grind⟩
  have dd' : ∃ t : Int, (d' : Int) = t * (d : Int) := ⟨j' * l - i' * k, by grind⟩
  obtain ⟨t, ht⟩ := dd
  obtain ⟨t', ht'⟩ := dd'
  have hde : d = d' := by
    have q1 : d' ∣ d := Int.natCast_dvd_natCast.mp ⟨t, by rw [Int.mul_comm]; exact ht⟩
    have q2 : d ∣ d' := Int.natCast_dvd_natCast.mp ⟨t', by rw [Int.mul_comm]; exact ht'⟩
    exact Nat.dvd_antisymm q2 q1
  subst hde
  have hae : a = a' := Nat.eq_of_mul_eq_mul_right pd (had.trans had'.symm)
  subst hae
  have hk : k = k' := Int.eq_of_mul_eq_mul_right (show (d : Int) ≠ 0 by omega) (k1.symm.trans k1')
  have hl : l = l' := Int.eq_of_mul_eq_mul_right (show (d : Int) ≠ 0 by omega) (l1.symm.trans l1')
  subst hk hl
  have hbb : ((b : Int) - (b' : Int)) = (j * (i' - i) - i * (j' - j)) * (a : Int) := by grind
  have hb0 : b = b' := by
    generalize j * (i' - i) - i * (j' - j) = z at hbb
    have hz : z = 0 := by
      apply Classical.byContradiction
      intro hz
      have : z ≤ -1 ∨ 1 ≤ z := by omega
      rcases this with hz | hz
      · have := Int.mul_le_mul_of_nonneg_right hz (show (0 : Int) ≤ (a : Int) by omega)
        omega
      · have := Int.mul_le_mul_of_nonneg_right hz (show (0 : Int) ≤ (a : Int) by omega)
        omega
    rw [hz] at hbb
    omega
  subst hb0
  rfl
end Til
namespace Til
open Ti01 Geo

/-! the area of a cut's two moves -/
theorem cut_area {s : List Cell} (g : Good s) (hne : s ≠ []) (nd : s.Nodup) {i a b : Nat} (hc : (cuts (edge s)).contains (i, a, b) = true) :
    (moves (edge s) (i, a, b)).1.1 * (moves (edge s) (i, a, b)).2.2 - (moves (edge s) (i, a, b)).1.2 * (moves (edge s) (i, a, b)).2.1 = (s.length : Int) := by
  obtain ⟨m, r, ed⟩ := edge_round g hne
  have h4 : ∀ d ∈ edge s, d < 4 := by
    intro d hd
    rw [ed, List.mem_map] at hd
    obtain ⟨x, hx, rfl⟩ := hd
    exact (((seg_nodup r).2 x).mp hx).1
  obtain ⟨hi, hab, six⟩ := six_of h4 hc
  have lw : (edge s).length = m := by rw [ed, List.length_map, seg_len]
  have him : i ≤ m := by omega
  rw [moves_of hab]
  generalize (from_ (edge s) i).take a = X at six
  generalize ((from_ (edge s) i).drop a).take b = Y at six
  generalize (((from_ (edge s) i).drop a).drop b).take ((edge s).length / 2 - a - b) = Z at six
  have hrun : run (st s (lowest s) i).1 (from_ (edge s) i) = seg s (lowest s) i (m - i) ++ seg s (lowest s) 0 i := by
    rw [ed]
    exact run_from r him
  have esplit : seg s (lowest s) 0 m = seg s (lowest s) 0 i ++ seg s (lowest s) i (m - i) := by
    have := seg_drop s (lowest s) m i him
    rw [← this.1, ← this.2, List.take_append_drop]
  have hperm : (run (st s (lowest s) i).1 (from_ (edge s) i)).Perm (seg s (lowest s) 0 m) := by
    rw [hrun, esplit]
    exact List.perm_append_comm
  have rn : (run (st s (lowest s) i).1 (from_ (edge s) i)).Nodup := hperm.nodup_iff.mpr (seg_nodup r).1
  have rm : ∀ x, x ∈ run (st s (lowest s) i).1 (from_ (edge s) i) ↔ bd s x := fun x => (hperm.mem_iff).trans ((seg_nodup r).2 x)
  rw [← six_area six (st s (lowest s) i).1]
  unfold Psi
  rw [← stokes vert_ok nd rn rm]
  have : ∀ l : List Cell, sumC (fun c => - c.1 - - (add c vert.e).1) l = (l.length : Int) := by
    intro l
    induction l with
    | nil => rfl
    | cons c l ih =>
      simp only [sumC, ih, List.length_cons]
      simp [add, vert]
      omega
  exact this s
/-! the grid of two moves, found by taking one from the other -/
def rest (s l : Cell) : Cell := (s.1 - s.2.fdiv l.2 * l.1, s.2 - s.2.fdiv l.2 * l.2)
structure EG (u v : Cell) (n : Nat) (s l : Cell) : Prop where
  det : (s.1 * l.2 - s.2 * l.1).natAbs = n
  back : ∀ g, Pos g → isIn g s = true → isIn g l = true → isIn g u = true ∧ isIn g v = true
  bs : s.2.natAbs ≤ 1000
  bl : l.2.natAbs ≤ 1000
theorem EG.start {u v : Cell} {n : Nat} (hd : u.1 * v.2 - u.2 * v.1 = (n : Int)) (h1 : u.2.natAbs ≤ 1000) (h2 : v.2.natAbs ≤ 1000) : EG u v n u v :=
  ⟨by omega, fun _ _ a b => ⟨a, b⟩, h1, h2⟩
theorem rest_less (s : Cell) {l : Cell} (h : l.2 ≠ 0) : (rest s l).2.natAbs < l.2.natAbs := by
  have e : (rest s l).2 = s.2.fmod l.2 := by
    have := Int.fmod_add_mul_fdiv s.2 l.2
    show s.2 - s.2.fdiv l.2 * l.2 = _
    rw [Int.mul_comm]
    omega
  rw [e]
  by_cases hp : 0 < l.2
  · have h1 := Int.fmod_nonneg_of_pos s.2 hp
    have h2 := Int.fmod_lt_of_pos s.2 hp
    omega
  · have hq : 0 < -l.2 := by omega
    have h1 := Int.fmod_nonneg_of_pos (-s.2) hq
    have h2 := Int.fmod_lt_of_pos (-s.2) hq
    have e2 : s.2.fmod l.2 = - ((-s.2).fmod (-l.2)) := by
      rw [Int.neg_fmod_neg]
      omega
    omega
theorem EG.step {u v s l : Cell} {n : Nat} (h : EG u v n s l) (hl : l.2 ≠ 0) : EG u v n l (rest s l) := by
  refine ⟨?_, fun g pg i1 i2 => h.back g pg ?_ i1, h.bl, ?_⟩
  · have : l.1 * (rest s l).2 - l.2 * (rest s l).1 = -(s.1 * l.2 - s.2 * l.1) := by
      show l.1 * (s.2 - s.2.fdiv l.2 * l.2) - l.2 * (s.1 - s.2.fdiv l.2 * l.1) = _
      grind
    rw [this, Int.natAbs_neg]
    exact h.det
  · obtain ⟨k, j, k1, k2⟩ := (isIn_rel pg _).mp i1
    obtain ⟨k', j', k1', k2'⟩ := (isIn_rel pg _).mp i2
    refine (isIn_rel pg _).mpr ⟨k' + s.2.fdiv l.2 * k, j' + s.2.fdiv l.2 * j, ?_, ?_⟩
    · have e : s.2 - s.2.fdiv l.2 * l.2 = k' * (g.d : Int) := k1'
      generalize s.2.fdiv l.2 = q at *
      rw [k1] at e
      grind
    · have e : s.1 - s.2.fdiv l.2 * l.1 = k' * (g.b : Int) + j' * (g.a : Int) := k2'
      generalize s.2.fdiv l.2 = q at *
      rw [k2] at e
      grind
  · have := rest_less s hl
    have := h.bl
    omega
theorem fdiv_small {a b : Int} (ha : a.natAbs ≤ 1000) (hb : b ≠ 0) : -1001 ≤ a.fdiv b ∧ a.fdiv b ≤ 1001 := by
  have pos : ∀ a b : Int, a.natAbs ≤ 1000 → 0 < b → -1001 ≤ a.fdiv b ∧ a.fdiv b ≤ 1001 := by
    intro a b ha hb
    have h1 := Int.fmod_nonneg_of_pos a hb
    have h2 := Int.fmod_lt_of_pos a hb
    have h3 := Int.fmod_add_mul_fdiv a b
    generalize a.fdiv b = q at *
    generalize a.fmod b = r at *
    constructor
    · apply Classical.byContradiction
      intro h
      have : b * q ≤ b * (-1002) := Int.mul_le_mul_of_nonneg_left (by omega) (by omega)
      omega
    · apply Classical.byContradiction
      intro h
      have : b * 1002 ≤ b * q := Int.mul_le_mul_of_nonneg_left (by omega) (by omega)
      omega
  by_cases hp : 0 < b
  · exact pos a b ha hp
  · rw [← Int.neg_fdiv_neg]
    exact pos (-a) (-b) (by omega) (by omega)
/-- the last move but one, upwards -/
def upw (s : Cell) : Cell := if s.2 < 0 then (-s.1, -s.2) else s
def absI (i : Int) : Int := if i < 0 then -i else i
theorem EG.stop {u v s l : Cell} {n : Nat} (h : EG u v n s l) (hl : l.2 = 0) (hn : 0 < n) (hd : u.1 * v.2 - u.2 * v.1 = (n : Int)) {g : Grid} (pg : Pos g) (hb : g.b < g.a) (had : g.a * g.d = n) (iu : isIn g u = true) (iv : isIn g v = true) :
    0 < absI l.1 ∧ absI l.1 = (g.a : Int) ∧ (upw s).1 % absI l.1 = (g.b : Int) ∧ (upw s).2 = (g.d : Int) := by
  obtain ⟨s1, s2⟩ := s
  obtain ⟨l1, l2⟩ := l
  simp only at hl
  subst hl
  have hdet := h.det
  simp only at hdet
  rw [Int.mul_zero, Int.zero_sub, Int.natAbs_neg, Int.natAbs_mul] at hdet
  have s0 : s2.natAbs ≠ 0 := by intro z; rw [z, Nat.zero_mul] at hdet; omega
  have l0 : l1.natAbs ≠ 0 := by intro z; rw [z, Nat.mul_zero] at hdet; omega
  have hA : absI l1 = (l1.natAbs : Int) := by unfold absI; split <;> omega
  have hU2 : (upw (s1, s2)).2 = (s2.natAbs : Int) := by
    unfold upw
    split
    · rename_i z
      simp only at z ⊢
      omega
    · rename_i z
      simp only at z ⊢
      omega
  show 0 < absI l1 ∧ absI l1 = (g.a : Int) ∧ (upw (s1, s2)).1 % absI l1 = (g.b : Int) ∧ (upw (s1, s2)).2 = (g.d : Int)
  generalize hU : upw (s1, s2) = U at hU2
  obtain ⟨U1, U2⟩ := U
  simp only at hU2 ⊢
  rw [hA, hU2]
  generalize hAA : l1.natAbs = A at *
  have hb1 := Int.emod_nonneg U1 (show (A : Int) ≠ 0 by omega)
  have hb2 := Int.emod_lt_of_pos U1 (show (0 : Int) < (A : Int) by omega)
  have hb3 := Int.emod_add_mul_ediv U1 (A : Int)
  have pos : Pos ⟨A, (U1 % (A : Int)).toNat, s2.natAbs⟩ := ⟨by show 0 < A; omega, by show 0 < s2.natAbs; omega⟩
  have iU : isIn ⟨A, (U1 % (A : Int)).toNat, s2.natAbs⟩ (U1, U2) = true := by
    refine (isIn_rel pos _).mpr ⟨1, U1 / (A : Int), ?_, ?_⟩
    · show U2 = 1 * ((s2.natAbs : Nat) : Int)
      omega
    · show U1 = 1 * (((U1 % (A : Int)).toNat : Nat) : Int) + U1 / (A : Int) * ((A : Nat) : Int)
      rw [Int.toNat_of_nonneg hb1, Int.mul_comm (U1 / (A : Int))]
      omega
  have iS : isIn ⟨A, (U1 % (A : Int)).toNat, s2.natAbs⟩ (s1, s2) = true := by
    obtain ⟨k, j, k1, k2⟩ := (isIn_rel pos _).mp iU
    unfold upw at hU
    split at hU
    · injection hU with e1 e2
      refine (isIn_rel pos _).mpr ⟨-k, -j, ?_, ?_⟩
      · simp only at k1 e1 e2 ⊢
        rw [Int.neg_mul]
        omega
      · simp only at k2 e1 e2 ⊢
        rw [Int.neg_mul, Int.neg_mul]
        omega
    · injection hU with e1 e2
      refine (isIn_rel pos _).mpr ⟨k, j, ?_, ?_⟩
      · simp only at k1 e1 e2 ⊢
        omega
      · simp only at k2 e1 e2 ⊢
        omega
  have iL : isIn ⟨A, (U1 % (A : Int)).toNat, s2.natAbs⟩ (l1, 0) = true := by
    by_cases hz : 0 < l1
    · refine (isIn_rel pos _).mpr ⟨0, 1, ?_, ?_⟩
      · simp
      · simp only
        omega
    · refine (isIn_rel pos _).mpr ⟨0, -1, ?_, ?_⟩
      · simp
      · simp only
        omega
  obtain ⟨iu', iv'⟩ := h.back _ pos iS iL
  have e := grid_one pg pos hb (by show (U1 % (A : Int)).toNat < A; omega) hn had (by show A * s2.natAbs = n; rw [Nat.mul_comm]; exact hdet) hd iu iv iu' iv'
  rw [e]
  refine ⟨by omega, rfl, ?_, rfl⟩
  show U1 % (A : Int) = (((U1 % (A : Int)).toNat : Nat) : Int)
  omega
end Til
namespace Oc
open PySem PySem.Spec PyProof.Rows L2
abbrev Cell := Ti01.Cell
def top (i : Nat) : Stmt := PySem.Challenge.pw_onecover_s01_answers.main.body.getD i (.Pass ⟨0, 0, 0, 0⟩)
/-! ### squares in the heap -/
def TupAt (H : Hp) (v : V) (c : Cell) : Prop := ∃ b, v = .ref b ∧ H b = some (.tup [.int c.1, .int c.2])
inductive CellsV (H : Hp) : List V → List Cell → Prop
  | nil : CellsV H [] []
  | cons {v c vs cs} : TupAt H v c → CellsV H vs cs → CellsV H (v :: vs) (c :: cs)
def CellsAt (H : Hp) (a : Addr) (cs : List Cell) : Prop := ∃ xs, H a = some (.lst xs) ∧ CellsV H xs cs
theorem TupAt.same {H H' : Hp} {v : V} {c : Cell} (h : TupAt H v c) (e : Same H H') : TupAt H' v c := by
  obtain ⟨b, rfl, hb⟩ := h
  exact ⟨b, rfl, e _ _ hb⟩
theorem CellsV.same {H H' : Hp} {vs : List V} {cs : List Cell} (h : CellsV H vs cs) (e : Same H H') : CellsV H' vs cs := by
  induction h with
  | nil => exact .nil
  | cons h _ ih => exact .cons (h.same e) ih
theorem CellsAt.same {H H' : Hp} {a : Addr} {cs : List Cell} (h : CellsAt H a cs) (e : Same H H') : CellsAt H' a cs := by
  obtain ⟨xs, hx, hc⟩ := h
  exact ⟨xs, e _ _ hx, hc.same e⟩
theorem CellsV.length {H : Hp} {vs : List V} {cs : List Cell} (h : CellsV H vs cs) : vs.length = cs.length := by
  induction h with
  | nil => rfl
  | cons _ _ ih => simp [ih]
theorem CellsV.at {H : Hp} {vs : List V} {cs : List Cell} (h : CellsV H vs cs) : ∀ {i : Nat} {v : V}, vs[i]? = some v → ∃ c, cs[i]? = some c ∧ TupAt H v c := by
  induction h with
  | nil => intro i v h; simp at h
  | cons h _ ih =>
    intro i v hv
    cases i with
    | zero => cases hv; exact ⟨_, rfl, h⟩
    | succ i => exact ih hv
theorem CellsV.append {H : Hp} {vs ws : List V} {cs ds : List Cell} (h : CellsV H vs cs) (h2 : CellsV H ws ds) : CellsV H (vs ++ ws) (cs ++ ds) := by
  induction h with
  | nil => exact h2
  | cons h _ ih => exact .cons h ih
theorem CellsV.snoc {H : Hp} {vs : List V} {cs : List Cell} {v : V} {c : Cell} (h : CellsV H vs cs) (h2 : TupAt H v c) : CellsV H (vs ++ [v]) (cs ++ [c]) := h.append (.cons h2 .nil)
/-! ### heaps -/
theorem same_new {H : Hp} {p : Addr} {o : HO} (h : H p = none) : Same H (upd H p o) := fun b u e => by
  rw [upd_ne (ne_of_none e h)]
  exact e
theorem Same.upd_own {H H1 : Hp} {p : Addr} {o : HO} (e : Same H H1) (h : H p = none) : Same H (upd H1 p o) := fun b u q => by
  rw [upd_ne (ne_of_none q h)]
  exact e b u q
theorem tup_new {H : Hp} {p : Addr} {x y : Int} : TupAt (upd H p (.tup [.int x, .int y])) (.ref p) (x, y) := ⟨p, rfl, upd_same⟩
theorem size_ok {n : Nat} (h : n ≤ 1000000) : n ≤ sizeLine := Nat.le_trans h (by decide)
theorem size_lt {n : Nat} (h : n ≤ 1000000) : n < sizeLine := Nat.lt_of_le_of_lt h (by decide)
section
variable {P : Program} {w : World} {K : PySem.W.Frag} {mg : Str → Option Value} {base : Heap}
/-! ### neighbours -/
abbrev sNear : Stmt := top 12
def spNear : Sp := fun vs H Q _ => ∃ v c, vs = [v] ∧ TupAt H v c ∧ ∀ H' p, Same H H' → H p = none → CellsAt H' p (Ti01.near c) → Q (.ref p) H'
theorem scNear : FnScope ["place", "x", "y"] ["place"] (defScope sNear) := ⟨rfl, rfl, rfl, by decide +kernel, rfl, by decide +kernel, by decide +kernel⟩
theorem ok_near {f : Addr} {fd : FuncData} (F : Fun K "neighbours" "neighbours" sNear f fd) : FnOk P w K mg base CX0 1 f fd ["place"] spNear := by
  refine F.ok scNear (fun vs H Q E h => ?_) (fun cdv A outer s H vs Q E hr h => ?_)
  · obtain ⟨v, c, rfl, _⟩ := h
    rfl
  refine ⟨_, pss_cons (ps_set (i := 1) scNear.nd rfl (.inl rfl) (pe_ix ix_tup (pv 0) pe_int (fun _ _ => rfl)))
      (pss_cons (ps_set (i := 2) scNear.nd rfl (.inl rfl) (pe_ix ix_tup (pv 0) pe_int (fun _ _ => rfl)))
      (pss_one (ps_ret (pe_lst (pa_cons (pe_tup (pa_cons (pe_op op_add (pv 1) pe_int) (pa_cons (pv 2) pa_nil)))
        (pa_cons (pe_tup (pa_cons (pv 1) (pa_cons (pe_op op_add (pv 2) pe_int) pa_nil)))
        (pa_cons (pe_tup (pa_cons (pe_op op_sub (pv 1) pe_int) (pa_cons (pv 2) pa_nil)))
        (pa_cons (pe_tup (pa_cons (pv 1) (pa_cons (pe_op op_sub (pv 2) pe_int) pa_nil))) pa_nil)))))))), ?_⟩
  obtain ⟨v, c, rfl, ⟨b, rfl, hb⟩, k⟩ := h
  refine ⟨_, rfl, b, _, 0, _, rfl, rfl, SqT.of hb, atI_nat (j := 0) rfl, _, rfl, b, _, 1, _, rfl, rfl, SqT.of hb, atI_nat (j := 1) rfl, ?_⟩
  refine ⟨_, rfl, _, _, rfl, rfl, _, rfl, by show 2 ≤ sizeLine; decide, fun p1 n1 => ?_⟩
  refine ⟨_, rfl, _, rfl, _, _, rfl, rfl, by show 2 ≤ sizeLine; decide, fun p2 n2 => ?_⟩
  refine ⟨_, rfl, _, _, rfl, rfl, _, rfl, by show 2 ≤ sizeLine; decide, fun p3 n3 => ?_⟩
  refine ⟨_, rfl, _, rfl, _, _, rfl, rfl, by show 2 ≤ sizeLine; decide, fun p4 n4 => ?_⟩
  refine ⟨by show 4 ≤ sizeLine; decide, fun p np => ?_⟩
  have s1 := same_new (o := .tup [V.int (c.1 + 1), V.int c.2]) n1
  have s2 := same_new (o := .tup [V.int c.1, V.int (c.2 + 1)]) n2
  have s3 := same_new (o := .tup [V.int (c.1 - 1), V.int c.2]) n3
  have s4 := same_new (o := .tup [V.int c.1, V.int (c.2 - 1)]) n4
  have s5 := same_new (o := .lst [V.ref p1, V.ref p2, V.ref p3, V.ref p4]) np
  refine k _ p (s1.trans (s2.trans (s3.trans (s4.trans s5)))) ((s1.trans (s2.trans (s3.trans s4))).free np) ⟨_, upd_same, ?_⟩
  exact .cons (tup_new.same (s2.trans (s3.trans (s4.trans s5)))) (.cons (tup_new.same (s3.trans (s4.trans s5))) (.cons (tup_new.same (s4.trans s5)) (.cons (tup_new.same s5) .nil)))
end
end Oc
namespace Oc
open PySem PySem.Spec PyProof.Rows L2
def nv (w : List Nat) : List V := w.map fun (n : Nat) => V.int (n : Int)
theorem nv_len (w : List Nat) : (nv w).length = w.length := by simp [nv]
theorem nv_at {w : List Nat} {i : Nat} {x : V} (h : (nv w)[i]? = some x) : ∃ n, w[i]? = some n ∧ x = .int (n : Int) := by
  unfold nv at h
  rw [List.getElem?_map] at h
  cases e : w[i]? with
  | none => rw [e] at h; cases h
  | some n => rw [e] at h; exact ⟨n, rfl, (Option.some.inj h).symm⟩
theorem nv_append (w v : List Nat) : nv (w ++ v) = nv w ++ nv v := by simp [nv]
section
variable {P : Program} {w : World} {K : PySem.W.Frag} {mg : Str → Option Value} {base : Heap}
/-! ### gone_back -/
abbrev sBack : Stmt := top 21
def spBack : Sp := fun vs H Q _ => ∃ a l, vs = [.ref a] ∧ H a = some (.lst (nv l)) ∧ l.length ≤ 1000 ∧ ∀ H' p, Same H H' → H' p = some (.lst (nv (Ti01.back l))) → Q (.ref p) H'
theorem scBack : FnScope ["steps", "step"] ["steps"] (defScope sBack) := ⟨rfl, rfl, rfl, by decide +kernel, rfl, by decide +kernel, by decide +kernel⟩
theorem back_take {l : List Nat} {i n : Nat} (h : l[l.length - 1 - i]? = some n) (hi : i < l.length) : (Ti01.back l).take (i + 1) = (Ti01.back l).take i ++ [(n + 2) % 4] := by
  have e : (Ti01.back l)[i]? = some ((n + 2) % 4) := by
    unfold Ti01.back
    rw [List.getElem?_reverse (by simpa using hi), List.getElem?_map, List.length_map, h]
    rfl
  rw [List.take_add_one, e]
  rfl
theorem back_len (l : List Nat) : (Ti01.back l).length = l.length := by simp [Ti01.back]
theorem ok_back {f : Addr} {fd : FuncData} (F : Fun K "gone_back" "gone_back" sBack f fd) (mr : mg "reversed" = none) : FnOk P w K mg base CX0 1 f fd ["steps"] spBack := by
  refine F.ok scBack (fun vs H Q E h => ?_) (fun cdv A outer s H vs Q E hr h => ?_)
  · obtain ⟨a, l, rfl, _⟩ := h
    rfl
  refine ⟨_, pss_one (ps_ret (pe_lc (own := [("step", 1)]) (g := gName 1) (tt := tYes) rfl scBack.nd (pi_reversed (by rfl) mr (pa_cons (pv 0) pa_nil))
    (blkOk_by (N := ["steps", "step"]) (sc := defScope sBack) (by decide +kernel)) (fun _ _ _ _ _ => pg_name (i := 1) scBack.nd rfl (Or.inl rfl)) (fun _ _ _ _ _ => pts_nil)
    (fun _ _ _ _ _ => pe_op op_mod (pe_op op_add (pv 1) pe_int) pe_int))), ?_⟩
  obtain ⟨a, l, rfl, ha, hlen, k⟩ := h
  refine ⟨_, rfl, a, _, rfl, SqL.of ha, fun D hD => ?_⟩
  refine lc_it (walk_rev (K := _) (a := a) (xs := nv l)) (fun i H' => Same H H' ∧ H' D = some (.lst (nv ((Ti01.back l).take i)))) ⟨same_new hD, upd_same⟩ (fun i H' _ h => SqL.of (h.1 _ _ ha)) ?_ ?_
  · rintro i x H' _ hi ⟨s1, hd⟩ ⟨rfl, hx⟩
    rw [nv_len] at hi hx
    obtain ⟨n, hn, rfl⟩ := nv_at hx
    refine ⟨rfl, ?_⟩
    dsimp only [tYes]
    rw [if_pos rfl]
    refine ⟨_, rfl, _, _, rfl, rfl, _, _, rfl, rfl, (by show (0 : Int) < 4; decide), _, hd, ?_, Same.upd_own s1 hD, ?_⟩
    · rw [nv_len, List.length_take]
      exact size_lt (by omega)
    · rw [upd_same, back_take hn hi, nv_append]
      congr 3
  · rintro H' ⟨s1, hd⟩
    rw [nv_len, ← back_len, List.take_length] at hd
    exact k _ _ s1 hd
/-! ### gone_round_from -/
theorem cut_lo {α : Type} (f : α → V) (l : List α) (i : Nat) : cutV (l.map f) (some (i : Int)) none = (l.drop i).map f := by
  unfold cutV
  rw [HT.sIx_nat, HT.sIx_none, List.length_map, List.map_drop]
  by_cases h : i ≤ l.length
  · rw [Nat.min_eq_left h, List.take_of_length_le (by simp)]
  · rw [Nat.min_eq_right (by omega), Nat.sub_self, List.take_zero, ← List.map_drop, List.drop_eq_nil_of_le (by omega)]
    rfl
theorem cut_hi {α : Type} (f : α → V) (l : List α) (i : Nat) : cutV (l.map f) none (some (i : Int)) = (l.take i).map f := by
  unfold cutV
  rw [HT.sIx_nat, HT.sIx_none, List.length_map, List.drop_zero, Nat.sub_zero, List.map_take]
  by_cases h : i ≤ l.length
  · rw [Nat.min_eq_left h]
  · rw [Nat.min_eq_right (by omega), List.take_of_length_le (by simp), List.take_of_length_le (by simp; omega)]
theorem cut_both {α : Type} (f : α → V) (l : List α) (i j : Nat) : cutV (l.map f) (some (i : Int)) (some (j : Int)) = ((l.drop i).take (j - i)).map f := by
  unfold cutV
  rw [HT.sIx_nat, HT.sIx_nat, List.length_map, List.map_take, List.map_drop]
  by_cases h : i ≤ l.length
  · rw [Nat.min_eq_left h]
    by_cases h2 : j ≤ l.length
    · rw [Nat.min_eq_left h2]
    · rw [Nat.min_eq_right (by omega), List.take_of_length_le (by simp), List.take_of_length_le (by simp; omega)]
  · rw [List.drop_eq_nil_of_le (by simp; omega), List.drop_eq_nil_of_le (by simp; omega)]
    simp
abbrev sRound : Stmt := top 22
def spRound : Sp := fun vs H Q _ => ∃ a l i, vs = [.ref a, .int ((i : Nat) : Int)] ∧ H a = some (.lst (nv l)) ∧ l.length ≤ 1000 ∧ ∀ H' p, Same H H' → H' p = some (.lst (nv (Ti01.from_ l i))) → Q (.ref p) H'
theorem scRound : FnScope ["edge", "i"] ["edge", "i"] (defScope sRound) := ⟨rfl, rfl, rfl, by decide +kernel, rfl, by decide +kernel, by decide +kernel⟩
theorem ok_round {f : Addr} {fd : FuncData} (F : Fun K "gone_round_from" "gone_round_from" sRound f fd) : FnOk P w K mg base CX0 1 f fd ["edge", "i"] spRound := by
  refine F.ok scRound (fun vs H Q E h => ?_) (fun cdv A outer s H vs Q E hr h => ?_)
  · obtain ⟨a, l, i, rfl, _⟩ := h
    rfl
  refine ⟨_, pss_one (ps_ret (pe_op op_cat (pe_slice sl_list (pv 0) (po_some (pv 1)) po_none) (pe_slice sl_list (pv 0) po_none (po_some (pv 1))))), ?_⟩
  obtain ⟨a, l, i, rfl, ha, hlen, k⟩ := h
  refine ⟨_, rfl, _, rfl, _, rfl, a, _, rfl, SqL.of ha, fun p1 n1 => ?_⟩
  have s1 := same_new (o := .lst (cutV (nv l) (some (i : Int)) none)) n1
  refine ⟨_, rfl, _, rfl, _, rfl, a, _, rfl, SqL.of (s1 _ _ ha), fun p2 n2 => ?_⟩
  have s2 := same_new (o := .lst (cutV (nv l) none (some (i : Int)))) n2
  have e1 : cutV (nv l) (some (i : Int)) none = nv (l.drop i) := cut_lo _ l i
  have e2 : cutV (nv l) none (some (i : Int)) = nv (l.take i) := cut_hi _ l i
  refine ⟨p1, p2, _, _, rfl, rfl, s2 _ _ upd_same, upd_same, ?_, fun p np => ?_⟩
  · rw [e1, e2, nv_len, nv_len, List.length_drop, List.length_take]
    exact size_ok (by omega)
  · refine k _ p (s1.trans (s2.trans (same_new np))) ?_
    rw [upd_same, e1, e2, ← nv_append]
    rfl
/-! ### a def that is called -/
def Cal (P : Program) (w : World) (K : PySem.W.Frag) (mg : Str → Option Value) (base : Heap) (x : Str) (k : Nat) (ps : List Str) (sp : Sp) : Prop :=
  ∃ f fd, mg x = some (.ref f) ∧ PySem.W.keepIn K (.ref f) = true ∧ Binds K fd ps [] ∧ FnOk P w K mg base CX0 k f fd ps sp
/-! ### parts_of -/
theorem from_len (l : List Nat) (i : Nat) : (Ti01.from_ l i).length = l.length := by
  unfold Ti01.from_
  rw [List.length_append, List.length_drop, List.length_take]
  omega
abbrev sParts : Stmt := top 23
def spParts : Sp := fun vs H Q _ => ∃ e l i a b, vs = [.ref e, .int ((i : Nat) : Int), .int ((a : Nat) : Int), .int ((b : Nat) : Int)] ∧ H e = some (.lst (nv l)) ∧ l.length ≤ 1000 ∧
  ∀ H' p x y z, Same H H' → H' p = some (.lst [.ref x, .ref y, .ref z]) → H' x = some (.lst (nv ((Ti01.from_ l i).take a))) → H' y = some (.lst (nv (((Ti01.from_ l i).drop a).take b))) →
    H' z = some (.lst (nv (((Ti01.from_ l i).drop (a + b)).take (l.length / 2 - (a + b))))) → Q (.ref p) H'
theorem scParts : FnScope ["edge", "i", "a", "b", "steps"] ["edge", "i", "a", "b"] (defScope sParts) := ⟨rfl, rfl, rfl, by decide +kernel, rfl, by decide +kernel, by decide +kernel⟩
theorem ok_parts {f : Addr} {fd : FuncData} (F : Fun K "parts_of" "parts_of" sParts f fd) (ml : mg "len" = none) (cR : Cal P w K mg base "gone_round_from" 1 ["edge", "i"] spRound) : FnOk P w K mg base CX0 2 f fd ["edge", "i", "a", "b"] spParts := by
  obtain ⟨fR, fdR, gR, kR, bR, oR⟩ := cR
  refine F.ok scParts (fun vs H Q E h => ?_) (fun cdv A outer s H vs Q E hr h => ?_)
  · obtain ⟨e, l, i, a, b, rfl, _⟩ := h
    rfl
  refine ⟨_, pss_cons (ps_set (i := 4) scParts.nd rfl (.inl rfl) (pe_call oR hr rfl gR kR bR .nil pass0 (pa_cons (pv 0) (pa_cons (pv 1) pa_nil))))
    (pss_one (ps_ret (pe_lst (pa_cons (pe_slice sl_list (pv 4) po_none (po_some (pv 2)))
      (pa_cons (pe_slice sl_list (pv 4) (po_some (pv 2)) (po_some (pe_op op_add (pv 2) (pv 3))))
      (pa_cons (pe_slice sl_list (pv 4) (po_some (pe_op op_add (pv 2) (pv 3))) (po_some (pe_op op_fdiv (pe_callB call_len_seq (by rfl) ml PySem.boot_len (pa_cons (pv 0) pa_nil)) pe_int))) pa_nil)))))), ?_⟩
  obtain ⟨e, l, i, a, b, rfl, he, hlen, k⟩ := h
  refine ⟨_, rfl, _, rfl, e, l, i, rfl, he, hlen, fun H1 q s1 hq => ?_⟩
  have c1 : cutV (nv (Ti01.from_ l i)) none (some (a : Int)) = nv ((Ti01.from_ l i).take a) := cut_hi _ _ _
  have c2 : cutV (nv (Ti01.from_ l i)) (some (a : Int)) (some ((a : Int) + (b : Int))) = nv (((Ti01.from_ l i).drop a).take b) := by
    rw [show (a : Int) + (b : Int) = ((a + b : Nat) : Int) by omega]
    refine (cut_both _ _ _ _).trans ?_
    rw [Nat.add_sub_cancel_left]
    rfl
  have c3 : cutV (nv (Ti01.from_ l i)) (some ((a : Int) + (b : Int))) (some (((nv l).length : Int) / 2)) = nv (((Ti01.from_ l i).drop (a + b)).take (l.length / 2 - (a + b))) := by
    rw [nv_len, show (a : Int) + (b : Int) = ((a + b : Nat) : Int) by omega, show ((l.length : Nat) : Int) / 2 = ((l.length / 2 : Nat) : Int) by omega]
    exact cut_both _ _ _ _
  refine ⟨_, rfl, _, rfl, _, rfl, q, _, rfl, SqL.of hq, fun p1 n1 => ?_⟩
  have s2 := same_new (o := .lst (cutV (nv (Ti01.from_ l i)) none (some (a : Int)))) n1
  refine ⟨_, rfl, _, rfl, _, rfl, _, rfl, _, rfl, _, _, rfl, rfl, _, rfl, q, _, rfl, SqL.of (s2 _ _ hq), fun p2 n2 => ?_⟩
  have s3 := same_new (o := .lst (cutV (nv (Ti01.from_ l i)) (some (a : Int)) (some ((a : Int) + (b : Int))))) n2
  refine ⟨_, rfl, _, rfl, _, rfl, _, _, rfl, rfl, _, rfl, _, rfl, e, _, rfl, .inl (SqL.of (s3 _ _ (s2 _ _ (s1 _ _ he)))), _, _, rfl, rfl, ⟨by decide, by decide⟩, _, rfl, q, _, rfl, SqL.of (s3 _ _ (s2 _ _ hq)), fun p3 n3 => ?_⟩
  have s4 := same_new (o := .lst (cutV (nv (Ti01.from_ l i)) (some ((a : Int) + (b : Int))) (some (((nv l).length : Int) / 2)))) n3
  refine ⟨by show 3 ≤ sizeLine; decide, fun p np => ?_⟩
  have s5 := same_new (o := .lst [.ref p1, .ref p2, .ref p3]) np
  refine k _ p p1 p2 p3 (s1.trans (s2.trans (s3.trans (s4.trans s5)))) upd_same ?_ ?_ ?_
  · rw [← c1]
    exact s5 _ _ (s4 _ _ (s3 _ _ upd_same))
  · rw [← c2]
    exact s5 _ _ (s4 _ _ upd_same)
  · rw [← c3]
    exact s5 _ _ upd_same
end
end Oc
namespace Oc
open PySem PySem.Spec PyProof.Rows L2
/-! ### data of lists of numbers and of squares -/
def dInts (w : List Nat) : List PyData := w.map fun (n : Nat) => PyData.int (n : Int)
theorem dInts_dp {K : PySem.W.Frag} {H : Hp} : ∀ w : List Nat, DpAll K H (nv w) (dInts w)
  | [] => .nil
  | n :: w => .cons (.int _) (dInts_dp w)
theorem dInts_lay : ∀ w : List Nat, PyData.canLayAll0 (dInts w) = true
  | [] => by simp [dInts, PyData.canLayAll0]
  | n :: w => by
    have := dInts_lay w
    simp only [dInts, List.map_cons, PyData.canLayAll0, PyData.canLay0, Bool.true_and] at this ⊢
    exact this
theorem dInts_depth : ∀ w : List Nat, PyData.depthAll (dInts w) ≤ 1
  | [] => by simp [dInts, PyData.depthAll]
  | n :: w => by
    have := dInts_depth w
    simp only [dInts, List.map_cons, PyData.depthAll, PyData.depth] at this ⊢
    omega
theorem dInts_shaped (w : List Nat) : SeqAt.shaped (.list (dInts w)) = true := by
  unfold SeqAt.shaped
  have h1 := dInts_lay w
  have h2 := dInts_depth w
  simp only [PyData.canLay0, PyData.depth, Bool.and_eq_true, decide_eq_true_eq]
  exact ⟨h1, decide_eq_true (by omega)⟩
theorem dInts_eqv : ∀ (v w : List Nat), PyData.eqvAll (dInts v) (dInts w) = decide (v = w)
  | [], [] => by simp [dInts, PyData.eqvAll]
  | [], _ :: _ => by simp [dInts, PyData.eqvAll]
  | _ :: _, [] => by simp [dInts, PyData.eqvAll]
  | a :: v, b :: w => by
    have ih := dInts_eqv v w
    simp only [dInts, List.map_cons, PyData.eqvAll, PyData.eqv] at ih ⊢
    rw [ih]
    by_cases h : a = b <;> by_cases h2 : v = w <;> simp [h, h2]
    all_goals omega
theorem dInts_eq (v w : List Nat) : PyData.eqv (.list (dInts v)) (.list (dInts w)) = decide (v = w) := by
  simp only [PyData.eqv]
  exact dInts_eqv v w
/-- an if whose test is known -/
theorem if_true_of {c : Bool} {A B : Prop} (hc : c = true) (h : A) : if c = true then A else B := by
  rw [if_pos hc]
  exact h
theorem if_false_of {c : Bool} {A B : Prop} (hc : c = false) (h : B) : if c = true then A else B := by
  rw [hc, if_neg Bool.false_ne_true]
  exact h
/-! ### cuts: the mathematics -/
def cutB (l : List Nat) (i a b : Nat) : Bool := decide (i < l.length / 2 ∧ 1 ≤ a ∧ 1 ≤ b) && Ti01.isCut (Ti01.from_ l i) a b
theorem isCut_half (w : List Nat) (a b : Nat) (h : a + b ≤ w.length / 2) :
    Ti01.isCut w a b = decide (w.drop (w.length / 2) = Ti01.back (w.take a) ++ Ti01.back ((w.drop a).take b) ++ Ti01.back ((w.drop (a + b)).take (w.length / 2 - (a + b)))) := by
  unfold Ti01.isCut
  simp only [h, decide_true, Bool.true_and]
  have hz : ((w.drop a).drop b).take (w.length / 2 - a - b) = (w.drop (a + b)).take (w.length / 2 - (a + b)) := by
    rw [List.drop_drop, Nat.sub_sub]
  rw [hz]
  have ht : w.take a ++ ((w.drop a).take b ++ (w.drop (a + b)).take (w.length / 2 - (a + b))) = w.take (w.length / 2) := by
    have e1 : w.length / 2 = a + (b + (w.length / 2 - (a + b))) := by omega
    conv => rhs; rw [e1, List.take_add, List.take_add, List.drop_drop]
  have hsplit : w = w.take (w.length / 2) ++ w.drop (w.length / 2) := (List.take_append_drop _ _).symm
  generalize Ti01.back (w.take a) = X
  generalize Ti01.back ((w.drop a).take b) = Y
  generalize Ti01.back ((w.drop (a + b)).take (w.length / 2 - (a + b))) = Z
  have e2 : w.take a ++ ((w.drop a).take b ++ ((w.drop (a + b)).take (w.length / 2 - (a + b)) ++ (X ++ (Y ++ Z)))) = w.take (w.length / 2) ++ (X ++ Y ++ Z) := by
    rw [← ht]
    simp only [List.append_assoc]
  rw [e2]
  by_cases c : w.drop (w.length / 2) = X ++ Y ++ Z
  · rw [decide_eq_true c, ← c, List.take_append_drop]
    exact beq_self_eq_true w
  · rw [decide_eq_false c]
    apply Bool.eq_false_iff.mpr
    intro hh
    have := eq_of_beq hh
    rw [hsplit] at this
    have t2 := List.append_cancel_left (as := w.take (w.length / 2)) (bs := w.drop (w.length / 2)) (cs := X ++ Y ++ Z) (by
      have q := eq_of_beq hh
      rw [← q, List.take_append_drop])
    exact c t2
section
variable {P : Program} {w : World} {K : PySem.W.Frag} {mg : Str → Option Value} {base : Heap}
/-! ### is_cut -/
abbrev sCut : Stmt := top 24
def spCut : Sp := fun vs H Q _ => ∃ e l i a b, vs = [.ref e, .int ((i : Nat) : Int), .int ((a : Nat) : Int), .int ((b : Nat) : Int)] ∧ H e = some (.lst (nv l)) ∧ l.length ≤ 1000 ∧
  ∀ H', Same H H' → Q (.bl (cutB l i a b)) H'
theorem scCut : FnScope ["edge", "i", "a", "b", "half", "parts", "behind"] ["edge", "i", "a", "b"] (defScope sCut) := ⟨rfl, rfl, rfl, by decide +kernel, rfl, by decide +kernel, by decide +kernel⟩
theorem ok_cut {f : Addr} {fd : FuncData} (F : Fun K "is_cut" "is_cut" sCut f fd) (ml : mg "len" = none) (cR : Cal P w K mg base "gone_round_from" 1 ["edge", "i"] spRound)
    (cP : Cal P w K mg base "parts_of" 2 ["edge", "i", "a", "b"] spParts) (cB : Cal P w K mg base "gone_back" 1 ["steps"] spBack) : FnOk P w K mg base CX0 3 f fd ["edge", "i", "a", "b"] spCut := by
  obtain ⟨fR, fdR, gR, kR, bR, oR⟩ := cR
  obtain ⟨fP, fdP, gP, kP, bP, oP⟩ := cP
  obtain ⟨fB, fdB, gB, kB, bB, oB⟩ := cB
  refine F.ok scCut (fun vs H Q E h => ?_) (fun cdv A outer s H vs Q E hr h => ?_)
  · obtain ⟨e, l, i, a, b, rfl, _⟩ := h
    rfl
  have hr1 : Room 1 _ := hr.mono (by decide)
  refine ⟨_, pss_cons (ps_set (i := 4) scCut.nd rfl (.inl rfl) (pe_op op_fdiv (pe_callB call_len_seq (by rfl) ml PySem.boot_len (pa_cons (pv 0) pa_nil)) pe_int))
    (pss_cons (ps_if (PW.pt (pw_or (pt_cmpR op_ge (pv 1) (pv 4) (nomark _)) (pw_or (pt_cmpR op_lt (pv 2) pe_int (nomark _)) (pw_or (pt_cmpR op_lt (pv 3) pe_int (nomark _)) (pw_or1 (pt_cmpR op_gt (pe_op op_add (pv 2) (pv 3)) (pv 4) (nomark _)))))))
      (pss_one (ps_ret pe_bl)) pss_nil)
    (pss_cons (ps_set (i := 5) scCut.nd rfl (.inl rfl) (pe_call oP hr rfl gP kP bP .nil pass0 (pa_cons (pv 0) (pa_cons (pv 1) (pa_cons (pv 2) (pa_cons (pv 3) pa_nil))))))
    (pss_cons (ps_set (i := 6) scCut.nd rfl (.inl rfl) (pe_op op_cat (pe_op op_cat (pe_call oB hr1 rfl gB kB bB .nil pass0 (pa_cons (pe_ix ix_list (pv 5) pe_int (fun _ _ => rfl)) pa_nil))
        (pe_call oB hr1 rfl gB kB bB .nil pass0 (pa_cons (pe_ix ix_list (pv 5) pe_int (fun _ _ => rfl)) pa_nil)))
        (pe_call oB hr1 rfl gB kB bB .nil pass0 (pa_cons (pe_ix ix_list (pv 5) pe_int (fun _ _ => rfl)) pa_nil))))
    (pss_one (ps_ret (pe_cmpR (op_eqD hr.units) (pe_slice sl_list (pe_call oR hr1 rfl gR kR bR .nil pass0 (pa_cons (pv 0) (pa_cons (pv 1) pa_nil))) (po_some (pv 4)) po_none) (pv 6) (nomark _))))))), ?_⟩
  obtain ⟨e, l, i, a, b, rfl, he, hlen, k⟩ := h
  have hh : ((nv l).length : Int) / 2 = ((l.length / 2 : Nat) : Int) := by rw [nv_len]; omega
  refine ⟨_, rfl, e, _, rfl, .inl (SqL.of he), _, _, rfl, rfl, ⟨by decide, by decide⟩, ?_⟩
  have no : ∀ H', Same H H' → ¬ (i < l.length / 2 ∧ 1 ≤ a ∧ 1 ≤ b ∧ a + b ≤ l.length / 2) → Q (.bl false) H' := by
    intro H' s1 c
    have : cutB l i a b = false := by
      unfold cutB
      by_cases c2 : i < l.length / 2 ∧ 1 ≤ a ∧ 1 ≤ b
      · have c3 : ¬ a + b ≤ (Ti01.from_ l i).length / 2 := by rw [from_len]; omega
        unfold Ti01.isCut
        simp only [decide_eq_false c3, Bool.false_and, Bool.and_false]
      · rw [decide_eq_false c2, Bool.false_and]
    rw [← this]
    exact k H' s1
  refine ⟨_, rfl, _, rfl, _, _, rfl, rfl, _, rfl, ?_⟩
  by_cases c1 : i < l.length / 2
  case neg =>
    refine if_true_of (decide_eq_true (by rw [hh]; omega)) ?_
    exact if_true_of rfl (no H (Same.refl H) (by omega))
  refine if_false_of (decide_eq_false (by rw [hh]; omega)) ?_
  refine ⟨_, rfl, _, _, rfl, rfl, _, rfl, ?_⟩
  by_cases c2 : 1 ≤ a
  case neg =>
    refine if_true_of (decide_eq_true (by omega)) ?_
    exact if_true_of rfl (no H (Same.refl H) (by omega))
  refine if_false_of (decide_eq_false (by omega)) ?_
  refine ⟨_, rfl, _, _, rfl, rfl, _, rfl, ?_⟩
  by_cases c3 : 1 ≤ b
  case neg =>
    refine if_true_of (decide_eq_true (by omega)) ?_
    exact if_true_of rfl (no H (Same.refl H) (by omega))
  refine if_false_of (decide_eq_false (by omega)) ?_
  refine ⟨_, rfl, _, rfl, _, _, rfl, rfl, _, rfl, _, _, rfl, rfl, _, rfl, ?_⟩
  by_cases c4 : a + b ≤ l.length / 2
  case neg =>
    refine if_true_of (decide_eq_true (by rw [hh]; omega)) ?_
    exact no H (Same.refl H) (by omega)
  refine if_false_of (decide_eq_false (by rw [hh]; omega)) ?_
  refine ⟨_, rfl, _, rfl, _, rfl, _, rfl, e, l, i, a, b, rfl, he, hlen, fun H1 p x y z s1 hp hx hy hz => ?_⟩
  have w1 := from_len l i
  generalize ew : Ti01.from_ l i = W at hx hy hz w1
  have l1 : (W.take a).length ≤ 1000 := by rw [List.length_take]; omega
  have l2 : ((W.drop a).take b).length ≤ 1000 := by rw [List.length_take, List.length_drop]; omega
  have l3 : ((W.drop (a + b)).take (l.length / 2 - (a + b))).length ≤ 1000 := by rw [List.length_take, List.length_drop]; omega
  refine ⟨_, rfl, p, _, 0, _, rfl, rfl, SqL.of hp, atI_nat (j := 0) rfl, x, _, rfl, hx, l1, fun H2 q1 s2 h1 => ?_⟩
  refine ⟨_, rfl, p, _, 1, _, rfl, rfl, SqL.of (s2 _ _ hp), atI_nat (j := 1) rfl, y, _, rfl, s2 _ _ hy, l2, fun H3 q2 s3 h2 => ?_⟩
  refine ⟨q1, q2, _, _, rfl, rfl, s3 _ _ h1, h2, ?_, fun p4 n4 => ?_⟩
  · rw [nv_len, nv_len, back_len, back_len]
    exact size_ok (by omega)
  have s4 := same_new (o := .lst (nv (Ti01.back (W.take a)) ++ nv (Ti01.back ((W.drop a).take b)))) n4
  refine ⟨_, rfl, p, _, 2, _, rfl, rfl, SqL.of (s4 _ _ (s3 _ _ (s2 _ _ hp))), atI_nat (j := 2) rfl, z, _, rfl, s4 _ _ (s3 _ _ (s2 _ _ hz)), l3, fun H5 q3 s5 h3 => ?_⟩
  refine ⟨p4, q3, _, _, rfl, rfl, s5 _ _ upd_same, h3, ?_, fun p6 n6 => ?_⟩
  · rw [List.length_append, nv_len, nv_len, nv_len, back_len, back_len, back_len]
    exact size_ok (by omega)
  have s6 := same_new (o := .lst (nv (Ti01.back (W.take a)) ++ nv (Ti01.back ((W.drop a).take b)) ++ nv (Ti01.back ((W.drop (a + b)).take (l.length / 2 - (a + b)))))) n6
  have s16 := s1.trans (s2.trans (s3.trans (s4.trans (s5.trans s6))))
  refine ⟨_, rfl, _, rfl, e, l, i, rfl, s16 _ _ he, hlen, fun H7 q s7 hq => ?_⟩
  refine ⟨_, rfl, _, rfl, q, _, rfl, SqL.of hq, fun p8 n8 => ?_⟩
  have s8 := same_new (o := .lst (cutV (nv (Ti01.from_ l i)) (some (((nv l).length : Int) / 2)) none)) n8
  have e8 : cutV (nv (Ti01.from_ l i)) (some (((nv l).length : Int) / 2)) none = nv (W.drop (l.length / 2)) := by
    rw [hh, ew]
    exact cut_lo _ _ _
  have e6 : nv (Ti01.back (W.take a)) ++ nv (Ti01.back ((W.drop a).take b)) ++ nv (Ti01.back ((W.drop (a + b)).take (l.length / 2 - (a + b)))) =
      nv (Ti01.back (W.take a) ++ Ti01.back ((W.drop a).take b) ++ Ti01.back ((W.drop (a + b)).take (l.length / 2 - (a + b)))) := by
    rw [nv_append, nv_append]
  have h6 := s8 _ _ (s7 _ _ (show _ = _ from upd_same (H := H5) (a := p6)))
  rw [e6] at h6
  have h8 : upd H7 p8 (.lst (cutV (nv (Ti01.from_ l i)) (some (((nv l).length : Int) / 2)) none)) p8 = some (.lst (nv (W.drop (l.length / 2)))) := by
    rw [upd_same, e8]
  refine ⟨_, rfl, _, _, .lst (SqL.of h8) (dInts_dp _), .lst (SqL.of h6) (dInts_dp _), dInts_shaped _, dInts_shaped _, ?_⟩
  rw [dInts_eq]
  have ec : cutB l i a b = decide (W.drop (l.length / 2) = Ti01.back (W.take a) ++ Ti01.back ((W.drop a).take b) ++ Ti01.back ((W.drop (a + b)).take (l.length / 2 - (a + b)))) := by
    unfold cutB
    rw [ew, decide_eq_true ⟨c1, c2, c3⟩, Bool.true_and, isCut_half W a b (by rw [w1]; exact c4), w1]
  rw [← ec]
  exact k _ (s16.trans (s7.trans s8))
end
end Oc
namespace Oc
open PySem PySem.Spec PyProof.Rows L2
/-! ### a list of things in the heap -/
inductive Al {α : Type} (R : V → α → Prop) : List V → List α → Prop
  | nil : Al R [] []
  | cons {v c vs cs} : R v c → Al R vs cs → Al R (v :: vs) (c :: cs)
theorem Al.mono {α : Type} {R S : V → α → Prop} {vs : List V} {cs : List α} (h : Al R vs cs) (e : ∀ v c, R v c → S v c) : Al S vs cs := by
  induction h with
  | nil => exact .nil
  | cons h _ ih => exact .cons (e _ _ h) ih
theorem Al.length {α : Type} {R : V → α → Prop} {vs : List V} {cs : List α} (h : Al R vs cs) : vs.length = cs.length := by
  induction h with
  | nil => rfl
  | cons _ _ ih => simp [ih]
theorem Al.append {α : Type} {R : V → α → Prop} {vs ws : List V} {cs ds : List α} (h : Al R vs cs) (h2 : Al R ws ds) : Al R (vs ++ ws) (cs ++ ds) := by
  induction h with
  | nil => exact h2
  | cons h _ ih => exact .cons h ih
theorem Al.at {α : Type} {R : V → α → Prop} {vs : List V} {cs : List α} (h : Al R vs cs) : ∀ {i : Nat} {v : V}, vs[i]? = some v → ∃ c, cs[i]? = some c ∧ R v c := by
  induction h with
  | nil => intro i v h; simp at h
  | cons h _ ih =>
    intro i v hv
    cases i with
    | zero => cases hv; exact ⟨_, rfl, h⟩
    | succ i => exact ih hv
/-- a cut's three numbers in a list that is new since H0 -/
def TripAt (H0 H : Hp) (v : V) (c : Nat × Nat × Nat) : Prop := ∃ b, v = .ref b ∧ H0 b = none ∧ H b = some (.lst (nv [c.1, c.2.1, c.2.2]))
theorem TripAt.same {H0 H H' : Hp} {v : V} {c : Nat × Nat × Nat} (h : TripAt H0 H v c) (e : Same H H') : TripAt H0 H' v c := by
  obtain ⟨b, rfl, hn, hb⟩ := h
  exact ⟨b, rfl, hn, e _ _ hb⟩
theorem trips_upd {H0 H : Hp} {p : Addr} {xs ys : List V} {cs : List (Nat × Nat × Nat)} (hp : H p = some (.lst xs)) (h : Al (TripAt H0 H) xs cs) : Al (TripAt H0 (upd H p (.lst ys))) xs cs := by
  cases h with
  | nil => exact .nil
  | cons h0 h1 =>
    obtain ⟨b0, rfl, hn0, hb0⟩ := h0
    have key : ∀ v c, TripAt H0 H v c → TripAt H0 (upd H p (.lst ys)) v c := by
      rintro v c ⟨b, rfl, hn, hb⟩
      refine ⟨b, rfl, hn, ?_⟩
      rw [upd_ne]
      · exact hb
      · intro e
        rw [e, hp] at hb
        injection hb with hb
        injection hb with hb
        injection hb with hb _
        cases hb
    exact .cons (key _ _ ⟨b0, rfl, hn0, hb0⟩) (h1.mono key)
/-! ### all cuts: the mathematics -/
def in3 (l : List Nat) (i a n : Nat) : List (Nat × Nat × Nat) := ((List.range n).filter fun b => cutB l i (a + 1) (b + 1)).map fun b => (i, a + 1, b + 1)
def in2 (l : List Nat) (i n : Nat) : List (Nat × Nat × Nat) := (List.range n).flatMap fun a => in3 l i a (l.length / 2 - (a + 1))
def in1 (l : List Nat) (n : Nat) : List (Nat × Nat × Nat) := (List.range n).flatMap fun i => in2 l i (l.length / 2 - 1)
theorem in3_succ (l : List Nat) (i a n : Nat) : in3 l i a (n + 1) = in3 l i a n ++ if cutB l i (a + 1) (n + 1) = true then [(i, a + 1, n + 1)] else [] := by
  unfold in3
  rw [List.range_succ, List.filter_append, List.map_append]
  congr 1
  by_cases h : cutB l i (a + 1) (n + 1) = true
  · simp [h]
  · simp [h]
theorem in2_succ (l : List Nat) (i n : Nat) : in2 l i (n + 1) = in2 l i n ++ in3 l i n (l.length / 2 - (n + 1)) := by
  unfold in2
  rw [List.range_succ, List.flatMap_append]
  simp
theorem in1_succ (l : List Nat) (n : Nat) : in1 l (n + 1) = in1 l n ++ in2 l n (l.length / 2 - 1) := by
  unfold in1
  rw [List.range_succ, List.flatMap_append]
  simp
theorem in3_len (l : List Nat) (i a n : Nat) : (in3 l i a n).length ≤ n := by
  unfold in3
  rw [List.length_map]
  exact Nat.le_trans (List.length_filter_le _ _) (by simp)
theorem in2_len (l : List Nat) (h : l.length ≤ 100) (i : Nat) : ∀ n, (in2 l i n).length ≤ 50 * n
  | 0 => by simp [in2]
  | n + 1 => by
    rw [in2_succ, List.length_append]
    have := in2_len l h i n
    have := in3_len l i n (l.length / 2 - (n + 1))
    omega
theorem in1_len (l : List Nat) (h : l.length ≤ 100) : ∀ n, (in1 l n).length ≤ 2500 * n
  | 0 => by simp [in1]
  | n + 1 => by
    rw [in1_succ, List.length_append]
    have := in1_len l h n
    have := in2_len l h n (l.length / 2 - 1)
    omega
theorem isCut_le {w : List Nat} {a b : Nat} (h : ¬ a + b ≤ w.length / 2) : Ti01.isCut w a b = false := by
  unfold Ti01.isCut
  simp only [decide_eq_false h, Bool.false_and]
theorem filter_range_more {p : Nat → Bool} {n : Nat} : ∀ m, (∀ k, n ≤ k → p k = false) → (List.range (n + m)).filter p = (List.range n).filter p
  | 0, _ => rfl
  | m + 1, h => by
    rw [← Nat.add_assoc, List.range_succ, List.filter_append, filter_range_more m h]
    simp [h (n + m) (by omega)]
theorem cuts_in1 (l : List Nat) : Ti01.cuts l = in1 l (l.length / 2) := by
  have h3 : ∀ i a, i < l.length / 2 → a + 1 ≤ l.length / 2 → (((List.range (l.length / 2)).filter fun b => Ti01.isCut (Ti01.from_ l i) (a + 1) (b + 1)).map fun b => (i, a + 1, b + 1)) = in3 l i a (l.length / 2 - (a + 1)) := by
    intro i a hi ha
    unfold in3
    congr 1
    have e : l.length / 2 = (l.length / 2 - (a + 1)) + (a + 1) := by omega
    rw [e, filter_range_more (a + 1) (fun k hk => isCut_le (by rw [from_len]; omega))]
    rw [← e]
    apply List.filter_congr
    intro b _
    unfold cutB
    rw [decide_eq_true ⟨hi, by omega, by omega⟩, Bool.true_and]
  have h2 : ∀ i, i < l.length / 2 → ((List.range (l.length / 2)).flatMap fun a => (((List.range (l.length / 2)).filter fun b => Ti01.isCut (Ti01.from_ l i) (a + 1) (b + 1)).map fun b => (i, a + 1, b + 1))) = in2 l i (l.length / 2 - 1) := by
    intro i hi
    have e1 : in2 l i (l.length / 2) = in2 l i (l.length / 2 - 1) := by
      have e : l.length / 2 = (l.length / 2 - 1) + 1 := by omega
      conv => lhs; rw [e]
      rw [in2_succ]
      have : in3 l i (l.length / 2 - 1) (l.length / 2 - (l.length / 2 - 1 + 1)) = [] := by
        rw [← e, Nat.sub_self]
        rfl
      rw [this, List.append_nil]
    rw [← e1]
    unfold in2
    rw [List.flatMap_def, List.flatMap_def]
    congr 1
    apply List.map_congr_left
    intro a ha
    rw [List.mem_range] at ha
    exact h3 i a hi (by omega)
  unfold Ti01.cuts in1
  rw [List.flatMap_def, List.flatMap_def]
  congr 1
  apply List.map_congr_left
  intro i hi
  rw [List.mem_range] at hi
  exact h2 i hi
theorem cuts_mem (l : List Nat) (i a b : Nat) : (Ti01.cuts l).contains (i, a, b) = cutB l i a b := by
  have : (i, a, b) ∈ Ti01.cuts l ↔ cutB l i a b = true := by
    unfold Ti01.cuts cutB
    simp only [List.mem_flatMap, List.mem_range, List.mem_map, List.mem_filter, Prod.mk.injEq, Bool.and_eq_true, decide_eq_true_eq]
    constructor
    · rintro ⟨i', hi, a', ha, b', ⟨hb, hc⟩, rfl, rfl, rfl⟩
      exact ⟨⟨hi, by omega, by omega⟩, hc⟩
    · rintro ⟨⟨hi, ha, hb⟩, hc⟩
      have h4 : a + b ≤ l.length / 2 := by
        apply Classical.byContradiction
        intro h
        rw [isCut_le (by rw [from_len]; exact h)] at hc
        cases hc
      exact ⟨i, hi, a - 1, by omega, b - 1, ⟨by omega, by rw [show a - 1 + 1 = a by omega, show b - 1 + 1 = b by omega]; exact hc⟩, rfl, by omega, by omega⟩
  cases hc : cutB l i a b
  · apply Bool.eq_false_iff.mpr
    intro h
    rw [List.contains_iff_mem] at h
    rw [this.mp h] at hc
    cases hc
  · rw [List.contains_iff_mem]
    exact this.mpr hc
section
variable {P : Program} {w : World} {K : PySem.W.Frag} {mg : Str → Option Value} {base : Heap}
/-! ### cuts_of -/
abbrev sCuts : Stmt := top 25
def spCuts : Sp := fun vs H Q _ => ∃ e l, vs = [.ref e] ∧ H e = some (.lst (nv l)) ∧ l.length ≤ 100 ∧
  ∀ H' p xs, Same H H' → H' p = some (.lst xs) → Al (TripAt H H') xs (Ti01.cuts l) → Q (.ref p) H'
theorem scCuts : FnScope ["edge", "half", "cuts", "i", "a", "b"] ["edge"] (defScope sCuts) := ⟨rfl, rfl, rfl, by decide +kernel, rfl, by decide +kernel, by decide +kernel⟩
/-- between two turns -/
def CutsInv (H : Hp) (e p : Addr) (l : List Nat) (cs : List (Nat × Nat × Nat)) (H' : Hp) : Prop := Same H H' ∧ ∃ xs, H' p = some (.lst xs) ∧ Al (TripAt H H') xs cs
theorem ok_cuts {f : Addr} {fd : FuncData} (F : Fun K "cuts_of" "cuts_of" sCuts f fd) (ml : mg "len" = none) (mr : mg "range" = none)
    (cC : Cal P w K mg base "is_cut" 3 ["edge", "i", "a", "b"] spCut) : FnOk P w K mg base CX0 4 f fd ["edge"] spCuts := by
  obtain ⟨fC, fdC, gC, kC, bC, oC⟩ := cC
  refine F.ok scCuts (fun vs H Q E h => ?_) (fun cdv A outer s H vs Q E hr h => ?_)
  · obtain ⟨e, l, rfl, _⟩ := h
    rfl
  refine ⟨_, pss_cons (ps_set (i := 1) scCuts.nd rfl (.inl rfl) (pe_op op_fdiv (pe_callB call_len_seq (by rfl) ml PySem.boot_len (pa_cons (pv 0) pa_nil)) pe_int))
    (pss_cons (ps_set (i := 2) scCuts.nd rfl (.inl rfl) (pe_lst pa_nil))
    (pss_cons (ps_for PassesOwn.never rfl (pi_range1 rfl mr (pa_cons (pv 1) pa_nil)) (pg_name (i := 3) scCuts.nd rfl (Or.inl rfl))
      (pss_one (ps_for PassesOwn.never rfl (pi_range2 rfl mr (pa_cons pe_int (pa_cons (pv 1) pa_nil))) (pg_name (i := 4) scCuts.nd rfl (Or.inl rfl))
        (pss_one (ps_for PassesOwn.never rfl (pi_range2 rfl mr (pa_cons pe_int (pa_cons (pe_op op_add (pe_op op_sub (pv 1) (pv 4)) pe_int) pa_nil))) (pg_name (i := 5) scCuts.nd rfl (Or.inl rfl))
          (pss_one (ps_if (pt_val (pe_call oC hr rfl gC kC bC .nil pass0 (pa_cons (pv 0) (pa_cons (pv 3) (pa_cons (pv 4) (pa_cons (pv 5) pa_nil))))))
            (pss_one (ps_expr (pe_bm PySem.F.plainAttrs_list PySem.F.slot_list_append PySem.F.type_list_append mt_append (pv 2) (pa_cons (pe_lst (pa_cons (pv 3) (pa_cons (pv 4) (pa_cons (pv 5) pa_nil)))) pa_nil)))) pss_nil)))))))
    (pss_one (ps_ret (pv 2))))), ?_⟩
  obtain ⟨e, l, rfl, he, hlen, k⟩ := h
  have hh : ((nv l).length : Int) / 2 = ((l.length / 2 : Nat) : Int) := by rw [nv_len]; omega
  refine ⟨_, rfl, e, _, rfl, .inl (SqL.of he), _, _, rfl, rfl, ⟨by decide, by decide⟩, ?_⟩
  refine ⟨by show 0 ≤ sizeLine; decide, fun p np => ?_⟩
  refine ⟨_, rfl, _, rfl, ?_⟩
  have hn : (((nv l).length : Int) / 2).toNat = l.length / 2 := by rw [hh]; omega
  have hn1 : (((nv l).length : Int) / 2 - 1).toNat = l.length / 2 - 1 := by rw [hh]; omega
  refine ⟨by rw [hh]; omega, by rw [hh]; omega, for_range (lo := 0) (fun i σ H' => ∃ vi va vb, σ = [some (.ref e), some (.int (((nv l).length : Int) / 2)), some (.ref p), vi, va, vb] ∧ CutsInv H e p l (in1 l i) H') ?_ ?_ ?_⟩
  · exact ⟨none, none, none, rfl, same_new np, [], upd_same, .nil⟩
  · rintro i σ H1 hi ⟨vi, va, vb, rfl, v1⟩
    rw [hn] at hi
    refine ⟨_, rfl, _, _, rfl, ⟨by decide, by decide, by rw [hh]; omega, by rw [hh]; omega⟩, for_range (lo := 1) (fun a σ H' => ∃ va vb, σ = [some (.ref e), some (.int (((nv l).length : Int) / 2)), some (.ref p), some (.int (0 + (i : Int))), va, vb] ∧ CutsInv H e p l (in1 l i ++ in2 l i a) H') ?_ ?_ ?_⟩
    · refine ⟨va, vb, rfl, ?_⟩
      rw [show in2 l i 0 = [] from rfl, List.append_nil]
      exact v1
    · rintro a σ H2 ha ⟨va2, vb2, rfl, v2⟩
      rw [hn1] at ha
      have hn2 : (((nv l).length : Int) / 2 - (1 + (a : Int)) + 1 - 1).toNat = l.length / 2 - (a + 1) := by rw [hh]; omega
      refine ⟨_, rfl, _, rfl, _, _, rfl, rfl, _, _, rfl, rfl, _, _, rfl, ⟨by decide, by decide, by rw [hh]; omega, by rw [hh]; omega⟩, for_range (lo := 1) (fun b σ H' => ∃ vb, σ = [some (.ref e), some (.int (((nv l).length : Int) / 2)), some (.ref p), some (.int (0 + (i : Int))), some (.int (1 + (a : Int))), vb] ∧ CutsInv H e p l (in1 l i ++ in2 l i a ++ in3 l i a b) H') ?_ ?_ ?_⟩
      · refine ⟨vb2, rfl, ?_⟩
        rw [show in3 l i a 0 = [] from rfl, List.append_nil]
        exact v2
      · rintro b σ H3 hb ⟨vb3, rfl, s3, xs, hp3, al3⟩
        rw [hn2] at hb
        refine ⟨_, rfl, _, rfl, _, rfl, _, rfl, e, l, i, a + 1, b + 1, ?_, s3 _ _ he, by omega, fun H4 s4 => ?_⟩
        · show [V.ref e, V.int (0 + (i : Int)), V.int (1 + (a : Int)), V.int (1 + (b : Int))] = _
          rw [show (0 + (i : Int)) = ((i : Nat) : Int) by omega, show (1 + (a : Int)) = ((a + 1 : Nat) : Int) by omega, show (1 + (b : Int)) = ((b + 1 : Nat) : Int) by omega]
        · refine ⟨_, rfl, ?_⟩
          have al4 : Al (TripAt H H4) xs (in1 l i ++ in2 l i a ++ in3 l i a b) := al3.mono fun v c h => h.same s4
          cases hc : cutB l i (a + 1) (b + 1) with
          | false =>
            refine if_false_of rfl ⟨_, rfl, s3.trans s4, xs, s4 _ _ hp3, ?_⟩
            rw [in3_succ, hc, if_neg Bool.false_ne_true, List.append_nil]
            exact al4
          | true =>
            refine if_true_of rfl ?_
            refine ⟨_, rfl, .inl ⟨rfl, _, SqL.of (s4 _ _ hp3)⟩, _, rfl, _, rfl, _, rfl, by show 3 ≤ sizeLine; decide, fun q nq => ?_⟩
            have s5 := same_new (o := .lst [V.int (0 + (i : Int)), V.int (1 + (a : Int)), V.int (1 + (b : Int))]) nq
            have hp5 := s5 _ _ (s4 _ _ hp3)
            have ll := al3.length
            rw [List.length_append, List.length_append] at ll
            have l1 := in1_len l hlen i
            have l2 := in2_len l hlen i a
            have l3 := in3_len l i a b
            refine ⟨p, _, _, rfl, rfl, hp5, size_lt (by omega), ?_⟩
            refine ⟨_, rfl, Same.upd_own (s3.trans (s4.trans s5)) np, _, upd_same, ?_⟩
            rw [in3_succ, hc, if_pos rfl, ← List.append_assoc]
            refine (trips_upd hp5 (al4.mono fun v c h => h.same s5)).append (.cons ⟨q, rfl, (s3.trans s4).free nq, ?_⟩ .nil)
            rw [upd_ne (ne_of_none (s4 _ _ hp3) nq).symm, upd_same]
            show some (HO.lst [V.int (0 + (i : Int)), V.int (1 + (a : Int)), V.int (1 + (b : Int))]) = some (HO.lst [V.int ((i : Nat) : Int), V.int ((a + 1 : Nat) : Int), V.int ((b + 1 : Nat) : Int)])
            rw [show (0 + (i : Int)) = ((i : Nat) : Int) by omega, show (1 + (a : Int)) = ((a + 1 : Nat) : Int) by omega, show (1 + (b : Int)) = ((b + 1 : Nat) : Int) by omega]
      · rintro σ H3 ⟨vb3, rfl, v3⟩
        rw [hn2] at v3
        refine ⟨_, _, rfl, ?_⟩
        rw [in2_succ, ← List.append_assoc]
        exact v3
    · rintro σ H2 ⟨va2, vb2, rfl, v2⟩
      rw [hn1] at v2
      refine ⟨_, _, _, rfl, ?_⟩
      rw [in1_succ]
      exact v2
  · rintro σ H1 ⟨vi, va, vb, rfl, s1, xs, hp, al⟩
    rw [hn, ← cuts_in1] at al
    exact ⟨_, rfl, k _ _ _ s1 hp al⟩
end
end Oc
namespace Oc
open PySem PySem.Spec PyProof.Rows L2
def iv (w : List Int) : List V := w.map V.int
theorem nv_iv (w : List Nat) : nv w = iv (Ti01.ints w) := by
  unfold nv iv Ti01.ints
  rw [List.map_map]
  rfl
theorem iv_append (a b : List Int) : iv (a ++ b) = iv a ++ iv b := by simp [iv]
theorem iv_len (a : List Int) : (iv a).length = a.length := by simp [iv]
/-! ### moves: the mathematics -/
theorem gone_from : ∀ (l : List Nat) (p : Cell), (∀ d ∈ l, d < 4) → l.foldl Ti01.ahead p = (p.1 + ((l.count 0 : Int) - (l.count 2 : Int)), p.2 + ((l.count 1 : Int) - (l.count 3 : Int)))
  | [], p, _ => by simp
  | d :: l, p, h => by
    rw [List.foldl_cons, gone_from l _ (fun x hx => h x (List.mem_cons_of_mem _ hx))]
    have hd : d = 0 ∨ d = 1 ∨ d = 2 ∨ d = 3 := by
      have := h d (List.mem_cons_self ..)
      omega
    rcases hd with e | e | e | e <;> subst e <;> simp only [Ti01.ahead, List.count_cons] <;> apply Prod.ext <;> simp <;> omega
theorem gone_is (l : List Nat) (h : ∀ d ∈ l, d < 4) : Ti01.gone l = ((l.count 0 : Int) - (l.count 2 : Int), (l.count 1 : Int) - (l.count 3 : Int)) := by
  unfold Ti01.gone
  rw [gone_from l _ h]
  simp
theorem ints_count (k : Nat) : ∀ l : List Nat, (Ti01.ints l).count (k : Int) = l.count k
  | [] => rfl
  | d :: l => by
    have ih := ints_count k l
    unfold Ti01.ints at ih ⊢
    rw [List.map_cons, List.count_cons, List.count_cons, ih]
    congr 1
    by_cases h : d = k
    · simp [h]
    · have : ¬ ((d : Int) = (k : Int)) := by omega
      simp [h, this]
def aCut (l : List Nat) : List Int := match Ti01.cuts l with
  | [] => [-3]
  | c :: _ => Ti01.ints [c.1, c.2.1, c.2.2]
def aCuts (l : List Nat) : List Int := ((Ti01.cuts l).length : Int) :: Ti01.ints ((Ti01.cuts l).flatMap fun c => [c.1, c.2.1, c.2.2])
def aMoves (l : List Nat) (i a b : Nat) : List Int := if (Ti01.cuts l).contains (i, a, b) = false then [-3] else
  [(Ti01.moves l (i, a, b)).1.1, (Ti01.moves l (i, a, b)).1.2, (Ti01.moves l (i, a, b)).2.1, (Ti01.moves l (i, a, b)).2.2]
section
variable {P : Program} {w : World} {K : PySem.W.Frag} {mg : Str → Option Value} {base : Heap}
/-! ### move_along -/
abbrev sAlong : Stmt := top 26
def spAlong : Sp := fun vs H Q _ => ∃ a l, vs = [.ref a] ∧ H a = some (.lst (nv l)) ∧ (∀ d ∈ l, d < 4) ∧ ∀ H' p, Same H H' → H' p = some (.lst (iv [(Ti01.gone l).1, (Ti01.gone l).2])) → Q (.ref p) H'
theorem scAlong : FnScope ["steps"] ["steps"] (defScope sAlong) := ⟨rfl, rfl, rfl, by decide +kernel, rfl, by decide +kernel, by decide +kernel⟩
theorem ok_along {f : Addr} {fd : FuncData} (F : Fun K "move_along" "move_along" sAlong f fd) : FnOk P w K mg base CX0 1 f fd ["steps"] spAlong := by
  refine F.ok scAlong (fun vs H Q E h => ?_) (fun cdv A outer s H vs Q E hr h => ?_)
  · obtain ⟨a, l, rfl, _⟩ := h
    rfl
  refine ⟨_, pss_one (ps_ret (pe_lst (pa_cons (pe_op op_sub
      (pe_bm PySem.F.plainAttrs_list PySem.F.slot_list_count PySem.F.type_list_count mt_lcount (pv 0) (pa_cons pe_int pa_nil))
      (pe_bm PySem.F.plainAttrs_list PySem.F.slot_list_count PySem.F.type_list_count mt_lcount (pv 0) (pa_cons pe_int pa_nil)))
    (pa_cons (pe_op op_sub
      (pe_bm PySem.F.plainAttrs_list PySem.F.slot_list_count PySem.F.type_list_count mt_lcount (pv 0) (pa_cons pe_int pa_nil))
      (pe_bm PySem.F.plainAttrs_list PySem.F.slot_list_count PySem.F.type_list_count mt_lcount (pv 0) (pa_cons pe_int pa_nil))) pa_nil)))), ?_⟩
  obtain ⟨a, l, rfl, ha, h4, k⟩ := h
  have ha' : H a = some (.lst ((Ti01.ints l).map V.int)) := by rw [ha, nv_iv]; rfl
  refine ⟨_, rfl, .inl ⟨rfl, _, SqL.of ha⟩, a, _, _, rfl, rfl, SqL.of ha', ?_⟩
  refine ⟨_, rfl, .inl ⟨rfl, _, SqL.of ha⟩, a, _, _, rfl, rfl, SqL.of ha', _, _, rfl, rfl, ?_⟩
  refine ⟨_, rfl, .inl ⟨rfl, _, SqL.of ha⟩, a, _, _, rfl, rfl, SqL.of ha', ?_⟩
  refine ⟨_, rfl, .inl ⟨rfl, _, SqL.of ha⟩, a, _, _, rfl, rfl, SqL.of ha', _, _, rfl, rfl, ?_⟩
  refine ⟨by show 2 ≤ sizeLine; decide, fun p np => k _ p (same_new np) ?_⟩
  rw [upd_same, gone_is l h4]
  have e0 := ints_count 0 l
  have e1 := ints_count 1 l
  have e2 := ints_count 2 l
  have e3 := ints_count 3 l
  show some (HO.lst [V.int ((((Ti01.ints l).count 0 : Nat) : Int) - (((Ti01.ints l).count 2 : Nat) : Int)), V.int ((((Ti01.ints l).count 1 : Nat) : Int) - (((Ti01.ints l).count 3 : Nat) : Int))]) = _
  rw [show ((Ti01.ints l).count 0) = l.count 0 from e0, show ((Ti01.ints l).count 1) = l.count 1 from e1, show ((Ti01.ints l).count 2) = l.count 2 from e2, show ((Ti01.ints l).count 3) = l.count 3 from e3]
  rfl
/-! ### answer_cut -/
abbrev sACut : Stmt := top 33
def spACut : Sp := fun vs H Q _ => ∃ e l, vs = [.ref e] ∧ H e = some (.lst (nv l)) ∧ l.length ≤ 100 ∧ ∀ H' p, Same H H' → H p = none → H' p = some (.lst (iv (aCut l))) → Q (.ref p) H'
theorem scACut : FnScope ["edge", "cuts"] ["edge"] (defScope sACut) := ⟨rfl, rfl, rfl, by decide +kernel, rfl, by decide +kernel, by decide +kernel⟩
theorem ok_acut {f : Addr} {fd : FuncData} (F : Fun K "answer_cut" "answer_cut" sACut f fd) (ml : mg "len" = none) (cC : Cal P w K mg base "cuts_of" 4 ["edge"] spCuts) : FnOk P w K mg base CX0 5 f fd ["edge"] spACut := by
  obtain ⟨fC, fdC, gC, kC, bC, oC⟩ := cC
  refine F.ok scACut (fun vs H Q E h => ?_) (fun cdv A outer s H vs Q E hr h => ?_)
  · obtain ⟨e, l, rfl, _⟩ := h
    rfl
  refine ⟨_, pss_cons (ps_set (i := 1) scACut.nd rfl (.inl rfl) (pe_call oC hr rfl gC kC bC .nil pass0 (pa_cons (pv 0) pa_nil)))
    (pss_cons (ps_if (pt_cmpR op_eq (pe_callB call_len_seq (by rfl) ml PySem.boot_len (pa_cons (pv 1) pa_nil)) pe_int (nomark _)) (pss_one (ps_ret (pe_lst (pa_cons (pe_un un_neg pe_int) pa_nil)))) pss_nil)
    (pss_one (ps_ret (pe_ix ix_list (pv 1) pe_int (fun _ _ => rfl))))), ?_⟩
  obtain ⟨e, l, rfl, he, hlen, k⟩ := h
  refine ⟨_, rfl, e, l, rfl, he, hlen, fun H1 p xs s1 hp al => ?_⟩
  refine ⟨_, rfl, p, _, rfl, .inl (SqL.of hp), rfl, _, rfl, ?_⟩
  cases ec : Ti01.cuts l with
  | nil =>
    rw [ec] at al
    cases al
    refine if_true_of (by decide) ?_
    refine ⟨_, rfl, by show 1 ≤ sizeLine; decide, fun q nq => k _ q (s1.trans (same_new nq)) (s1.free nq) ?_⟩
    rw [upd_same]
    unfold aCut
    rw [ec]
    rfl
  | cons c cs =>
    rw [ec] at al
    cases al with
    | cons h0 h1 =>
      obtain ⟨b, rfl, hn, hb⟩ := h0
      refine if_false_of (decide_eq_false ?_) ?_
      · rw [List.length_cons]
        intro z
        injection z with z
        omega
      refine ⟨_, rfl, p, _, 0, _, rfl, rfl, SqL.of hp, atI_nat (j := 0) rfl, k _ b s1 hn ?_⟩
      rw [hb, nv_iv]
      unfold aCut
      rw [ec]
end
end Oc
namespace Oc
open PySem PySem.Spec PyProof.Rows L2
theorem cuts_few (l : List Nat) (h : l.length ≤ 100) : (Ti01.cuts l).length ≤ 125000 := by
  rw [cuts_in1]
  have := in1_len l h (l.length / 2)
  omega
theorem flat_take {α β : Type} (f : α → List β) {l : List α} {i : Nat} {x : α} (h : l[i]? = some x) : (l.take (i + 1)).flatMap f = (l.take i).flatMap f ++ f x := by
  rw [List.take_add_one, h, List.flatMap_append]
  simp
theorem flat3_len (l : List (Nat × Nat × Nat)) : (l.flatMap fun c => [c.1, c.2.1, c.2.2]).length = 3 * l.length := by
  induction l with
  | nil => rfl
  | cons c l ih =>
    rw [List.flatMap_cons, List.length_append, ih]
    simp
    omega
def aAll (cs : List (Nat × Nat × Nat)) : List Int := (cs.length : Int) :: Ti01.ints (cs.flatMap fun c => [c.1, c.2.1, c.2.2])
theorem from_mem {l : List Nat} {i d : Nat} (h : d ∈ Ti01.from_ l i) : d ∈ l := by
  unfold Ti01.from_ at h
  rcases List.mem_append.mp h with h | h
  · exact List.mem_of_mem_drop h
  · exact List.mem_of_mem_take h
theorem cutB_half {l : List Nat} {i a b : Nat} (hc : cutB l i a b = true) : a + b ≤ l.length / 2 := by
  apply Classical.byContradiction
  intro h
  unfold cutB at hc
  rw [isCut_le (by rw [from_len]; exact h), Bool.and_false] at hc
  cases hc
section
variable {P : Program} {w : World} {K : PySem.W.Frag} {mg : Str → Option Value} {base : Heap}
/-! ### counted -/
abbrev sCnt : Stmt := top 34
def spCnt : Sp := fun vs H Q _ => ∃ p xs cs H0, vs = [.ref p] ∧ H p = some (.lst xs) ∧ Al (TripAt H0 H) xs cs ∧ cs.length ≤ 125000 ∧ ∀ H' q, Same H H' → H q = none → H' q = some (.lst (iv (aAll cs))) → Q (.ref q) H'
theorem scCnt : FnScope ["rows", "answer", "row"] ["rows"] (defScope sCnt) := ⟨rfl, rfl, rfl, by decide +kernel, rfl, by decide +kernel, by decide +kernel⟩
theorem ok_cnt {f : Addr} {fd : FuncData} (F : Fun K "counted" "counted" sCnt f fd) (ml : mg "len" = none) : FnOk P w K mg base CX0 1 f fd ["rows"] spCnt := by
  refine F.ok scCnt (fun vs H Q E h => ?_) (fun cdv A outer s H vs Q E hr h => ?_)
  · obtain ⟨p, xs, cs, H0, rfl, _⟩ := h
    rfl
  refine ⟨_, pss_cons (ps_set (i := 1) scCnt.nd rfl (.inl rfl) (pe_lst (pa_cons (pe_callB call_len_seq (by rfl) ml PySem.boot_len (pa_cons (pv 0) pa_nil)) pa_nil)))
    (pss_cons (ps_for PassesOwn.never rfl (pi_list (pv 0)) (pg_name (i := 2) scCnt.nd rfl (Or.inl rfl))
      (pss_one (ps_expr (pe_bm PySem.F.plainAttrs_list PySem.F.slot_list_extend PySem.F.type_list_extend mt_extend (pv 1) (pa_cons (pv 2) pa_nil)))))
    (pss_one (ps_ret (pv 1)))), ?_⟩
  obtain ⟨p, xs, cs, H0, rfl, hp, al, few, k⟩ := h
  refine ⟨_, rfl, p, _, rfl, .inl (SqL.of hp), by show 1 ≤ sizeLine; decide, fun q nq => ?_⟩
  have lx := al.length
  have s2 := same_new (o := .lst [V.int (xs.length : Int)]) nq
  refine ⟨_, rfl, p, rfl, ⟨_, SqL.of (s2 _ _ hp)⟩, for_list (K := _) (a := p) (xs := xs) (fun i σ H' => ∃ v, σ = [some (.ref p), some (.ref q), v] ∧ Same H H' ∧ H' q = some (.lst (iv ((cs.length : Int) :: Ti01.ints ((cs.take i).flatMap fun c => [c.1, c.2.1, c.2.2]))))) ?_ (fun i σ H' _ ⟨_, _, s3, _⟩ => SqL.of (s3 _ _ hp)) ?_ ?_⟩
  · refine ⟨none, rfl, s2, ?_⟩
    rw [upd_same, lx]
    rfl
  · rintro i y σ H' hy ⟨v, rfl, s3, hq⟩
    obtain ⟨c, hc, b, rfl, _, hb⟩ := al.at hy
    refine ⟨_, rfl, .inl ⟨rfl, _, SqL.of hq⟩, _, rfl, q, b, _, _, rfl, rfl, hq, s3 _ _ hb, ?_, ?_⟩
    · rw [iv_len, nv_len, List.length_cons]
      unfold Ti01.ints
      rw [List.length_map, flat3_len, List.length_take]
      exact size_ok (by show _ + 1 + 3 ≤ 1000000; omega)
    · refine ⟨_, rfl, Same.upd_own s3 nq, ?_⟩
      rw [upd_same, flat_take _ hc, nv_iv, ← iv_append]
      unfold Ti01.ints
      rw [List.map_append]
      rfl
  · rintro σ H' ⟨v, rfl, s3, hq⟩
    rw [lx, List.take_length] at hq
    exact ⟨_, rfl, k _ _ s3 nq hq⟩
/-! ### moves_of -/
abbrev sMv : Stmt := top 27
def spMv : Sp := fun vs H Q _ => ∃ e l i a b, vs = [.ref e, .int ((i : Nat) : Int), .int ((a : Nat) : Int), .int ((b : Nat) : Int)] ∧ H e = some (.lst (nv l)) ∧ l.length ≤ 100 ∧ (∀ d ∈ l, d < 4) ∧ a + b ≤ l.length / 2 ∧
  ∀ H' p x y, Same H H' → H' p = some (.lst [.ref x, .ref y]) → H' x = some (.lst (iv [(Ti01.moves l (i, a, b)).1.1, (Ti01.moves l (i, a, b)).1.2])) → H' y = some (.lst (iv [(Ti01.moves l (i, a, b)).2.1, (Ti01.moves l (i, a, b)).2.2])) → Q (.ref p) H'
theorem scMv : FnScope ["edge", "i", "a", "b", "parts"] ["edge", "i", "a", "b"] (defScope sMv) := ⟨rfl, rfl, rfl, by decide +kernel, rfl, by decide +kernel, by decide +kernel⟩
theorem ok_mv {f : Addr} {fd : FuncData} (F : Fun K "moves_of" "moves_of" sMv f fd)
    (cP : Cal P w K mg base "parts_of" 2 ["edge", "i", "a", "b"] spParts) (cA : Cal P w K mg base "move_along" 1 ["steps"] spAlong) : FnOk P w K mg base CX0 3 f fd ["edge", "i", "a", "b"] spMv := by
  obtain ⟨fP, fdP, gP, kP, bP, oP⟩ := cP
  obtain ⟨fA, fdA, gA, kA, bA, oA⟩ := cA
  refine F.ok scMv (fun vs H Q E h => ?_) (fun cdv A outer s H vs Q E hr h => ?_)
  · obtain ⟨e, l, i, a, b, rfl, _⟩ := h
    rfl
  have hr1 : Room 1 _ := hr.mono (by decide)
  refine ⟨_, pss_cons (ps_set (i := 4) scMv.nd rfl (.inl rfl) (pe_call oP hr rfl gP kP bP .nil pass0 (pa_cons (pv 0) (pa_cons (pv 1) (pa_cons (pv 2) (pa_cons (pv 3) pa_nil))))))
    (pss_one (ps_ret (pe_lst (pa_cons
      (pe_call oA hr1 rfl gA kA bA .nil pass0 (pa_cons (pe_op op_cat (pe_ix ix_list (pv 4) pe_int (fun _ _ => rfl)) (pe_ix ix_list (pv 4) pe_int (fun _ _ => rfl))) pa_nil))
      (pa_cons (pe_call oA hr1 rfl gA kA bA .nil pass0 (pa_cons (pe_op op_cat (pe_ix ix_list (pv 4) pe_int (fun _ _ => rfl)) (pe_ix ix_list (pv 4) pe_int (fun _ _ => rfl))) pa_nil)) pa_nil))))), ?_⟩
  obtain ⟨e, l, i, a, b, rfl, he, hlen, h4, hab, k⟩ := h
  refine ⟨_, rfl, _, rfl, _, rfl, _, rfl, e, l, i, a, b, rfl, he, by omega, fun H2 p x y z s2 hp hx hy hz => ?_⟩
  have w1 := from_len l i
  have wm : ∀ d ∈ Ti01.from_ l i, d < 4 := fun d hd => h4 d (from_mem hd)
  have em1 : Ti01.gone ((Ti01.from_ l i).take a ++ ((Ti01.from_ l i).drop a).take b) = (Ti01.moves l (i, a, b)).1 := by
    have t1 : (Ti01.from_ l i).take a ++ ((Ti01.from_ l i).drop a).take b = (Ti01.from_ l i).take (a + b) := (List.take_add ..).symm
    rw [t1]
    rfl
  have em2 : Ti01.gone (((Ti01.from_ l i).drop a).take b ++ ((Ti01.from_ l i).drop (a + b)).take (l.length / 2 - (a + b))) = (Ti01.moves l (i, a, b)).2 := by
    have t2 : ((Ti01.from_ l i).drop a).take b ++ ((Ti01.from_ l i).drop (a + b)).take (l.length / 2 - (a + b)) = ((Ti01.from_ l i).drop a).take (l.length / 2 - a) := by
      rw [← List.drop_drop, ← List.take_add]
      congr 1
      omega
    rw [t2]
    rfl
  generalize Ti01.moves l (i, a, b) = mm at em1 em2 k
  generalize Ti01.from_ l i = W at hx hy hz w1 wm em1 em2
  refine ⟨_, rfl, p, _, 0, _, rfl, rfl, SqL.of hp, atI_nat (j := 0) rfl, _, rfl, p, _, 1, _, rfl, rfl, SqL.of hp, atI_nat (j := 1) rfl, x, y, _, _, rfl, rfl, hx, hy, ?_, fun p3 n3 => ?_⟩
  · rw [nv_len, nv_len, List.length_take, List.length_take, List.length_drop]
    exact size_ok (by omega)
  have s3 := same_new (o := .lst (nv (W.take a) ++ nv ((W.drop a).take b))) n3
  refine ⟨p3, _, rfl, by rw [upd_same, ← nv_append], ?_, fun H4 q4 s4 h4' => ?_⟩
  · intro d hd
    rcases List.mem_append.mp hd with hd | hd
    · exact wm d (List.mem_of_mem_take hd)
    · exact wm d (List.mem_of_mem_drop (List.mem_of_mem_take hd))
  have s24 := s3.trans s4
  refine ⟨_, rfl, p, _, 1, _, rfl, rfl, SqL.of (s24 _ _ hp), atI_nat (j := 1) rfl, _, rfl, p, _, 2, _, rfl, rfl, SqL.of (s24 _ _ hp), atI_nat (j := 2) rfl, y, z, _, _, rfl, rfl, s24 _ _ hy, s24 _ _ hz, ?_, fun p5 n5 => ?_⟩
  · rw [nv_len, nv_len, List.length_take, List.length_take, List.length_drop, List.length_drop]
    exact size_ok (by omega)
  have s5 := same_new (o := .lst (nv ((W.drop a).take b) ++ nv ((W.drop (a + b)).take (l.length / 2 - (a + b))))) n5
  refine ⟨p5, _, rfl, by rw [upd_same, ← nv_append], ?_, fun H6 q6 s6 h6 => ?_⟩
  · intro d hd
    rcases List.mem_append.mp hd with hd | hd
    · exact wm d (List.mem_of_mem_drop (List.mem_of_mem_take hd))
    · exact wm d (List.mem_of_mem_drop (List.mem_of_mem_take hd))
  refine ⟨by show 2 ≤ sizeLine; decide, fun p7 n7 => ?_⟩
  have s7 := same_new (o := .lst [V.ref q4, V.ref q6]) n7
  rw [em1] at h4'
  rw [em2] at h6
  exact k _ p7 q4 q6 (s2.trans (s24.trans (s5.trans (s6.trans s7)))) upd_same (s7 _ _ (s6 _ _ (s5 _ _ h4'))) (s7 _ _ h6)
/-! ### answer_moves -/
abbrev sAMoves : Stmt := top 35
def spAMoves : Sp := fun vs H Q _ => ∃ e l i a b, vs = [.ref e, .int ((i : Nat) : Int), .int ((a : Nat) : Int), .int ((b : Nat) : Int)] ∧ H e = some (.lst (nv l)) ∧ l.length ≤ 100 ∧ (∀ d ∈ l, d < 4) ∧
  ∀ H' p, Same H H' → H p = none → H' p = some (.lst (iv (aMoves l i a b))) → Q (.ref p) H'
theorem scAMoves : FnScope ["edge", "i", "a", "b", "moves"] ["edge", "i", "a", "b"] (defScope sAMoves) := ⟨rfl, rfl, rfl, by decide +kernel, rfl, by decide +kernel, by decide +kernel⟩
theorem ok_amoves {f : Addr} {fd : FuncData} (F : Fun K "answer_moves" "answer_moves" sAMoves f fd) (cC : Cal P w K mg base "is_cut" 3 ["edge", "i", "a", "b"] spCut)
    (cM : Cal P w K mg base "moves_of" 3 ["edge", "i", "a", "b"] spMv) : FnOk P w K mg base CX0 4 f fd ["edge", "i", "a", "b"] spAMoves := by
  obtain ⟨fC, fdC, gC, kC, bC, oC⟩ := cC
  obtain ⟨fM, fdM, gM, kM, bM, oM⟩ := cM
  refine F.ok scAMoves (fun vs H Q E h => ?_) (fun cdv A outer s H vs Q E hr h => ?_)
  · obtain ⟨e, l, i, a, b, rfl, _⟩ := h
    rfl
  refine ⟨_, pss_cons (ps_if (pt_not (pt_val (pe_call oC hr rfl gC kC bC .nil pass0 (pa_cons (pv 0) (pa_cons (pv 1) (pa_cons (pv 2) (pa_cons (pv 3) pa_nil))))))) (pss_one (ps_ret (pe_lst (pa_cons (pe_un un_neg pe_int) pa_nil)))) pss_nil)
    (pss_cons (ps_set (i := 4) scAMoves.nd rfl (.inl rfl) (pe_call oM hr rfl gM kM bM .nil pass0 (pa_cons (pv 0) (pa_cons (pv 1) (pa_cons (pv 2) (pa_cons (pv 3) pa_nil))))))
    (pss_one (ps_ret (pe_op op_cat (pe_ix ix_list (pv 4) pe_int (fun _ _ => rfl)) (pe_ix ix_list (pv 4) pe_int (fun _ _ => rfl)))))), ?_⟩
  obtain ⟨e, l, i, a, b, rfl, he, hlen, h4, k⟩ := h
  refine ⟨_, rfl, _, rfl, _, rfl, _, rfl, e, l, i, a, b, rfl, he, by omega, fun H1 s1 => ⟨_, rfl, ?_⟩⟩
  have em := cuts_mem l i a b
  cases hc : cutB l i a b with
  | false =>
    refine if_true_of rfl ?_
    refine ⟨_, rfl, by show 1 ≤ sizeLine; decide, fun q nq => k _ q (s1.trans (same_new nq)) (s1.free nq) ?_⟩
    rw [upd_same]
    unfold aMoves
    rw [em, hc, if_pos rfl]
    rfl
  | true =>
    refine if_false_of rfl ?_
    refine ⟨_, rfl, _, rfl, _, rfl, _, rfl, e, l, i, a, b, rfl, s1 _ _ he, hlen, h4, cutB_half hc, fun H2 p x y s2 hp hx hy => ?_⟩
    refine ⟨_, rfl, p, _, 0, _, rfl, rfl, SqL.of hp, atI_nat (j := 0) rfl, _, rfl, p, _, 1, _, rfl, rfl, SqL.of hp, atI_nat (j := 1) rfl, x, y, _, _, rfl, rfl, hx, hy, by show 4 ≤ sizeLine; decide, fun p7 n7 => ?_⟩
    refine k _ p7 (s1.trans (s2.trans (same_new n7))) ((s1.trans s2).free n7) ?_
    rw [upd_same]
    unfold aMoves
    rw [em, hc, if_neg (by decide)]
    rfl
end
end Oc
namespace Oc
open PySem PySem.Spec PyProof.Rows L2
/-! ### squares told as numbers -/
def pairsOf : List Int → List Cell
  | x :: y :: l => (x, y) :: pairsOf l
  | _ => []
theorem pairsOf_len : ∀ (m : Nat) (l : List Int), l.length = 2 * m → (pairsOf l).length = m
  | 0, l, h => by
    have : l = [] := List.length_eq_zero_iff.mp (by omega)
    subst this
    rfl
  | m + 1, [], h => by simp at h
  | m + 1, [x], h => by simp at h; omega
  | m + 1, x :: y :: l, h => by
    simp only [pairsOf, List.length_cons] at h ⊢
    rw [pairsOf_len m l (by omega)]
theorem pairsOf_at : ∀ (i : Nat) (l : List Int) (x y : Int), l[2 * i]? = some x → l[2 * i + 1]? = some y → (pairsOf l)[i]? = some (x, y)
  | 0, [], x, y, h, _ => by simp at h
  | 0, [_], x, y, _, h => by simp at h
  | 0, a :: b :: l, x, y, h1, h2 => by
    simp at h1 h2
    simp [pairsOf, h1, h2]
  | i + 1, [], x, y, h, _ => by simp at h
  | i + 1, [_], x, y, _, h => by simp at h
  | i + 1, a :: b :: l, x, y, h1, h2 => by
    have e1 : 2 * (i + 1) = 2 * i + 2 := by omega
    rw [e1] at h1 h2
    simp only [pairsOf, List.getElem?_cons_succ] at h1 h2 ⊢
    exact pairsOf_at i l x y h1 h2
section
variable {P : Program} {w : World} {K : PySem.W.Frag} {mg : Str → Option Value} {base : Heap}
/-! ### squares_of -/
abbrev sSq : Stmt := top 15
def spSq : Sp := fun vs H Q _ => ∃ a ns m, vs = [.ref a] ∧ H a = some (.lst (iv ns)) ∧ ns.length = 2 * m ∧ m ≤ 1000 ∧ ∀ H' p, Same H H' → CellsAt H' p (pairsOf ns) → Q (.ref p) H'
theorem scSq : FnScope ["numbers", "k"] ["numbers"] (defScope sSq) := ⟨rfl, rfl, rfl, by decide +kernel, rfl, by decide +kernel, by decide +kernel⟩
theorem small_two {a b c : Int} (ha : a = 0) (hc : c = 2) (hb0 : 0 ≤ b) (hb : b ≤ 100000) : Builtin.Range.small a b c = true := by
  have e : Builtin.Range.rangeSize a b c = (b + c - 1) / c := by
    rw [ha]
    exact PyProof.Rows.rangeSize_pos (by omega) hb0
  unfold Builtin.Range.small
  rw [e]
  simp only [Builtin.Range.rangeFitsLong, Bool.and_eq_true, Bool.or_eq_true, decide_eq_true_eq, beq_iff_eq]
  have h2 : (b + c - 1) / c ≤ b + 1 := by rw [hc]; omega
  have h3 : 0 ≤ (b + c - 1) / c := by rw [hc]; omega
  generalize (b + c - 1) / c = q at h2 h3
  refine ⟨by omega, .inr ?_⟩
  rw [if_pos (by omega), Bool.and_eq_true, decide_eq_true_eq, decide_eq_true_eq]
  omega
theorem rg2 (m : Nat) (h : m ≤ 1000) : RgC 0 ((2 * m : Nat) : Int) 2 m := by
  refine ⟨by decide, by decide, small_two rfl rfl (by omega) (by omega), ?_⟩
  rw [PyProof.Rows.rangeSize_pos (by decide) (by omega)]
  omega
theorem CellsV.upd {H : Hp} {D : Addr} {xs ys vs : List V} {cs : List Cell} (h : CellsV H vs cs) (hd : H D = some (.lst xs)) : CellsV (L2.upd H D (.lst ys)) vs cs := by
  induction h with
  | nil => exact .nil
  | cons h _ ih =>
    obtain ⟨b, rfl, hb⟩ := h
    refine .cons ⟨b, rfl, ?_⟩ ih
    rw [upd_ne (ne_of hb hd (by intro z; cases z))]
    exact hb
theorem TupAt.upd {H : Hp} {D : Addr} {xs ys : List V} {v : V} {c : Cell} (h : TupAt H v c) (hd : H D = some (.lst xs)) : TupAt (L2.upd H D (.lst ys)) v c := by
  obtain ⟨b, rfl, hb⟩ := h
  refine ⟨b, rfl, ?_⟩
  rw [upd_ne (ne_of hb hd (by intro z; cases z))]
  exact hb
theorem ok_sq {f : Addr} {fd : FuncData} (F : Fun K "squares_of" "squares_of" sSq f fd) (ml : mg "len" = none) (mr : mg "range" = none) : FnOk P w K mg base CX0 1 f fd ["numbers"] spSq := by
  refine F.ok scSq (fun vs H Q E h => ?_) (fun cdv A outer s H vs Q E hr h => ?_)
  · obtain ⟨a, ns, m, rfl, _⟩ := h
    rfl
  refine ⟨_, pss_one (ps_ret (pe_lc (own := [("k", 1)]) (g := gName 1) (tt := tYes) (te := tTup (tCons (tOp (rIxL K) (tVar 0) (tVar 1)) (tCons (tOp (rIxL K) (tVar 0) (tOp (rI0 fun i j => .int (i + j)) (tVar 1) (tC (.int 1)))) tNil))) rfl scSq.nd
    (pi_range3 rfl mr (pa_cons pe_int (pa_cons (pe_callB call_len_seq (by rfl) ml PySem.boot_len (pa_cons (pv 0) pa_nil)) (pa_cons pe_int pa_nil))))
    (blkOk_by (N := ["numbers", "k"]) (sc := defScope sSq) (by decide +kernel)) (fun _ _ _ _ _ => pg_name (i := 1) scSq.nd rfl (Or.inl rfl)) (fun _ _ _ _ _ => pts_nil)
    (fun _ _ _ _ _ => pe_tup (pa_cons (pe_ix ix_list (pv 0) (pv 1) (fun _ _ => rfl)) (pa_cons (pe_ix ix_list (pv 0) (pe_op op_add (pv 1) pe_int) (fun _ _ => rfl)) pa_nil))))), ?_⟩
  obtain ⟨a, ns, m, rfl, ha, hm, hm2, k⟩ := h
  refine ⟨_, rfl, a, _, rfl, .inl (SqL.of ha), _, _, _, m, rfl, ?_, fun D hD => ?_⟩
  · rw [iv_len, hm]
    exact rg2 m hm2
  refine lc_it (walk_rangeC) (fun i H' => Same H H' ∧ ∃ xs, H' D = some (.lst xs) ∧ CellsV H' xs ((pairsOf ns).take i)) ⟨same_new hD, [], upd_same, .nil⟩ (fun i H' _ h => trivial) ?_ ?_
  · rintro i x H' H'' hi ⟨s1, xs, hd, cv⟩ ⟨rfl, hx⟩
    subst hx
    refine ⟨rfl, ?_⟩
    dsimp only [tYes]
    rw [if_pos rfl]
    have a1 : 2 * i < ns.length := by omega
    have a2 : 2 * i + 1 < ns.length := by omega
    have g1 : ns[2 * i]? = some ns[2 * i] := List.getElem?_eq_getElem a1
    have g2 : ns[2 * i + 1]? = some ns[2 * i + 1] := List.getElem?_eq_getElem a2
    have v1 : atI (iv ns) (0 + (i : Int) * 2) = some (.int ns[2 * i]) := by
      rw [show (0 + (i : Int) * 2) = ((2 * i : Nat) : Int) by omega]
      refine atI_nat ?_
      unfold iv
      rw [List.getElem?_map, g1]
      rfl
    have v2 : atI (iv ns) (0 + (i : Int) * 2 + 1) = some (.int ns[2 * i + 1]) := by
      rw [show (0 + (i : Int) * 2 + 1) = ((2 * i + 1 : Nat) : Int) by omega]
      refine atI_nat ?_
      unfold iv
      rw [List.getElem?_map, g2]
      rfl
    have hpa := pairsOf_at i ns _ _ g1 g2
    refine ⟨_, rfl, _, rfl, a, _, _, _, rfl, rfl, SqL.of (s1 _ _ ha), v1, _, rfl, _, rfl, _, _, rfl, rfl, a, _, _, _, rfl, rfl, SqL.of (s1 _ _ ha), v2, by show 2 ≤ sizeLine; decide, fun q nq => ?_⟩
    have s2 := same_new (o := .tup [V.int ns[2 * i], V.int ns[2 * i + 1]]) nq
    have ll := cv.length
    rw [List.length_take] at ll
    refine ⟨_, s2 _ _ hd, size_lt (by omega), Same.upd_own (s1.trans s2) hD, _, upd_same, ?_⟩
    rw [List.take_add_one, hpa]
    exact ((cv.same s2).upd (s2 _ _ hd)).append (.cons (tup_new.upd (s2 _ _ hd)) .nil)
  · rintro H' ⟨s1, xs, hd, cv⟩
    have e := pairsOf_len m ns hm
    rw [← e, List.take_length] at cv
    exact k _ _ s1 ⟨xs, hd, cv⟩
end
end Oc
namespace Oc
open PySem PySem.Spec PyProof.Rows L2
/-! ### squares as data -/
def dCell (c : Cell) : PyData := .tuple [.int c.1, .int c.2]
theorem TupAt.dp {K : PySem.W.Frag} {H : Hp} {v : V} {c : Cell} (h : TupAt H v c) : Dp K H v (dCell c) := by
  obtain ⟨b, rfl, hb⟩ := h
  exact .tup (SqT.of hb) (.cons (.int _) (.cons (.int _) .nil))
theorem CellsV.dp {K : PySem.W.Frag} {H : Hp} {vs : List V} {cs : List Cell} (h : CellsV H vs cs) : DpAll K H vs (cs.map dCell) := by
  induction h with
  | nil => exact .nil
  | cons h _ ih => exact .cons h.dp ih
theorem dCell_lay (c : Cell) : (dCell c).canLay0 = true := by simp [dCell, PyData.canLay0, PyData.canLayAll0]
theorem dCell_depth (c : Cell) : (dCell c).depth = 1 := by simp [dCell, PyData.depth, PyData.depthAll]
theorem dCell_shaped (c : Cell) : SeqAt.shaped (dCell c) = true := by
  unfold SeqAt.shaped
  rw [dCell_lay, dCell_depth]
  rfl
theorem dCells_lay : ∀ cs : List Cell, PyData.canLayAll0 (cs.map dCell) = true
  | [] => by simp [PyData.canLayAll0]
  | c :: cs => by simp [PyData.canLayAll0, dCell_lay c, dCells_lay cs]
theorem dCells_depth : ∀ cs : List Cell, PyData.depthAll (cs.map dCell) ≤ 1
  | [] => by simp [PyData.depthAll]
  | c :: cs => by
    have := dCells_depth cs
    simp only [List.map_cons, PyData.depthAll, dCell_depth]
    omega
theorem dCells_shaped (cs : List Cell) : SeqAt.shaped (.list (cs.map dCell)) = true := by
  unfold SeqAt.shaped
  have h1 := dCells_lay cs
  have h2 := dCells_depth cs
  simp only [PyData.canLay0, PyData.depth, Bool.and_eq_true]
  exact ⟨h1, decide_eq_true (by omega)⟩
theorem dCell_eqv (a c : Cell) : PyData.eqv (dCell a) (dCell c) = (a == c) := by
  have e : PyData.eqv (dCell a) (dCell c) = ((a.1 == c.1) && ((a.2 == c.2) && true)) := by simp only [dCell, PyData.eqv, PyData.eqvAll]
  rw [e, Bool.and_true]
  rfl
theorem dCells_in (cs : List Cell) (c : Cell) : ((cs.map dCell).any fun z => PyData.eqv z (dCell c)) = cs.contains c := by
  induction cs with
  | nil => rfl
  | cons a cs ih =>
    rw [List.map_cons, List.any_cons, ih, dCell_eqv, List.contains_cons]
    congr 1
    exact Bool.eq_iff_iff.mpr (by rw [beq_iff_eq, beq_iff_eq]; exact eq_comm)
theorem hu65 {k : Nat} {A : Around} (r : Room k A) : A.units + 65 < cLine := by
  have := r.un
  omega
/-! ### the board -/
def bd2 (x n : Nat) : List Cell := (List.range n).map fun (y : Nat) => (((x : Int) - 1, (y : Int) - 1) : Cell)
def bd1 (n : Nat) : List Cell := (List.range n).flatMap fun x => bd2 x 14
theorem bd2_succ (x n : Nat) : bd2 x (n + 1) = bd2 x n ++ [((x : Int) - 1, (n : Int) - 1)] := by
  unfold bd2
  rw [List.range_succ, List.map_append]
  rfl
theorem bd1_succ (n : Nat) : bd1 (n + 1) = bd1 n ++ bd2 n 14 := by
  unfold bd1
  rw [List.range_succ, List.flatMap_append]
  simp
theorem bd2_len (x n : Nat) : (bd2 x n).length = n := by simp [bd2]
theorem bd1_len : ∀ n, (bd1 n).length = 14 * n
  | 0 => rfl
  | n + 1 => by
    rw [bd1_succ, List.length_append, bd1_len n, bd2_len]
    omega
section
variable {P : Program} {w : World} {K : PySem.W.Frag} {mg : Str → Option Value} {base : Heap}
/-! ### corners -/
abbrev sCor : Stmt := top 18
def corn (c : Cell) : List Cell := [(c.1 + 1, c.2), (c.1 + 1, c.2 + 1), (c.1, c.2 + 1), (c.1, c.2)]
def spCor : Sp := fun vs H Q _ => ∃ v c, vs = [v] ∧ TupAt H v c ∧ ∀ H' p, Same H H' → CellsAt H' p (corn c) → Q (.ref p) H'
theorem scCor : FnScope ["square", "x", "y"] ["square"] (defScope sCor) := ⟨rfl, rfl, rfl, by decide +kernel, rfl, by decide +kernel, by decide +kernel⟩
theorem ok_cor {f : Addr} {fd : FuncData} (F : Fun K "corners" "corners" sCor f fd) : FnOk P w K mg base CX0 1 f fd ["square"] spCor := by
  refine F.ok scCor (fun vs H Q E h => ?_) (fun cdv A outer s H vs Q E hr h => ?_)
  · obtain ⟨v, c, rfl, _⟩ := h
    rfl
  refine ⟨_, pss_cons (ps_set (i := 1) scCor.nd rfl (.inl rfl) (pe_ix ix_tup (pv 0) pe_int (fun _ _ => rfl)))
      (pss_cons (ps_set (i := 2) scCor.nd rfl (.inl rfl) (pe_ix ix_tup (pv 0) pe_int (fun _ _ => rfl)))
      (pss_one (ps_ret (pe_lst (pa_cons (pe_tup (pa_cons (pe_op op_add (pv 1) pe_int) (pa_cons (pv 2) pa_nil)))
        (pa_cons (pe_tup (pa_cons (pe_op op_add (pv 1) pe_int) (pa_cons (pe_op op_add (pv 2) pe_int) pa_nil)))
        (pa_cons (pe_tup (pa_cons (pv 1) (pa_cons (pe_op op_add (pv 2) pe_int) pa_nil)))
        (pa_cons (pe_tup (pa_cons (pv 1) (pa_cons (pv 2) pa_nil))) pa_nil)))))))), ?_⟩
  obtain ⟨v, c, rfl, ⟨b, rfl, hb⟩, k⟩ := h
  refine ⟨_, rfl, b, _, 0, _, rfl, rfl, SqT.of hb, atI_nat (j := 0) rfl, _, rfl, b, _, 1, _, rfl, rfl, SqT.of hb, atI_nat (j := 1) rfl, ?_⟩
  refine ⟨_, rfl, _, _, rfl, rfl, _, rfl, by show 2 ≤ sizeLine; decide, fun p1 n1 => ?_⟩
  refine ⟨_, rfl, _, _, rfl, rfl, _, rfl, _, _, rfl, rfl, by show 2 ≤ sizeLine; decide, fun p2 n2 => ?_⟩
  refine ⟨_, rfl, _, rfl, _, _, rfl, rfl, by show 2 ≤ sizeLine; decide, fun p3 n3 => ?_⟩
  refine ⟨_, rfl, _, rfl, by show 2 ≤ sizeLine; decide, fun p4 n4 => ?_⟩
  refine ⟨by show 4 ≤ sizeLine; decide, fun p np => ?_⟩
  have s1 := same_new (o := .tup [V.int (c.1 + 1), V.int c.2]) n1
  have s2 := same_new (o := .tup [V.int (c.1 + 1), V.int (c.2 + 1)]) n2
  have s3 := same_new (o := .tup [V.int c.1, V.int (c.2 + 1)]) n3
  have s4 := same_new (o := .tup [V.int c.1, V.int c.2]) n4
  have s5 := same_new (o := .lst [V.ref p1, V.ref p2, V.ref p3, V.ref p4]) np
  refine k _ p (s1.trans (s2.trans (s3.trans (s4.trans s5)))) ⟨_, upd_same, ?_⟩
  exact .cons (tup_new.same (s2.trans (s3.trans (s4.trans s5)))) (.cons (tup_new.same (s3.trans (s4.trans s5))) (.cons (tup_new.same (s4.trans s5)) (.cons (tup_new.same s5) .nil)))
/-! ### outside_of -/
abbrev sOut : Stmt := top 14
def spOut : Sp := fun vs H Q _ => ∃ a cs, vs = [.ref a] ∧ CellsAt H a cs ∧ ∀ H' p, Same H H' → CellsAt H' p (Ti01.around cs) → Q (.ref p) H'
theorem scOut : FnScope ["squares", "places", "x", "y"] ["squares"] (defScope sOut) := ⟨rfl, rfl, rfl, by decide +kernel, rfl, by decide +kernel, by decide +kernel⟩
def OutInv (H : Hp) (p : Addr) (cs ds : List Cell) (H' : Hp) : Prop := Same H H' ∧ CellsAt H' p (ds.filter fun c => !cs.contains c)
theorem ok_out {f : Addr} {fd : FuncData} (F : Fun K "outside_of" "outside_of" sOut f fd) (mr : mg "range" = none) {t : Tok} (mL : mg "LAST_PLACE" = some (.int 11 t)) : FnOk P w K mg base CX0 1 f fd ["squares"] spOut := by
  refine F.ok scOut (fun vs H Q E h => ?_) (fun cdv A outer s H vs Q E hr h => ?_)
  · obtain ⟨a, cs, rfl, _⟩ := h
    rfl
  refine ⟨_, pss_cons (ps_set (i := 1) scOut.nd rfl (.inl rfl) (pe_lst pa_nil))
    (pss_cons (ps_for PassesOwn.never rfl (pi_range2 rfl mr (pa_cons (pe_un un_neg pe_int) (pa_cons (pe_op op_add (pe_glob (v := .int 11) rfl mL ⟨_, rfl⟩) pe_int) pa_nil))) (pg_name (i := 2) scOut.nd rfl (Or.inl rfl))
      (pss_one (ps_for PassesOwn.never rfl (pi_range2 rfl mr (pa_cons (pe_un un_neg pe_int) (pa_cons (pe_op op_add (pe_glob (v := .int 11) rfl mL ⟨_, rfl⟩) pe_int) pa_nil))) (pg_name (i := 3) scOut.nd rfl (Or.inl rfl))
        (pss_one (ps_if (pt_cmpR (op_notInD (hu65 hr)) (pe_tup (pa_cons (pv 2) (pa_cons (pv 3) pa_nil))) (pv 0) rfl)
          (pss_one (ps_expr (pe_bm PySem.F.plainAttrs_list PySem.F.slot_list_append PySem.F.type_list_append mt_append (pv 1) (pa_cons (pe_tup (pa_cons (pv 2) (pa_cons (pv 3) pa_nil))) pa_nil)))) pss_nil)))))
    (pss_one (ps_ret (pv 1)))), ?_⟩
  obtain ⟨a, cs, rfl, ha, k⟩ := h
  refine ⟨by show 0 ≤ sizeLine; decide, fun p np => ?_⟩
  refine ⟨_, rfl, _, _, rfl, rfl, _, _, rfl, ⟨by decide, by decide, by decide, by decide⟩, for_range (lo := -1) (n := 14) (fun i σ H' => ∃ vx vy, σ = [some (.ref a), some (.ref p), vx, vy] ∧ OutInv H p cs (bd1 i) H') ?_ ?_ ?_⟩
  · exact ⟨none, none, rfl, same_new np, [], upd_same, .nil⟩
  · rintro i σ H1 hi ⟨vx, vy, rfl, v1⟩
    refine ⟨_, rfl, _, _, rfl, rfl, _, _, rfl, ⟨by decide, by decide, by decide, by decide⟩, for_range (lo := -1) (n := 14) (fun j σ H' => ∃ vy, σ = [some (.ref a), some (.ref p), some (.int (-1 + (i : Int))), vy] ∧ OutInv H p cs (bd1 i ++ bd2 i j) H') ?_ ?_ ?_⟩
    · refine ⟨vy, rfl, ?_⟩
      rw [show bd2 i 0 = [] from rfl, List.append_nil]
      exact v1
    · rintro j σ H2 hj ⟨vy, rfl, s2, xs, hp2, cv2⟩
      refine ⟨_, rfl, _, rfl, by show 2 ≤ sizeLine; decide, fun q nq => ?_⟩
      have s3 := same_new (o := .tup [V.int (-1 + (i : Int)), V.int (-1 + (j : Int))]) nq
      obtain ⟨ys, hy, cvy⟩ := (ha.same s2).same s3
      refine ⟨_, rfl, dCell (-1 + (i : Int), -1 + (j : Int)), _, tup_new.dp, .lst (SqL.of hy) cvy.dp, dCell_shaped _, dCells_shaped _, _, rfl, ?_⟩
      rw [dCells_in]
      have ec : ((-1 + (i : Int), -1 + (j : Int)) : Cell) = ((i : Int) - 1, (j : Int) - 1) := by
        apply Prod.ext
        · show -1 + (i : Int) = (i : Int) - 1; omega
        · show -1 + (j : Int) = (j : Int) - 1; omega
      rw [ec]
      cases hc : cs.contains (((i : Int) - 1, (j : Int) - 1) : Cell) with
      | true =>
        refine if_false_of rfl ⟨_, rfl, s2.trans s3, xs, s3 _ _ hp2, ?_⟩
        rw [bd2_succ, ← List.append_assoc, List.filter_append, List.filter_cons_of_neg (by rw [hc]; decide)]
        rw [List.filter_nil, List.append_nil]
        exact cv2.same s3
      | false =>
        refine if_true_of rfl ?_
        refine ⟨_, rfl, .inl ⟨rfl, _, SqL.of (s3 _ _ hp2)⟩, _, rfl, _, rfl, by show 2 ≤ sizeLine; decide, fun q2 nq2 => ?_⟩
        have s4 := same_new (o := .tup [V.int (-1 + (i : Int)), V.int (-1 + (j : Int))]) nq2
        have hp4 := s4 _ _ (s3 _ _ hp2)
        have ll := cv2.length
        have lf := List.length_filter_le (fun c => !cs.contains c) (bd1 i ++ bd2 i j)
        rw [List.length_append, bd1_len, bd2_len] at lf
        refine ⟨p, _, _, rfl, rfl, hp4, size_lt (by omega), ?_⟩
        refine ⟨_, rfl, Same.upd_own (s2.trans (s3.trans s4)) np, _, upd_same, ?_⟩
        rw [bd2_succ, ← List.append_assoc, List.filter_append, List.filter_cons_of_pos (by rw [hc]; decide)]
        rw [List.filter_nil]
        refine ((cv2.same (s3.trans s4)).upd hp4).append (.cons ?_ .nil)
        rw [← ec]
        exact tup_new.upd hp4
    · rintro σ H2 ⟨vy, rfl, v2⟩
      refine ⟨_, _, rfl, ?_⟩
      rw [bd1_succ]
      exact v2
  · rintro σ H1 ⟨vx, vy, rfl, s1, ca⟩
    exact ⟨_, rfl, k _ _ s1 ca⟩
end
end Oc
namespace Oc
open PySem PySem.Spec PyProof.Rows L2
/-! ### a display of one pair whose key is a tuple -/
def tDispT1 (tk tv : TE) : TE := fun σ H Q => ∀ p, H p = none → tk σ (upd H p (.dT [])) fun y H1 => tv σ H1 fun v H2 =>
  ∃ b ks, y = .ref b ∧ H2 b = some (.tup (ks.map kV)) ∧ H2 p = some (.dT []) ∧ Q (.ref p) (upd H2 p (.dT [(ks, v)]))
theorem pe_dispT1 {X : Cx} {pos : Pos} {k v : Expr} {tk tv : TE} (hu : X.A.units < cLine) (hk : PE X k tk) (hv : PE X v tv) : PE X (.Dict [some k] [v] pos) (tDispT1 tk tv) := by
  refine ⟨fun pins s σ H Q I q => ?_⟩
  have hn := I.hok.fresh (Nat.le_refl s.heap.objs.size)
  have I1 := I.laid (a := s.heap.objs.size) (o := .dT []) (h' := s.heap.push { cls := .type "dict", data := .dict #[] }) (t' := s.toks) (fun _ _ q => Heap.get?_push_of_some _ q) (Nat.le_refl _) (dt_empty s.heap I.big)
  have hl := pairTrees_length [some k] [v] X.env pos rfl rfl
  have h0 : pairTrees [some k] [v] X.env pos ≠ [] := by
    intro e
    rw [e] at hl
    cases hl
  rw [arm_eval_Dict, zip_pairTrees [some k] [v] X.env pos rfl rfl, dictDisplay_pairs _ h0 (by rw [hl]; simp)]
  refine wpAny_bind (wpAny_standAt (wpAny_bind (wpAny_subDictH (knd := tupleKind (mixKind X.prog X.w)) (Q := fun d s' => wpAny (model X.prog X.w) _ (pure (Value.ref d)) _ _ s') (by exact hu) (by rw [hl]; simp) ?_)))
  refine pairTrees_cons_walk (thn (hk.run pins _ σ _ _ I1 (q _ hn)) fun ku s1 ⟨y, H1, I2, ry, q1⟩ => thn (hv.run pins s1 σ H1 _ I2 q1) fun vu s2 ⟨x, H2, I3, rv, b, ks, ey, hb, hp, q2⟩ => pairTrees_nil_walk ?_)
  subst ey
  obtain rfl : ku = .ref b := ry
  obtain ⟨z, hd, xs, rel, dd⟩ := dt_of I3.hok hp
  cases rel
  refine ⟨[(ks, b, vu)], ⟨rfl, rfl, key_of I3.hok hb, trivial⟩, dd, fun h' tk dd' hs => wpAny_pure ⟨.ref s.heap.objs.size, _, ?_, rfl, q2⟩⟩
  obtain ⟨q, es, ep, hq, h2, h3, h4, _, h5⟩ := dd'
  refine d_write I3 (by rw [hp]; exact True.intro) hs ⟨q, hq⟩ ⟨by show 1 ≤ sizeLine; decide, hd, _, KT.keeps (H := H2) (KT.put (kvs := []) (xs := []) .nil ks hb rv) fun c ys ec => ?_, q, es, ep, hq, h2, h3, h4, h5⟩
  rw [upd_ne (ne_of ec hp (fun z => nomatch z))]
  exact ec
end Oc
namespace Oc
open PySem PySem.Spec PyProof.Rows L2
/-! ### dicts whose keys are squares -/
def ck (c : Cell) : List Key := [Sum.inl c.1, Sum.inl c.2]
theorem ck_inj {a c : Cell} (h : ck a = ck c) : a = c := by
  unfold ck at h
  injection h with h1 h2
  injection h2 with h2 _
  injection h1 with h1
  injection h2 with h2
  exact Prod.ext h1 h2
theorem TupAt.key {H : Hp} {v : V} {c : Cell} (h : TupAt H v c) : ∃ b, v = .ref b ∧ H b = some (.tup ((ck c).map kV)) := h
def wantK (cs : List Cell) : List (List Key × V) := cs.foldl (fun kvs c => putK kvs (ck c) (.bl true)) []
def seenK (cs : List Cell) : List (List Key × V) := cs.map fun c => (ck c, .bl true)
theorem wantK_more {cs : List Cell} {i : Nat} {c : Cell} (h : cs[i]? = some c) : wantK (cs.take (i + 1)) = putK (wantK (cs.take i)) (ck c) (.bl true) := by
  unfold wantK
  rw [List.take_add_one, h, List.foldl_append]
  rfl
theorem wantK_len : ∀ (cs : List Cell) (kvs : List (List Key × V)), (cs.foldl (fun kvs c => putK kvs (ck c) (.bl true)) kvs).length ≤ kvs.length + cs.length
  | [], _ => Nat.le_refl _
  | c :: cs, kvs => by
    have := wantK_len cs (putK kvs (ck c) (.bl true))
    have := length_putK kvs (ck c) (.bl true)
    simp only [List.foldl_cons, List.length_cons]
    omega
theorem want_fold (c : Cell) : ∀ (cs : List Cell) (kvs : List (List Key × V)), (valV (cs.foldl (fun kvs c => putK kvs (ck c) (.bl true)) kvs) (ck c)).isSome = (cs.contains c || (valV kvs (ck c)).isSome)
  | [], kvs => by simp
  | a :: cs, kvs => by
    rw [List.foldl_cons, want_fold c cs, valV_put, List.contains_cons]
    by_cases h : c = a
    · subst h
      simp
    · have : ¬ ck c = ck a := fun e => h (ck_inj e)
      rw [if_neg this]
      have e : (c == a) = false := by rw [beq_eq_false_iff_ne]; exact h
      rw [e, Bool.false_or]
theorem want_has (cs : List Cell) (c : Cell) : (valV (wantK cs) (ck c)).isSome = cs.contains c := by
  unfold wantK
  rw [want_fold, valV_nil]
  simp
theorem seen_has (c : Cell) : ∀ cs : List Cell, (valV (seenK cs) (ck c)).isSome = cs.contains c
  | [] => rfl
  | a :: cs => by
    rw [List.contains_cons]
    by_cases h : a = c
    · subst h
      unfold seenK
      rw [List.map_cons, valV_pos rfl]
      simp
    · unfold seenK
      rw [List.map_cons, valV_neg (fun e => h (ck_inj e))]
      have := seen_has c cs
      unfold seenK at this
      rw [this]
      have e : (c == a) = false := by rw [beq_eq_false_iff_ne]; exact fun z => h z.symm
      rw [e, Bool.false_or]
theorem seen_put {cs : List Cell} {c : Cell} (h : c ∉ cs) : putK (seenK cs) (ck c) (.bl true) = seenK (cs ++ [c]) := by
  rw [putK_new]
  · unfold seenK
    rw [List.map_append]
    rfl
  · have := seen_has c cs
    cases e : valV (seenK cs) (ck c) with
    | none => rfl
    | some v =>
      rw [e] at this
      exact absurd (List.contains_iff_mem.mp this.symm) h
theorem CellsV.updD {H : Hp} {D : Addr} {ks ls : List (List Key × V)} {vs : List V} {cs : List Cell} (h : CellsV H vs cs) (hd : H D = some (.dT ks)) : CellsV (L2.upd H D (.dT ls)) vs cs := by
  induction h with
  | nil => exact .nil
  | cons h _ ih =>
    obtain ⟨b, rfl, hb⟩ := h
    refine .cons ⟨b, rfl, ?_⟩ ih
    rw [upd_ne (ne_of hb hd (by intro z; cases z))]
    exact hb
theorem TupAt.updD {H : Hp} {D : Addr} {ks ls : List (List Key × V)} {v : V} {c : Cell} (h : TupAt H v c) (hd : H D = some (.dT ks)) : TupAt (L2.upd H D (.dT ls)) v c := by
  obtain ⟨b, rfl, hb⟩ := h
  refine ⟨b, rfl, ?_⟩
  rw [upd_ne (ne_of hb hd (by intro z; cases z))]
  exact hb
def slotI (σ : L2.St) (i : Nat) : Nat := match σ[i]? with
  | some (some (.int n)) => n.toNat
  | _ => 0
section
variable {P : Program} {w : World} {K : PySem.W.Frag} {mg : Str → Option Value} {base : Heap}
/-! ### is_joined -/
abbrev sJoin : Stmt := top 13
def spJoin : Sp := fun vs H Q _ => ∃ a c0 r, vs = [.ref a] ∧ CellsAt H a (c0 :: r) ∧ (c0 :: r).Nodup ∧ (c0 :: r).length ≤ 1000 ∧ ∀ H', Same H H' → Q (.bl (Ti01.joined (c0 :: r))) H'
theorem scJoin : FnScope ["places", "wanted", "place", "found", "seen", "k", "here"] ["places"] (defScope sJoin) := ⟨rfl, rfl, rfl, by decide +kernel, rfl, by decide +kernel, by decide +kernel⟩
/-- between two turns: w holds what is wanted, f what is found, d what is seen; these three are new -/
structure JInv (H : Hp) (w f d : Addr) (cs l : List Cell) (H' : Hp) : Prop where
  same : Same H H'
  want : H' w = some (.dT (wantK cs))
  fnd : CellsAt H' f l
  seen : H' d = some (.dT (seenK l))
theorem ok_join {f : Addr} {fd : FuncData} (F : Fun K "is_joined" "is_joined" sJoin f fd) (ml : mg "len" = none) (cN : Cal P w K mg base "neighbours" 1 ["place"] spNear) : FnOk P w K mg base CX0 2 f fd ["places"] spJoin := by
  obtain ⟨fN, fdN, gN, kN, bN, oN⟩ := cN
  refine F.ok scJoin (fun vs H Q E h => ?_) (fun cdv A outer s H vs Q E hr h => ?_)
  · obtain ⟨a, c0, r, rfl, _⟩ := h
    rfl
  have hu := hu_of hr
  refine ⟨_, pss_cons (ps_set (i := 1) scJoin.nd rfl (.inl rfl) pe_dnewT)
    (pss_cons (ps_for PassesOwn.never rfl (pi_list (pv 0)) (pg_name (i := 2) scJoin.nd rfl (Or.inl rfl)) (pss_one (ps_dput hu (pv 1) (pv 2) pe_bl rfl)))
    (pss_cons (ps_set (i := 3) scJoin.nd rfl (.inl rfl) (pe_lst (pa_cons (pe_ix ix_list (pv 0) pe_int (fun _ _ => rfl)) pa_nil)))
    (pss_cons (ps_set (i := 4) scJoin.nd rfl (.inl rfl) (pe_dispT1 hr.units0 (pe_ix ix_list (pv 0) pe_int (fun _ _ => rfl)) pe_bl))
    (pss_cons (ps_set (i := 5) scJoin.nd rfl (.inl rfl) pe_int)
    (pss_cons (ps_while PassesOwn.never (pt_cmpR op_lt (pv 5) (pe_callB call_len_seq (by rfl) ml PySem.boot_len (pa_cons (pv 3) pa_nil)) (nomark _))
      (pss_cons (ps_set (i := 6) scJoin.nd rfl (.inl rfl) (pe_ix ix_list (pv 3) (pv 5) (fun _ _ => rfl)))
      (pss_cons (ps_for PassesOwn.never rfl (pi_list (pe_call oN hr rfl gN kN bN .nil pass0 (pa_cons (pv 6) pa_nil))) (pg_name (i := 2) scJoin.nd rfl (Or.inl rfl))
        (pss_one (ps_if (PW.pt (pw_and (pt_cmp (pc_din hu (pv 2) (pv 1))) (pw_and1 (pt_cmp (pc_dnotin hu (pv 2) (pv 4))))))
          (pss_cons (ps_dput hu (pv 4) (pv 2) pe_bl rfl)
          (pss_one (ps_expr (pe_bm PySem.F.plainAttrs_list PySem.F.slot_list_append PySem.F.type_list_append mt_append (pv 3) (pa_cons (pv 2) pa_nil))))) pss_nil)))
      (pss_one (ps_aug (i := 5) scJoin.nd rfl (.inl rfl) pe_int ip_add)))))
    (pss_one (ps_ret (pe_cmpR op_eq (pe_callB call_len_seq (by rfl) ml PySem.boot_len (pa_cons (pv 3) pa_nil)) (pe_callB call_len_seq (by rfl) ml PySem.boot_len (pa_cons (pv 0) pa_nil)) (nomark _))))))))), ?_⟩
  obtain ⟨a, c0, r, rfl, ⟨xs, ha, cv⟩, nd, hlen, k⟩ := h
  have lx := cv.length
  refine fun w0 nw => ?_
  refine ⟨_, rfl, a, rfl, ⟨_, SqL.of (same_new nw _ _ ha)⟩, for_list (K := _) (a := a) (xs := xs) (fun i σ H' => ∃ v, σ = [some (.ref a), some (.ref w0), v, none, none, none, none] ∧ Same H H' ∧ H' w0 = some (.dT (wantK ((c0 :: r).take i)))) ⟨none, rfl, same_new nw, upd_same⟩ (fun i σ H' _ ⟨_, _, s1, _⟩ => SqL.of (s1 _ _ ha)) ?_ ?_⟩
  · rintro i x σ H1 hx ⟨v, rfl, s1, hw⟩
    obtain ⟨c, hc, tc⟩ := cv.at hx
    obtain ⟨b, rfl, hb⟩ := tc.key
    have ll := wantK_len ((c0 :: r).take i) []
    rw [List.length_nil, List.length_take] at ll
    refine ⟨_, rfl, _, rfl, w0, _, rfl, DPut.t hw (s1 _ _ hb) (size_lt (by show (wantK _).length ≤ _; unfold wantK; omega)), _, rfl, Same.upd_own s1 nw, ?_⟩
    rw [upd_same, wantK_more hc]
  rintro σ H1 ⟨v, rfl, s1, hw⟩
  rw [lx, List.take_length] at hw
  cases cv with
  | @cons v0 _ vr _ t0 cvr =>
  obtain ⟨b0, rfl, hb0⟩ := t0.key
  refine ⟨_, rfl, a, _, 0, _, rfl, rfl, SqL.of (s1 _ _ ha), atI_nat (j := 0) rfl, by show 1 ≤ sizeLine; decide, fun f0 nf => ?_⟩
  have s2 := same_new (o := .lst [V.ref b0]) nf
  refine fun d0 nd0 => ?_
  have s3 := same_new (o := .dT []) nd0
  refine ⟨_, rfl, a, _, 0, _, rfl, rfl, SqL.of (s3 _ _ (s2 _ _ (s1 _ _ ha))), atI_nat (j := 0) rfl, b0, ck c0, rfl, s3 _ _ (s2 _ _ (s1 _ _ hb0)), upd_same, ?_⟩
  have nwf : f0 ≠ d0 := ne_of_none upd_same nd0
  refine while_by (fun σ H' => ∃ (l : List Cell) (kk : Nat) (vp vh : Option V), σ = [some (.ref a), some (.ref w0), vp, some (.ref f0), some (.ref d0), some (.int (kk : Int)), vh] ∧ JInv H w0 f0 d0 (c0 :: r) l H' ∧ Geo.Found (c0 :: r) c0 l kk ∧ kk ≤ l.length) (fun σ _ => 1000 - slotI σ 5) ?_ ?_ ?_
  · refine ⟨[c0], 0, _, none, rfl, ?_, Geo.Found.start (List.mem_cons_self ..), by simp⟩
    rw [upd_upd]
    have s3' := same_new (o := .dT [(ck c0, V.bl true)]) nd0
    exact ⟨s1.trans (s2.trans s3'), s3' _ _ (s2 _ _ hw), ⟨_, s3' _ _ upd_same, .cons (t0.same (s1.trans (s2.trans s3'))) .nil⟩, upd_same⟩
  · have nwf0 : w0 ≠ f0 := ne_of_none hw nf
    have nwd : w0 ≠ d0 := ne_of_none (s2 _ _ hw) nd0
    have fH : H f0 = none := s1.free nf
    have dH : H d0 = none := (s1.trans s2).free nd0
    rintro σ H2 ⟨l, kk, vp, vh, rfl, J, fo, hk⟩
    obtain ⟨ys, hf, cvf⟩ := J.fnd
    have ly := cvf.length
    have few := fo.few
    refine ⟨_, rfl, _, rfl, f0, _, rfl, .inl (SqL.of hf), _, _, rfl, rfl, _, rfl, ?_⟩
    by_cases c : kk < l.length
    case neg =>
      refine if_false_of (decide_eq_false (by rw [ly]; omega)) ?_
      refine ⟨_, rfl, f0, _, rfl, .inl (SqL.of hf), _, rfl, a, _, rfl, .inl (SqL.of (J.same _ _ ha)), rfl, ?_⟩
      have e : kk = l.length := by omega
      subst e
      have e2 : decide (V.int (ys.length : Int) = V.int ((V.ref b0 :: vr).length : Int)) = Ti01.joined (c0 :: r) := by
        rw [fo.ends nd, ly, lx]
        refine decide_eq_decide.mpr ⟨fun z => ?_, fun z => by rw [z]⟩
        injection z with z
        omega
      rw [e2]
      exact k H2 J.same
    refine if_true_of (decide_eq_true (by rw [ly]; omega)) ?_
    have hy : ys[kk]? = some (ys[kk]'(by omega)) := List.getElem?_eq_getElem _
    generalize ys[kk]'(by omega) = y at hy
    obtain ⟨ch, hch, th⟩ := cvf.at hy
    refine ⟨_, rfl, _, rfl, f0, _, _, _, rfl, rfl, SqL.of hf, atI_nat hy, ?_⟩
    refine ⟨_, rfl, y, ch, rfl, th, fun H3 p s4 pn ⟨zs, hz, cvz⟩ => ?_⟩
    have npf : p ≠ f0 := (ne_of_none hf pn).symm
    refine ⟨p, rfl, ⟨_, SqL.of hz⟩, for_list (K := _) (a := p) (xs := zs) (fun j σ H' => ∃ (l' : List Cell) (vp : Option V), σ = [some (.ref a), some (.ref w0), vp, some (.ref f0), some (.ref d0), some (.int (kk : Int)), some y] ∧ JInv H w0 f0 d0 (c0 :: r) l' H' ∧
      Geo.Found (c0 :: r) c0 l' kk ∧ kk < l'.length ∧ l'[kk]? = some ch ∧ (∀ c ∈ c0 :: r, c ∈ (Ti01.near ch).take j → c ∈ l') ∧ H' p = some (.lst zs) ∧ CellsV H' zs (Ti01.near ch)) ?_ ?_ ?_ ?_⟩
    · exact ⟨l, _, rfl, ⟨J.same.trans s4, s4 _ _ J.want, J.fnd.same s4, s4 _ _ J.seen⟩, fo, c, hch, fun _ _ h => by simp at h, hz, cvz⟩
    · rintro j σ H' _ ⟨_, _, _, _, _, _, _, _, hp, _⟩
      exact SqL.of hp
    · rintro j x σ H' hx ⟨l', vp', rfl, J', fo', c', hch', near', hp', cvp⟩
      obtain ⟨cc, hcc, tc⟩ := cvp.at hx
      obtain ⟨b, rfl, hb⟩ := tc.key
      have nm : cc ∈ Ti01.near ch := List.mem_of_getElem? hcc
      refine ⟨_, rfl, _, rfl, w0, _, rfl, DGet.t J'.want hb, _, rfl, ?_⟩
      rw [want_has]
      cases hcs : (c0 :: r).contains cc with
      | false =>
        refine if_false_of rfl (if_false_of rfl ⟨l', _, rfl, J', fo', c', hch', ?_, hp', cvp⟩)
        intro q hq hqn
        rw [List.take_add_one, hcc] at hqn
        rcases List.mem_append.mp hqn with h | h
        · exact near' q hq h
        · simp at h
          subst h
          rw [List.contains_iff_mem.mpr hq] at hcs
          cases hcs
      | true =>
        have hin : cc ∈ c0 :: r := List.contains_iff_mem.mp hcs
        refine if_true_of rfl ?_
        refine ⟨_, rfl, _, rfl, d0, _, rfl, DGet.t J'.seen hb, _, rfl, ?_⟩
        rw [seen_has]
        cases hl : l'.contains cc with
        | true =>
          refine if_false_of rfl ⟨l', _, rfl, J', fo', c', hch', ?_, hp', cvp⟩
          intro q hq hqn
          rw [List.take_add_one, hcc] at hqn
          rcases List.mem_append.mp hqn with h | h
          · exact near' q hq h
          · simp at h
            subst h
            exact List.contains_iff_mem.mp hl
        | false =>
          have hno : cc ∉ l' := fun h => by rw [List.contains_iff_mem.mpr h] at hl; cases hl
          refine if_true_of rfl ?_
          obtain ⟨ys', hf', cvf'⟩ := J'.fnd
          have few' := fo'.few
          have ly' := cvf'.length
          refine ⟨_, rfl, _, rfl, d0, _, rfl, DPut.t J'.seen hb (size_lt (by unfold seenK; rw [List.length_map]; omega)), ?_⟩
          rw [seen_put hno]
          have hf2 : upd H' d0 (.dT (seenK (l' ++ [cc]))) f0 = some (.lst ys') := by rw [upd_ne nwf]; exact hf'
          refine ⟨_, rfl, .inl ⟨rfl, _, SqL.of hf2⟩, _, rfl, f0, _, _, rfl, rfl, hf2, size_lt (by omega), ?_⟩
          refine ⟨l' ++ [cc], _, rfl, ⟨Same.upd_own (Same.upd_own J'.same dH) fH, ?_, ⟨_, upd_same, ?_⟩, ?_⟩, fo'.more (List.mem_of_getElem? hch') hin nm hno (by omega), by rw [List.length_append]; omega, ?_, ?_, ?_, ?_⟩
          · rw [upd_ne nwf0, upd_ne nwd]
            exact J'.want
          · exact ((cvf'.updD J'.seen).upd hf2).append (.cons ((tc.updD J'.seen).upd hf2) .nil)
          · rw [upd_ne nwf.symm, upd_same]
          · rw [List.getElem?_append_left c']
            exact hch'
          · intro q hq hqn
            rw [List.take_add_one, hcc] at hqn
            rcases List.mem_append.mp hqn with h | h
            · exact List.mem_append_left _ (near' q hq h)
            · simp at h
              subst h
              simp
          · rw [upd_ne npf, upd_ne (ne_of hp' J'.seen (by intro z; cases z))]
            exact hp'
          · exact (cvp.updD J'.seen).upd hf2
    · rintro σ H' ⟨l', vp', rfl, J', fo', c', hch', near', hp', cvp⟩
      rw [cvz.length, List.take_length] at near'
      refine ⟨_, rfl, _, _, rfl, rfl, ⟨l', kk + 1, vp', some y, rfl, J', fo'.next hch' near', by omega⟩, ?_⟩
      · have := fo'.few
        show 1000 - (kk + 1) < 1000 - kk
        omega
  · rintro σ H' Q1 Q2 m ⟨x1, e1, x2, e2, f1, ys, e3, sq, i1, i2, e4, e5, b1, e6, q⟩
    exact ⟨x1, e1, x2, e2, f1, ys, e3, sq, i1, i2, e4, e5, b1, e6, m _ _ q⟩
end
end Oc
namespace Oc
open PySem PySem.Spec PyProof.Rows L2
/-! ### len of a set of tuples -/
def rLenST (K : PySem.W.Frag) (P : Program) (w : World) : List V → Hp → VK → Prop := fun xs H Q => ∃ (a : Addr) (L : List (Addr × List Int)), xs = [V.ref a] ∧ H a = some (SetTO P w a L) ∧ (∀ p ∈ L, SqT K H p.1 (p.2.map V.int)) ∧
  ((L.map (·.2)).Nodup → Q (.int (L.length : Nat)) H)
theorem call_lenST {X : Cx} : CallR X (.builtin "len") (rLenST X.K X.prog X.w) := by
  intro pins s σ H xs us Q I r h
  obtain ⟨a, L, rfl, ha, hk, q⟩ := h
  rw [Vals.ref1 r]
  have R0 : SetT0 X.prog X.w s.heap a L := (show ObjOk X.prog X.w H s.heap a (SetTO X.prog X.w a L) from I.hok a _ ha).1
  obtain ⟨es, ep, t, R⟩ := R0.full (fun p hp => I.isT (hk p hp))
  obtain ⟨o, ho, hex, hd⟩ := R.ob
  have hs := R.size
  have hf := R.few
  refine call_len_set ho hex hd R.fits (by omega) ?_
  exact ⟨.int (L.length : Nat), H, I.tok _, ⟨_, by rw [hs]⟩, q R.nd⟩
/-! ### told well: the mathematics -/
theorem diff_nodup : ∀ l : List Cell, Ti01.different l = true ↔ l.Nodup
  | [] => by simp [Ti01.different]
  | c :: l => by
    have ih := diff_nodup l
    simp only [Ti01.different, Bool.and_eq_true, Bool.not_eq_true', List.nodup_cons, ih]
    constructor
    · rintro ⟨h1, h2⟩
      exact ⟨fun h => (by rw [List.contains_iff_mem.mpr h] at h1; cases h1), h2⟩
    · rintro ⟨h1, h2⟩
      refine ⟨?_, h2⟩
      apply Bool.eq_false_iff.mpr
      intro h
      exact h1 (List.contains_iff_mem.mp h)
theorem fewer {α : Type} : ∀ ks : List α, ¬ ks.Nodup → ∃ ls : List α, (∀ x ∈ ks, x ∈ ls) ∧ ls.length < ks.length
  | [], h => absurd (by simp) h
  | x :: r, h => by
    by_cases hx : x ∈ r
    · refine ⟨r, fun y hy => ?_, by simp⟩
      rcases List.mem_cons.mp hy with e | e
      · subst e; exact hx
      · exact e
    · have hr : ¬ r.Nodup := fun hr => h (List.nodup_cons.mpr ⟨hx, hr⟩)
      obtain ⟨ls, h1, h2⟩ := fewer r hr
      refine ⟨x :: ls, fun y hy => ?_, by simp only [List.length_cons]; omega⟩
      rcases List.mem_cons.mp hy with e | e
      · subst e; exact List.mem_cons_self ..
      · exact List.mem_cons_of_mem _ (h1 y e)
theorem set_size {α : Type} {M ks : List α} (nd : M.Nodup) (h1 : ∀ x ∈ M, x ∈ ks) (h2 : ∀ x ∈ ks, x ∈ M) : M.length = ks.length ↔ ks.Nodup := by
  constructor
  · intro e
    apply Classical.byContradiction
    intro hn
    obtain ⟨ls, h3, h4⟩ := fewer ks hn
    have := List.Nodup.length_le_of_subset nd (fun x hx => h3 x (h1 x hx))
    omega
  · intro nk
    have a := List.Nodup.length_le_of_subset nd h1
    have b := List.Nodup.length_le_of_subset nk h2
    omega
theorem pairs_even : ∀ l : List Nat, l.length % 2 = 0 → (∀ x ∈ l, x ≤ 11) → Ti01.pairs l = some (pairsOf (Ti01.ints l))
  | [], _, _ => rfl
  | [_], h, _ => by simp at h
  | x :: y :: l, h, h11 => by
    have ih := pairs_even l (by simp at h; omega) (fun z hz => h11 z (by simp [hz]))
    simp only [Ti01.pairs, ih, if_pos (show x ≤ 11 ∧ y ≤ 11 from ⟨h11 x (by simp), h11 y (by simp)⟩)]
    rfl
theorem pairs_not : ∀ l : List Nat, ¬ (l.length % 2 = 0 ∧ ∀ x ∈ l, x ≤ 11) → Ti01.pairs l = none
  | [], h => absurd ⟨rfl, fun _ hx => nomatch hx⟩ h
  | [_], _ => rfl
  | x :: y :: l, h => by
    simp only [Ti01.pairs]
    by_cases c : x ≤ 11 ∧ y ≤ 11
    · rw [if_pos c, pairs_not l]
      · rfl
      · rintro ⟨h1, h2⟩
        refine h ⟨by simp; omega, fun z hz => ?_⟩
        simp at hz
        rcases hz with e | e | e
        · omega
        · omega
        · exact h2 z e
    · rw [if_neg c]
/-- what a shape's numbers are told as, if well -/
def tell (l : List Nat) : Option (List Cell) := match Ti01.pairs l with
  | none => none
  | some t => if Ti01.isShape t = true then some t else none
structure Well (l : List Nat) : Prop where
  even : l.length % 2 = 0
  pos : 0 < l.length
  few : l.length ≤ 24
  low : ∀ x ∈ l, x ≤ 11
  nd : (pairsOf (Ti01.ints l)).Nodup
theorem ints_len (l : List Nat) : (Ti01.ints l).length = l.length := by simp [Ti01.ints]
theorem pairs_len {l : List Nat} (h : l.length % 2 = 0) : (pairsOf (Ti01.ints l)).length = l.length / 2 := pairsOf_len _ _ (by rw [ints_len]; omega)
theorem tell_well {l : List Nat} (h : Well l) : tell l = some (pairsOf (Ti01.ints l)) := by
  unfold tell
  rw [pairs_even l h.even h.low]
  have e := pairs_len h.even
  have h1 := h.pos
  have h2 := h.few
  have h3 := h.even
  have : Ti01.isShape (pairsOf (Ti01.ints l)) = true := by
    unfold Ti01.isShape
    rw [(diff_nodup _).mpr h.nd, Bool.and_true, decide_eq_true (by omega), Bool.and_true]
    cases hp : pairsOf (Ti01.ints l) with
    | nil => rw [hp] at e; simp at e; omega
    | cons _ _ => rfl
  simp only [this, if_true]
theorem tell_not {l : List Nat} (h : ¬ Well l) : tell l = none := by
  unfold tell
  by_cases c : l.length % 2 = 0 ∧ ∀ x ∈ l, x ≤ 11
  · rw [pairs_even l c.1 c.2]
    have e := pairs_len c.1
    have c1 := c.1
    have : ¬ Ti01.isShape (pairsOf (Ti01.ints l)) = true := by
      intro hs
      unfold Ti01.isShape at hs
      simp only [Bool.and_eq_true, decide_eq_true_eq, diff_nodup] at hs
      obtain ⟨h1, h2, h3⟩ := hs
      refine h ⟨c.1, ?_, by omega, c.2, h3⟩
      cases hp : pairsOf (Ti01.ints l) with
      | nil => rw [hp] at h1; simp at h1
      | cons _ _ => rw [hp] at e; simp at e; omega
    simp only [if_neg this]
  · rw [pairs_not l c]
theorem cells_keys {K : PySem.W.Frag} {H : Hp} {xs : List V} {cs : List Cell} (h : CellsV H xs cs) : ∃ ks : List (Addr × List Int), xs = ks.map (fun p => V.ref p.1) ∧ ks.map (·.2) = cs.map (fun c => [c.1, c.2]) ∧ ∀ p ∈ ks, SqT K H p.1 (p.2.map V.int) := by
  induction h with
  | nil => exact ⟨[], rfl, rfl, fun _ h => nomatch h⟩
  | @cons v c vs cs h _ ih =>
    obtain ⟨b, rfl, hb⟩ := h
    obtain ⟨ks, e1, e2, e3⟩ := ih
    refine ⟨(b, [c.1, c.2]) :: ks, by rw [e1]; rfl, by rw [List.map_cons, e2]; rfl, ?_⟩
    intro p hp
    rcases List.mem_cons.mp hp with e | e
    · subst e
      exact SqT.of hb
    · exact e3 p e
theorem keys_nodup (cs : List Cell) : (cs.map fun c => [c.1, c.2]).Nodup ↔ cs.Nodup := by
  constructor
  · intro h
    exact List.Pairwise.of_map _ (fun a b hne e => hne (by rw [e])) h
  · intro h
    refine List.Pairwise.map _ (fun a b hne e => hne ?_) h
    injection e with e1 e2
    injection e2 with e2 _
    exact Prod.ext e1 e2
theorem same_tup {K : PySem.W.Frag} {H H' : Hp} {a : Addr} {xs : List V} (e : Same H H') (h : SqT K H a xs) : SqT K H' a xs := by
  rcases h with (h | ⟨o, h⟩) | h
  · exact .inl (.inl (e _ _ h))
  · exact .inl (.inr ⟨o, e _ _ h⟩)
  · exact .inr h
section
variable {P : Program} {w : World} {K : PySem.W.Frag} {mg : Str → Option Value} {base : Heap}
/-! ### is_well_told -/
abbrev sWell : Stmt := top 16
def spWell : Sp := fun vs H Q _ => ∃ a l, vs = [.ref a] ∧ H a = some (.lst (nv l)) ∧ l.length ≤ 1000 ∧ ∀ H', Same H H' → Q (.bl (tell l).isSome) H'
theorem scWell : FnScope ["numbers", "squares"] ["numbers"] (defScope sWell) := ⟨rfl, rfl, rfl, by decide +kernel, rfl, by decide +kernel, by decide +kernel⟩
theorem ok_well {f : Addr} {fd : FuncData} (F : Fun K "is_well_told" "is_well_told" sWell f fd) (ml : mg "len" = none) (mm : mg "max" = none) (ms : mg "set" = none) {t t2 : Tok} (mL : mg "LAST_PLACE" = some (.int 11 t)) (mM : mg "MOST_SQUARES" = some (.int 12 t2))
    (cS : Cal P w K mg base "squares_of" 1 ["numbers"] spSq) : FnOk P w K mg base CX0 2 f fd ["numbers"] spWell := by
  obtain ⟨fS, fdS, gS, kS, bS, oS⟩ := cS
  refine F.ok scWell (fun vs H Q E h => ?_) (fun cdv A outer s H vs Q E hr h => ?_)
  · obtain ⟨a, l, rfl, _⟩ := h
    rfl
  refine ⟨_, pss_cons (ps_if (PW.pt (pw_or (pt_cmpR op_eq (pe_callB call_len_seq (by rfl) ml PySem.boot_len (pa_cons (pv 0) pa_nil)) pe_int (nomark _))
      (pw_or (pt_cmpR op_ne (pe_op op_mod (pe_callB call_len_seq (by rfl) ml PySem.boot_len (pa_cons (pv 0) pa_nil)) pe_int) pe_int (nomark _))
      (pw_or1 (pt_cmpR op_gt (pe_callB call_len_seq (by rfl) ml PySem.boot_len (pa_cons (pv 0) pa_nil)) (pe_op op_mul pe_int (pe_glob (v := .int 12) rfl mM ⟨_, rfl⟩)) (nomark _))))))
      (pss_one (ps_ret pe_bl)) pss_nil)
    (pss_cons (ps_if (pt_cmpR op_gt (pe_callB (cr_max rfl) (by rfl) mm (by decide +kernel) (pa_cons (pv 0) pa_nil)) (pe_glob (v := .int 11) rfl mL ⟨_, rfl⟩) (nomark _)) (pss_one (ps_ret pe_bl)) pss_nil)
    (pss_cons (ps_set (i := 1) scWell.nd rfl (.inl rfl) (pe_call oS hr rfl gS kS bS .nil pass0 (pa_cons (pv 0) pa_nil)))
    (pss_one (ps_ret (pe_cmpR op_eq (pe_callB call_lenST (by rfl) ml PySem.boot_len (pa_cons (pe_callTy (cr_setOfT rfl hr.units) (by rfl) ms (by decide +kernel) (pa_cons (pv 1) pa_nil)) pa_nil))
      (pe_callB call_len_seq (by rfl) ml PySem.boot_len (pa_cons (pv 1) pa_nil)) (nomark _)))))), ?_⟩
  obtain ⟨a, l, rfl, ha, hlen, k⟩ := h
  have ha' : H a = some (.lst (iv (Ti01.ints l))) := by rw [ha, nv_iv]
  have no : ∀ H', Same H H' → ¬ Well l → Q (.bl false) H' := by
    intro H' s1 hw
    have := k H' s1
    rw [tell_not hw] at this
    exact this
  refine ⟨_, rfl, a, _, rfl, .inl (SqL.of ha), rfl, _, rfl, ?_⟩
  by_cases c1 : l.length = 0
  case pos =>
    refine if_true_of (decide_eq_true (by rw [nv_len, c1]; rfl)) ?_
    exact if_true_of rfl (no H (Same.refl H) fun h => by have := h.pos; omega)
  refine if_false_of (decide_eq_false (by rw [nv_len]; intro z; injection z with z; omega)) ?_
  refine ⟨_, rfl, a, _, rfl, .inl (SqL.of ha), _, _, rfl, rfl, (by show (0 : Int) < 2; decide), rfl, _, rfl, ?_⟩
  by_cases c2 : l.length % 2 = 0
  case neg =>
    refine if_true_of ?_ ?_
    · rw [decide_eq_false]
      · rfl
      · rw [nv_len]
        intro z
        injection z with z
        omega
    exact if_true_of rfl (no H (Same.refl H) fun h => c2 h.even)
  refine if_false_of ?_ ?_
  · rw [decide_eq_true]
    · rfl
    · show V.int (((nv l).length : Int) % 2) = V.int 0
      rw [nv_len, show ((l.length : Nat) : Int) % 2 = 0 by omega]
  refine ⟨_, rfl, a, _, rfl, .inl (SqL.of ha), _, _, rfl, rfl, .inl ⟨by decide, by decide⟩, _, _, rfl, rfl, _, rfl, ?_⟩
  by_cases c3 : l.length ≤ 24
  case neg =>
    refine if_true_of (decide_eq_true (by rw [nv_len]; omega)) ?_
    exact no H (Same.refl H) fun h => c3 h.few
  refine if_false_of (decide_eq_false (by rw [nv_len]; omega)) ?_
  refine ⟨_, rfl, a, Ti01.ints l, rfl, SqL.of ha', by rw [ints_len]; omega, fun m hm hle => ?_⟩
  refine ⟨_, _, rfl, rfl, _, rfl, ?_⟩
  have hmem : ∀ x : Nat, x ∈ l ↔ (x : Int) ∈ Ti01.ints l := by
    intro x
    unfold Ti01.ints
    rw [List.mem_map]
    constructor
    · intro h
      exact ⟨x, h, rfl⟩
    · rintro ⟨y, hy, e⟩
      have e2 : y = x := by omega
      rw [← e2]
      exact hy
  by_cases c4 : m ≤ 11
  case neg =>
    refine if_true_of (decide_eq_true (by omega)) ?_
    refine no H (Same.refl H) fun h => ?_
    unfold Ti01.ints at hm
    obtain ⟨x, hx, e⟩ := List.mem_map.mp hm
    have := h.low x hx
    omega
  refine if_false_of (decide_eq_false (by omega)) ?_
  have low : ∀ x ∈ l, x ≤ 11 := fun x hx => by
    have := hle _ ((hmem x).mp hx)
    omega
  refine ⟨_, rfl, a, Ti01.ints l, l.length / 2, rfl, ha', by rw [ints_len]; omega, by omega, fun H1 p s1 ⟨xs, hp, cv⟩ => ?_⟩
  obtain ⟨ks, ex, ek, et⟩ := cells_keys (K := K) cv
  have lk : ks.length = (pairsOf (Ti01.ints l)).length := by
    have := congrArg List.length ek
    simpa using this
  have lp := pairs_len c2
  have hp' : H1 p = some (.lst (ks.map fun p => V.ref p.1)) := by rw [hp, ex]
  refine ⟨_, rfl, p, ks, rfl, SqL.of hp', et, by omega, fun sa L ns hsub hall => ?_⟩
  have s2 := same_new (o := SetTO P w sa L) ns
  refine ⟨sa, L, rfl, upd_same, fun q hq => same_tup s2 (et q (hsub q hq)), fun nd => ?_⟩
  refine ⟨_, rfl, p, _, rfl, .inl (SqL.of (s2 _ _ hp)), rfl, ?_⟩
  have sz := set_size (M := L.map (·.2)) (ks := ks.map (·.2)) nd (fun x hx => by
    obtain ⟨q, hq, e⟩ := List.mem_map.mp hx
    exact List.mem_map.mpr ⟨q, hsub q hq, e⟩) (fun x hx => by
    obtain ⟨q, hq, e⟩ := List.mem_map.mp hx
    rw [← e]
    exact hall q hq)
  rw [List.length_map, List.length_map, ek, keys_nodup] at sz
  have lxs := cv.length
  have fin : decide (V.int ((L.length : Nat) : Int) = V.int (xs.length : Int)) = (tell l).isSome := by
    by_cases hn : (pairsOf (Ti01.ints l)).Nodup
    · rw [tell_well ⟨c2, by omega, c3, low, hn⟩]
      exact decide_eq_true (by rw [sz.mpr hn, lk, lxs])
    · rw [tell_not (fun h => hn h.nd)]
      refine decide_eq_false ?_
      intro z
      injection z with z
      exact hn (sz.mp (by omega))
  rw [fin]
  exact k _ (s1.trans s2)
end
end Oc
namespace Oc
open PySem PySem.Spec PyProof.Rows L2
theorem pairs_box : ∀ l : List Nat, (∀ x ∈ l, x ≤ 11) → ∀ c ∈ pairsOf (Ti01.ints l), 0 ≤ c.1 ∧ c.1 ≤ 11 ∧ 0 ≤ c.2 ∧ c.2 ≤ 11
  | [], _, c, h => by simp [Ti01.ints, pairsOf] at h
  | [_], _, c, h => by simp [Ti01.ints, pairsOf] at h
  | x :: y :: l, hl, c, h => by
    have e : pairsOf (Ti01.ints (x :: y :: l)) = ((x : Int), (y : Int)) :: pairsOf (Ti01.ints l) := rfl
    rw [e] at h
    rcases List.mem_cons.mp h with h | h
    · subst h
      have h1 := hl x (by simp)
      have h2 := hl y (by simp)
      refine ⟨?_, ?_, ?_, ?_⟩
      · show (0 : Int) ≤ (x : Int); omega
      · show (x : Int) ≤ 11; omega
      · show (0 : Int) ≤ (y : Int); omega
      · show (y : Int) ≤ 11; omega
    · exact pairs_box l (fun z hz => hl z (by simp [hz])) c h
theorem board_nodup : (bd1 14).Nodup := by decide +kernel
theorem around_bd (cs : List Cell) : Ti01.around cs = (bd1 14).filter fun c => !cs.contains c := rfl
theorem around_nodup (cs : List Cell) : (Ti01.around cs).Nodup := by
  rw [around_bd]
  exact board_nodup.filter _
theorem around_len (cs : List Cell) : (Ti01.around cs).length ≤ 196 := by
  rw [around_bd]
  refine Nat.le_trans (List.length_filter_le _ _) ?_
  rw [bd1_len]
  decide
theorem around_cons {cs : List Cell} (h : ∀ c ∈ cs, 0 ≤ c.1 ∧ c.1 ≤ 11 ∧ 0 ≤ c.2 ∧ c.2 ≤ 11) : ∃ c0 r, Ti01.around cs = c0 :: r := by
  have : ((-1, -1) : Cell) ∈ Ti01.around cs := (Geo.mem_around cs _).mpr ⟨by decide, fun hm => by have := (h _ hm).1; revert this; decide⟩
  cases e : Ti01.around cs with
  | nil => rw [e] at this; cases this
  | cons c0 r => exact ⟨c0, r, rfl⟩
/-- the refusal of a shape; 0: none -/
def refus (l : List Nat) : Int := match tell l with
  | none => -1
  | some t => if Ti01.whole t = true then 0 else -6
section
variable {P : Program} {w : World} {K : PySem.W.Frag} {mg : Str → Option Value} {base : Heap}
/-! ### shape_refusal -/
abbrev sRef : Stmt := top 17
def spRef : Sp := fun vs H Q _ => ∃ a l, vs = [.ref a] ∧ H a = some (.lst (nv l)) ∧ l.length ≤ 1000 ∧ ∀ H', Same H H' → Q (.int (refus l)) H'
theorem scRef : FnScope ["numbers", "squares"] ["numbers"] (defScope sRef) := ⟨rfl, rfl, rfl, by decide +kernel, rfl, by decide +kernel, by decide +kernel⟩
theorem ok_ref {f : Addr} {fd : FuncData} (F : Fun K "shape_refusal" "shape_refusal" sRef f fd) (cW : Cal P w K mg base "is_well_told" 2 ["numbers"] spWell)
    (cS : Cal P w K mg base "squares_of" 1 ["numbers"] spSq) (cJ : Cal P w K mg base "is_joined" 2 ["places"] spJoin) (cO : Cal P w K mg base "outside_of" 1 ["squares"] spOut) : FnOk P w K mg base CX0 3 f fd ["numbers"] spRef := by
  obtain ⟨fS, fdS, gS, kS, bS, oS⟩ := cS
  obtain ⟨fW, fdW, gW, kW, bW, oW⟩ := cW
  obtain ⟨fJ, fdJ, gJ, kJ, bJ, oJ⟩ := cJ
  obtain ⟨fO, fdO, gO, kO, bO, oO⟩ := cO
  refine F.ok scRef (fun vs H Q E h => ?_) (fun cdv A outer s H vs Q E hr h => ?_)
  · obtain ⟨a, l, rfl, _⟩ := h
    rfl
  have hr1 : Room 1 _ := hr.mono (by decide)
  refine ⟨_, pss_cons (ps_if (pt_not (pt_val (pe_call oW hr rfl gW kW bW .nil pass0 (pa_cons (pv 0) pa_nil)))) (pss_one (ps_ret (pe_un un_neg pe_int))) pss_nil)
    (pss_cons (ps_set (i := 1) scRef.nd rfl (.inl rfl) (pe_call oS hr1 rfl gS kS bS .nil pass0 (pa_cons (pv 0) pa_nil)))
    (pss_cons (ps_if (PW.pt (pw_or (pt_not (pt_val (pe_call oJ hr rfl gJ kJ bJ .nil pass0 (pa_cons (pv 1) pa_nil))))
      (pw_or1 (pt_not (pt_val (pe_call oJ hr rfl gJ kJ bJ .nil pass0 (pa_cons (pe_call oO hr1 rfl gO kO bO .nil pass0 (pa_cons (pv 1) pa_nil)) pa_nil)))))))
      (pss_one (ps_ret (pe_un un_neg pe_int))) pss_nil)
    (pss_one (ps_ret pe_int)))), ?_⟩
  obtain ⟨a, l, rfl, ha, hlen, k⟩ := h
  have ha' : H a = some (.lst (iv (Ti01.ints l))) := by rw [ha, nv_iv]
  refine ⟨_, rfl, a, l, rfl, ha, hlen, fun H1 s1 => ⟨_, rfl, ?_⟩⟩
  by_cases hw : Well l
  case neg =>
    rw [tell_not hw]
    refine if_true_of rfl ⟨_, rfl, ?_⟩
    have := k H1 s1
    unfold refus at this
    rw [tell_not hw] at this
    exact this
  have tw := tell_well hw
  rw [tw]
  refine if_false_of rfl ?_
  have lp := pairs_len hw.even
  have few := hw.few
  have pos := hw.pos
  have even := hw.even
  have box := pairs_box l hw.low
  have nd := hw.nd
  refine ⟨_, rfl, a, Ti01.ints l, l.length / 2, rfl, s1 _ _ ha', by rw [ints_len]; omega, by omega, fun H2 p s2 hp => ?_⟩
  have fin : refus l = if Ti01.whole (pairsOf (Ti01.ints l)) = true then 0 else -6 := by
    unfold refus
    rw [tw]
  generalize pairsOf (Ti01.ints l) = cs at hp lp box nd fin
  obtain ⟨c0, r, ecs⟩ : ∃ c0 r, cs = c0 :: r := by
    cases cs with
    | nil => simp at lp; omega
    | cons c0 r => exact ⟨c0, r, rfl⟩
  obtain ⟨c1, r1, ear⟩ := around_cons box
  have an := around_nodup cs
  have al := around_len cs
  have jo : Ti01.whole cs = (Ti01.joined cs && Ti01.joined (Ti01.around cs)) := rfl
  refine ⟨_, rfl, p, c0, r, rfl, by rw [← ecs]; exact hp, by rw [← ecs]; exact nd, by rw [← ecs]; omega, fun H3 s3 => ⟨_, rfl, ?_⟩⟩
  rw [← ecs]
  cases h1 : Ti01.joined cs with
  | false =>
    refine if_true_of rfl (if_true_of rfl ⟨_, rfl, ?_⟩)
    have := k H3 (s1.trans (s2.trans s3))
    rw [fin, jo, h1, Bool.false_and, if_neg Bool.false_ne_true] at this
    exact this
  | true =>
    refine if_false_of rfl ?_
    refine ⟨_, rfl, p, cs, rfl, hp.same s3, fun H4 q s4 hq => ?_⟩
    rw [ear] at hq an al
    refine ⟨q, c1, r1, rfl, hq, an, by omega, fun H5 s5 => ⟨_, rfl, ?_⟩⟩
    have sAll := s1.trans (s2.trans (s3.trans (s4.trans s5)))
    rw [← ear]
    cases h2 : Ti01.joined (Ti01.around cs) with
    | false =>
      refine if_true_of rfl ⟨_, rfl, ?_⟩
      have := k H5 sAll
      rw [fin, jo, h2, Bool.and_false, if_neg Bool.false_ne_true] at this
      exact this
    | true =>
      refine if_false_of rfl ?_
      have := k H5 sAll
      rw [fin, jo, h1, h2, Bool.and_true, if_pos rfl] at this
      exact this
end
end Oc
namespace Oc
open PySem PySem.Spec PyProof.Rows L2
/-! ### the steps by their corners: the mathematics -/
def outN (cs : List Cell) (c : Cell) (n : Nat) : List Geo.Ed := ((List.range n).filter fun k => !cs.contains ((Ti01.near c).getD k (0, 0))).map fun k => ((corn c).getD k (0, 0), (k + 1) % 4)
def edgesIn (cs ds : List Cell) : List Geo.Ed := ds.flatMap fun c => outN cs c 4
def stepsK (es : List Geo.Ed) : List (List Key × V) := es.foldl (fun kvs e => putK kvs (ck e.1) (.int ((e.2 : Nat) : Int))) []
theorem stepsK_more (es : List Geo.Ed) (e : Geo.Ed) : stepsK (es ++ [e]) = putK (stepsK es) (ck e.1) (.int ((e.2 : Nat) : Int)) := by
  unfold stepsK
  rw [List.foldl_append]
  rfl
theorem stepsK_len : ∀ (es : List Geo.Ed) (kvs : List (List Key × V)), (es.foldl (fun kvs e => putK kvs (ck e.1) (.int ((e.2 : Nat) : Int))) kvs).length ≤ kvs.length + es.length
  | [], _ => Nat.le_refl _
  | e :: es, kvs => by
    have := stepsK_len es (putK kvs (ck e.1) (.int ((e.2 : Nat) : Int)))
    have := length_putK kvs (ck e.1) (.int ((e.2 : Nat) : Int))
    simp only [List.foldl_cons, List.length_cons]
    omega
theorem outN_succ (cs : List Cell) (c : Cell) (n : Nat) : outN cs c (n + 1) = outN cs c n ++ if cs.contains ((Ti01.near c).getD n (0, 0)) = true then [] else [((corn c).getD n (0, 0), (n + 1) % 4)] := by
  unfold outN
  rw [List.range_succ, List.filter_append, List.map_append]
  congr 1
  cases h : cs.contains ((Ti01.near c).getD n (0, 0))
  · rw [List.filter_cons_of_pos (by rw [h]; rfl), if_neg Bool.false_ne_true]
    rfl
  · rw [List.filter_cons_of_neg (by rw [h]; decide), if_pos rfl]
    rfl
theorem outN_len (cs : List Cell) (c : Cell) (n : Nat) : (outN cs c n).length ≤ n := by
  unfold outN
  rw [List.length_map]
  exact Nat.le_trans (List.length_filter_le _ _) (by simp)
theorem edgesIn_len (cs : List Cell) : ∀ ds : List Cell, (edgesIn cs ds).length ≤ 4 * ds.length
  | [] => by simp [edgesIn]
  | d :: ds => by
    have := edgesIn_len cs ds
    have := outN_len cs d 4
    unfold edgesIn at *
    rw [List.flatMap_cons, List.length_append, List.length_cons]
    omega
theorem edgesIn_take {cs ds : List Cell} {i : Nat} {c : Cell} (h : ds[i]? = some c) : edgesIn cs (ds.take (i + 1)) = edgesIn cs (ds.take i) ++ outN cs c 4 := flat_take _ h
section
variable {P : Program} {w : World} {K : PySem.W.Frag} {mg : Str → Option Value} {base : Heap}
/-! ### steps_by_corner -/
abbrev sSteps : Stmt := top 19
def spSteps : Sp := fun vs H Q _ => ∃ a cs, vs = [.ref a] ∧ CellsAt H a cs ∧ cs.length ≤ 1000 ∧ ∀ H' p, Same H H' → H' p = some (.dT (stepsK (edgesIn cs cs))) → Q (.ref p) H'
theorem scSteps : FnScope ["squares", "steps", "square", "starts", "k", "beside"] ["squares"] (defScope sSteps) := ⟨rfl, rfl, rfl, by decide +kernel, rfl, by decide +kernel, by decide +kernel⟩
theorem ok_steps {f : Addr} {fd : FuncData} (F : Fun K "steps_by_corner" "steps_by_corner" sSteps f fd) (me : mg "enumerate" = none) (cN : Cal P w K mg base "neighbours" 1 ["place"] spNear) (cC : Cal P w K mg base "corners" 1 ["square"] spCor) : FnOk P w K mg base CX0 2 f fd ["squares"] spSteps := by
  obtain ⟨fN, fdN, gN, kN, bN, oN⟩ := cN
  obtain ⟨fC, fdC, gC, kC, bC, oC⟩ := cC
  refine F.ok scSteps (fun vs H Q E h => ?_) (fun cdv A outer s H vs Q E hr h => ?_)
  · obtain ⟨a, cs, rfl, _⟩ := h
    rfl
  have hu := hu_of hr
  refine ⟨_, pss_cons (ps_set (i := 1) scSteps.nd rfl (.inl rfl) pe_dnewT)
    (pss_cons (ps_for PassesOwn.never rfl (pi_list (pv 0)) (pg_name (i := 2) scSteps.nd rfl (Or.inl rfl))
      (pss_cons (ps_set (i := 3) scSteps.nd rfl (.inl rfl) (pe_call oC hr rfl gC kC bC .nil pass0 (pa_cons (pv 2) pa_nil)))
      (pss_one (ps_for PassesOwn.never rfl (pi_enum (by rfl) me (pa_cons (pe_call oN hr rfl gN kN bN .nil pass0 (pa_cons (pv 2) pa_nil)) pa_nil))
        (pg_tup rfl (pgs_cons (pg_name (i := 4) scSteps.nd rfl (.inl rfl)) (pgs_cons (pg_name (i := 5) scSteps.nd rfl (.inl rfl)) pgs_nil)))
        (pss_one (ps_if (pt_cmpR (op_notInD (hu65 hr)) (pv 5) (pv 0) rfl)
          (pss_one (ps_dput hu (pv 1) (pe_ix ix_list (pv 3) (pv 4) (fun _ _ => rfl)) (pe_op op_mod (pe_op op_add (pv 4) pe_int) pe_int) rfl)) pss_nil))))))
    (pss_one (ps_ret (pv 1)))), ?_⟩
  obtain ⟨a, cs, rfl, ⟨xs, ha, cv⟩, hlen, k⟩ := h
  have lx := cv.length
  refine fun st ns => ?_
  refine ⟨_, rfl, a, rfl, ⟨_, SqL.of (same_new ns _ _ ha)⟩, for_list (K := _) (a := a) (xs := xs) (fun i σ H' => ∃ v2 v3 v4 v5, σ = [some (.ref a), some (.ref st), v2, v3, v4, v5] ∧ Same H H' ∧ H' st = some (.dT (stepsK (edgesIn cs (cs.take i))))) ⟨none, none, none, none, rfl, same_new ns, upd_same⟩ (fun i σ H' _ ⟨_, _, _, _, _, s1, _⟩ => SqL.of (s1 _ _ ha)) ?_ ?_⟩
  · rintro i x σ H1 hx ⟨v2, v3, v4, v5, rfl, s1, hs⟩
    obtain ⟨c, hc, tc⟩ := cv.at hx
    refine ⟨_, rfl, x, c, rfl, tc.same s1, fun H2 q s2 hq => ?_⟩
    refine ⟨_, rfl, x, c, rfl, tc.same (s1.trans s2), fun H3 p s3 pn ⟨zs, hz, cvz⟩ => ?_⟩
    refine ⟨p, _, rfl, SqL.of hz, for_it (walk_enum (K := _) (a := p) (xs := zs)) (fun j σ H' => ∃ v4 v5, σ = [some (.ref a), some (.ref st), some x, some (.ref q), v4, v5] ∧ Same H H' ∧ H' st = some (.dT (stepsK (edgesIn cs (cs.take i) ++ outN cs c j))) ∧ H' p = some (.lst zs) ∧ CellsV H' zs (Ti01.near c) ∧ CellsAt H' q (corn c)) ?_ ?_ ?_ ?_⟩
    · refine ⟨v4, v5, rfl, s1.trans (s2.trans s3), ?_, hz, cvz, hq.same s3⟩
      rw [show outN cs c 0 = [] from rfl, List.append_nil]
      exact s3 _ _ (s2 _ _ hs)
    · rintro j σ H' _ ⟨_, _, _, _, _, hp, _⟩
      exact SqL.of hp
    · rintro j y σ H' H'' hj ⟨v4, v5, rfl, s4, hs4, hp4, cv4, cq4⟩ hy
      obtain ⟨T, x1, y1, rfl, nT, rfl, e1, e2⟩ := hy
      obtain rfl : V.int (j : Int) = x1 := Option.some.inj e1
      have e2' : zs[j]? = some y1 := e2
      have sT := same_new (o := .tup [V.int (j : Int), y1]) nT
      obtain ⟨cb, hcb, tb⟩ := cv4.at e2'
      have gcb : (Ti01.near c).getD j (0, 0) = cb := by
        rw [List.getD_eq_getElem?_getD, hcb]
        rfl
      have j4 : j < 4 := by
        rw [cvz.length] at hj
        exact hj
      refine ⟨T, _, rfl, SqT.of upd_same, rfl, _, _, rfl, _, _, rfl, rfl, ?_⟩
      have cvA := cv.same (s4.trans sT)
      refine ⟨_, rfl, _, rfl, dCell cb, _, (tb.same sT).dp, .lst (SqL.of (sT _ _ (s4 _ _ ha))) cvA.dp, dCell_shaped _, dCells_shaped _, _, rfl, ?_⟩
      rw [dCells_in]
      have os := outN_succ cs c j
      rw [gcb] at os
      cases hcs : cs.contains cb with
      | true =>
        rw [hcs, if_pos rfl, List.append_nil] at os
        refine if_false_of rfl ⟨_, _, rfl, s4.trans sT, ?_, sT _ _ hp4, cv4.same sT, cq4.same sT⟩
        rw [os]
        exact sT _ _ hs4
      | false =>
        rw [hcs, if_neg Bool.false_ne_true] at os
        refine if_true_of rfl ?_
        obtain ⟨ws, hw, cw⟩ := cq4.same sT
        have lw := cw.length
        have hwj : ws[j]? = some (ws[j]'(by rw [lw]; exact j4)) := List.getElem?_eq_getElem _
        generalize ws[j]'(by rw [lw]; exact j4) = wj at hwj
        obtain ⟨cc, hcc, tcc⟩ := cw.at hwj
        have gcc : (corn c).getD j (0, 0) = cc := by
          rw [List.getD_eq_getElem?_getD, hcc]
          rfl
        obtain ⟨b, rfl, hb⟩ := tcc.key
        rw [gcc] at os
        have hst := sT _ _ hs4
        have le := edgesIn_len cs (cs.take i)
        have lo := outN_len cs c j
        have ls := stepsK_len (edgesIn cs (cs.take i) ++ outN cs c j) []
        rw [List.length_append, List.length_nil] at ls
        rw [List.length_take] at le
        refine ⟨_, rfl, _, _, rfl, rfl, _, _, rfl, rfl, (by show (0 : Int) < 4; decide), _, rfl, _, rfl, _, rfl, q, _, _, _, rfl, rfl, SqL.of hw, atI_nat hwj, st, _, rfl, DPut.t hst hb (size_lt (by show (stepsK _).length ≤ _; unfold stepsK; omega)), ?_⟩
        refine ⟨_, _, rfl, Same.upd_own (s4.trans sT) ns, ?_, ?_, (cv4.same sT).updD hst, ⟨ws, ?_, cw.updD hst⟩⟩
        · rw [upd_same, os, ← List.append_assoc, stepsK_more]
          show some (HO.dT (putK _ _ (V.int (((j : Int) + 1) % 4)))) = _
          rw [show ((j : Int) + 1) % 4 = (((j + 1) % 4 : Nat) : Int) by omega]
        · rw [upd_ne (ne_of (sT _ _ hp4) hst (by intro z; cases z))]
          exact sT _ _ hp4
        · rw [upd_ne (ne_of hw hst (by intro z; cases z))]
          exact hw
    · rintro σ H' ⟨v4, v5, rfl, s4, hs4, hp4, cv4, cq4⟩
      refine ⟨_, _, _, _, rfl, s4, ?_⟩
      rw [edgesIn_take hc]
      rw [cvz.length] at hs4
      exact hs4
  · rintro σ H1 ⟨v2, v3, v4, v5, rfl, s1, hs⟩
    rw [lx, List.take_length] at hs
    exact ⟨_, rfl, k _ _ s1 hs⟩
end
end Oc
namespace Oc
open PySem PySem.Spec PyProof.Rows L2
/-! ### min(squares, key=lambda square: (square[1], square[0])) -/
abbrev keyBody (x : Str) (p1 p2 p3 p4 p5 p6 p7 : Pos) : Expr := .Tuple [.Subscript (.Name x p1) (.Constant (.int 1) 0 p2) p3, .Subscript (.Name x p4) (.Constant (.int 0) 0 p5) p6] 0 p7
abbrev keyArgs (x : Str) (p : Pos) : Arguments := { posonlyargs := [], args := [{ arg := x, annotation := none, pos := p }], vararg := none, kwonlyargs := [], kw_defaults := [], kwarg := none, defaults := [] }
abbrev keyScope (x : Str) : Scope := { kind := .function, names := [(x, .local)], isGenerator := false, isCoroutine := false }
section
variable {prog : Program} {w : World} {A : Around} {E : Value → Shared → Prop} {s : Shared}
theorem key_item {env : Env} {x : Str} {b : Addr} {u v r : Value} {k : Int} {j : Nat} {p1 p2 p3 : Pos} {m : Str → Option Value} {Q : Value → Shared → Prop} (hk : env.scope.kind = .function) (hx : env.scope.names.lookup x = some .local) (hn : s.heap.Ns env.locals m) (hm : m x = some (.ref b))
    (ht : IsTup s.heap b #[u, v]) (hlo : -(2 ^ 63) ≤ k) (hhi : k < 2 ^ 63) (hj : seqIndex? k 2 = some j) (hr : (#[u, v] : Array Value)[j]? = some r) (hd : (x == ("__debug__" : Str)) = false)
    (hQ : ∀ tk, s.toks ≤ tk → Q r { s with toks := tk }) :
    wpAny (model prog w) A (eval (.Subscript (.Name x p1) (.Constant (.int k) 0 p2) p3) env) Q E s := by
  refine Subscript_ (wpAny_Name (wpAny_loadName_local hk hx hn hm ?_) hd)
  refine wpAny_Constant_int ?_
  refine subscriptTail_builtinR (x := r) (T := "tuple") ?_ slot_tuple_getitem.lookup (getItem_tuple (j := j) (Q := fun z s' => z = r ∧ Q z s') (items := #[u, v]) ?_ hlo hhi hj hr ⟨rfl, ?_⟩) (by rfl)
  · exact ht.typeIs
  · exact ht
  · exact hQ _ (by show s.toks ≤ s.toks + 1; omega)
theorem lam_key {f b c' : Addr} {x qual : Str} {u v pm ctv : Value} {p0 p1 p2 p3 p4 p5 p6 p7 : Pos} {Q : Value → Shared → Prop} (hdep : A.depth < recursionLimit) (lim : s.heap.NoLimit) (hd : (x == ("__debug__" : Str)) = false)
    (ho : s.heap.get? f = some (PySem.W.kla_obj "<lambda>" qual (keyArgs x p0) (keyBody x p1 p2 p3 p4 p5 p6 p7) (keyScope x) [] pm c' ctv)) (hcd : s.heap.CodeRec (.ref c') qual) (ht : IsTup s.heap b #[u, v])
    (hb : bindArgs (PySem.W.kla_fn "<lambda>" qual (keyArgs x p0) (keyBody x p1 p2 p3 p4 p5 p6 p7) (keyScope x) [] pm (.ref c') ctv) ⟨[.ref b], []⟩ = pure [(x, .ref b)])
    (hQ : ∀ h' tk t, (∀ a o, s.heap.get? a = some o → h'.get? a = some o) → s.heap.objs.size ≤ t → IsTup h' t #[v, u] → s.toks ≤ tk → Q (.ref t) { s with heap := h', toks := tk }) :
    wpAny (model prog w) A (call (.ref f) [.ref b]) Q E s := by
  refine wpAny_call ?_
  refine PySem.W.kla_callFunE hdep ho rfl rfl rfl rfl hcd ?_
  rw [hb]
  refine wpAny_pure (wpAny_newFunctionEnv (by intro y hy; simp at hy; subst hy; simp) (by intro y hy; simp at hy; subst hy; simp) (fun h₁ hns hsb => ⟨lim.fresh _ hsb, ?_⟩) rfl)
  refine PySem.W.kla_codeExpr ?_
  have kp : ∀ a o, s.heap.get? a = some o → h₁.get? a = some o := fun a o e => hsb.extBut a o (Nat.ne_of_lt (Heap.lt_size e)) (Heap.get?_push_of_some _ e)
  have hm : ([(x, Value.ref b)] : List (Str × Value)).reverse.lookup x = some (.ref b) := by simp
  refine wpAny_Tuple_spliced ?_
  generalize henv : newEnv _ _ _ _ _ _ _ _ _ = env
  have k1 : env.scope.kind = .function := by rw [← henv]; rfl
  have k2 : env.scope.names.lookup x = some .local := by rw [← henv]; show List.lookup x [(x, NameKind.local)] = _; simp
  have k3 : env.locals = s.heap.objs.size := by rw [← henv]; rfl
  rw [← k3] at hns
  have hst : backTo p7 (starEach [.Subscript (.Name x p1) (.Constant (.int 1) 0 p2) p3, .Subscript (.Name x p4) (.Constant (.int 0) 0 p5) p6] env) =
    [(false, eval (.Subscript (.Name x p1) (.Constant (.int 1) 0 p2) p3) env), (false, eval (.Subscript (.Name x p4) (.Constant (.int 0) 0 p5) p6) env)] := by rfl
  rw [hst]
  refine Calls.spliced_cons (key_item (j := 1) (u := u) (v := v) (r := v) (b := b) k1 k2 hns hm (ht.keeps kp) (by decide) (by decide) rfl rfl hd fun t1 h1 => ?_)
  refine Calls.spliced_cons (key_item (j := 0) (u := u) (v := v) (r := u) (b := b) k1 k2 hns hm (ht.keeps kp) (by decide) (by decide) rfl rfl hd fun t2 h2 => ?_)
  refine Calls.spliced_nil ⟨by show 2 ≤ sizeLine; decide, ?_⟩
  refine hQ _ t2 _ (fun a o e => Heap.get?_push_of_some _ (kp a o e)) ?_ ⟨_, Heap.get?_push_size _ rfl, rfl, _, rfl⟩ ?_
  · have hlt := hns.lt
    rw [k3] at hlt
    exact Nat.le_of_lt hlt
  · have h1' : s.toks + 1 ≤ t1 := h1
    have h2' : t1 ≤ t2 := h2
    omega
/-! the lowest -/
def kle (a b : Cell) : Bool := decide (a.2 < b.2 ∨ (a.2 = b.2 ∧ a.1 < b.1))
def btOf (cs : List Cell) (i j : Nat) : Bool := kle (cs.getD i (0, 0)) (cs.getD j (0, 0))
theorem low_fold (cs : List Cell) : ∀ n, n < cs.length → cs.getD (argBest (btOf cs) n) (0, 0) = (cs.take (n + 1)).foldl (fun b c => if c.2 < b.2 ∨ (c.2 = b.2 ∧ c.1 < b.1) then c else b) (cs.headD (0, 0))
  | 0, h => by
    cases cs with
    | nil => simp at h
    | cons c r => simp [argBest]
  | n + 1, h => by
    have ih := low_fold cs n (by omega)
    have e : cs[n + 1]? = some (cs.getD (n + 1) (0, 0)) := by
      rw [List.getD_eq_getElem?_getD, List.getElem?_eq_getElem h]
      rfl
    rw [List.take_add_one (i := n + 1), e, List.foldl_append, ← ih]
    simp only [argBest, Option.toList_some, List.foldl_cons, List.foldl_nil]
    unfold btOf kle
    by_cases hc : (cs.getD (n + 1) (0, 0)).2 < (cs.getD (argBest (fun i j => decide ((cs.getD i (0, 0)).2 < (cs.getD j (0, 0)).2 ∨ ((cs.getD i (0, 0)).2 = (cs.getD j (0, 0)).2 ∧ (cs.getD i (0, 0)).1 < (cs.getD j (0, 0)).1))) n) (0, 0)).2 ∨ ((cs.getD (n + 1) (0, 0)).2 = (cs.getD (argBest (fun i j => decide ((cs.getD i (0, 0)).2 < (cs.getD j (0, 0)).2 ∨ ((cs.getD i (0, 0)).2 = (cs.getD j (0, 0)).2 ∧ (cs.getD i (0, 0)).1 < (cs.getD j (0, 0)).1))) n) (0, 0)).2 ∧ (cs.getD (n + 1) (0, 0)).1 < (cs.getD (argBest (fun i j => decide ((cs.getD i (0, 0)).2 < (cs.getD j (0, 0)).2 ∨ ((cs.getD i (0, 0)).2 = (cs.getD j (0, 0)).2 ∧ (cs.getD i (0, 0)).1 < (cs.getD j (0, 0)).1))) n) (0, 0)).1)
    · rw [if_pos hc, if_pos (decide_eq_true hc)]
    · rw [if_neg hc, if_neg (by rw [decide_eq_false hc]; decide)]
theorem low_best {cs : List Cell} (h : 0 < cs.length) : cs.getD (argBest (btOf cs) (cs.length - 1)) (0, 0) = Ti01.lowest cs := by
  rw [low_fold cs (cs.length - 1) (by omega), show cs.length - 1 + 1 = cs.length by omega, List.take_length]
  rfl
theorem best_le (cs : List Cell) : ∀ n, argBest (btOf cs) n ≤ n
  | 0 => by simp [argBest]
  | n + 1 => by
    have := best_le cs n
    simp only [argBest]
    split <;> omega
theorem lex_kle (a b : Cell) : HT.lexLt [a.2, a.1] [b.2, b.1] = kle a b := by
  simp only [HT.lexLt, kle]
  by_cases h : a.2 = b.2
  · rw [if_pos h]
    by_cases h2 : a.1 = b.1
    · rw [if_pos h2]
      exact (decide_eq_false (by omega)).symm
    · rw [if_neg h2]
      exact decide_eq_decide.mpr ⟨fun z => .inr ⟨h, z⟩, fun z => by omega⟩
  · rw [if_neg h]
    exact decide_eq_decide.mpr ⟨fun z => .inl z, fun z => by omega⟩
/-- what is kept while the keys are taken -/
def KeptS (s s' : Shared) : Prop := (∀ b o, s.heap.get? b = some o → s'.heap.get? b = some o) ∧ s'.gens = s.gens ∧ s'.drawn = s.drawn ∧ s'.os = s.os
theorem min_key {l f c' : Addr} {cs : List Cell} {items : Array Value} {x qual : Str} {pm ctv : Value} {p0 p1 p2 p3 p4 p5 p6 p7 : Pos} {Q : Value → Shared → Prop} (hdep : A.depth < recursionLimit) (hu : A.units + 1 < cLine) (hh : A.handled = none) (lim : s.heap.NoLimit) (hd : (x == ("__debug__" : Str)) = false)
    (ho : s.heap.get? f = some (PySem.W.kla_obj "<lambda>" qual (keyArgs x p0) (keyBody x p1 p2 p3 p4 p5 p6 p7) (keyScope x) [] pm c' ctv)) (hcd : s.heap.CodeRec (.ref c') qual)
    (hb : ∀ b, bindArgs (PySem.W.kla_fn "<lambda>" qual (keyArgs x p0) (keyBody x p1 p2 p3 p4 p5 p6 p7) (keyScope x) [] pm (.ref c') ctv) ⟨[.ref b], []⟩ = pure [(x, .ref b)])
    (hl : s.heap.IsList l items) (hsz : items.size = cs.length) (hne : 0 < cs.length)
    (hit : ∀ i v, items[i]? = some v → ∃ b tx ty, v = .ref b ∧ IsTup s.heap b #[.int (cs.getD i (0, 0)).1 tx, .int (cs.getD i (0, 0)).2 ty])
    (hQ : ∀ i v h' tk, items[i]? = some v → cs.getD i (0, 0) = Ti01.lowest cs → (∀ b o, s.heap.get? b = some o → h'.get? b = some o) → Q v { s with heap := h', toks := tk }) :
    wpAny (model prog w) A (call (.builtin "min") [.ref l] [(Str.ofString "key", .ref f)]) Q E s := by
  refine call_min_walkK (iter_any hl fun s₂ e2 st0 hne2 => ?_)
  have k2 : KeptS s s₂ := by
    subst e2
    exact ⟨fun b o e => Heap.get?_push_of_some _ e, rfl, rfl, rfl⟩
  have sz2 : s₂.heap.objs.size = s.heap.objs.size + 1 := by
    subst e2
    exact Heap.size_push ..
  refine ⟨s.heap.objs.size, _, _, _, _, _, _, KeptS s, (fun i k s' => ∃ t tx ty, k = .ref t ∧ IsTup s'.heap t #[.int (cs.getD i (0, 0)).2 ty, .int (cs.getD i (0, 0)).1 tx] ∧ t ≠ s₂.heap.objs.size ∧ t ≠ s.heap.objs.size), btOf cs, rfl, (Walks.list (A := A.in1) hh s.heap.objs.size l hne2 items).toS, st0, ?_, by rw [hsz]; exact hne, ?_, k2, ?_⟩
  · have hll : l < s.heap.objs.size := by
      obtain ⟨_, e, _⟩ := hl
      exact Heap.lt_size e
    intro b hb'
    rw [sz2]
    simp at hb'
    rcases hb' with e | e
    · rw [e]
      exact Nat.lt_succ_self _
    · rw [e]
      exact Nat.lt_succ_of_lt hll
  · refine ⟨?_, ?_, ?_, ?_⟩
    · rintro s1 s1' ⟨h1, h2, h3, h4⟩ m
      refine ⟨fun b o e => m.heap b o ?_ (h1 b o e), m.gens.trans h2, m.drawn.trans h3, m.os.trans h4⟩
      have lt := Heap.lt_size e
      simp only [List.mem_cons, List.not_mem_nil, or_false, not_or]
      refine ⟨fun z => ?_, fun z => ?_⟩
      · rw [z, sz2] at lt
        exact Nat.lt_irrefl _ (Nat.lt_of_succ_lt lt)
      · rw [z] at lt
        exact Nat.lt_irrefl _ lt
    · rintro i k s1 s1' ⟨t, tx, ty, rfl, ht, n1, n2⟩ m
      obtain ⟨o, e, r⟩ := ht
      exact ⟨t, tx, ty, rfl, ⟨o, m.heap t o (by simp only [List.mem_cons, List.not_mem_nil, or_false, not_or]; exact ⟨n1, n2⟩) e, r⟩, n1, n2⟩
    · intro i v s1 o Q1 E1 hi hP hJ hst hS hq
      obtain ⟨b, tx, ty, rfl, ht⟩ := hit i v hP
      obtain ⟨h1, h2, h3, h4⟩ := hJ
      have hI : s.heap.objs.size < s1.heap.objs.size := by
        obtain ⟨_, e, _⟩ := hst.1
        exact Heap.lt_size e
      have hS' : s₂.heap.objs.size < s1.heap.objs.size := Heap.lt_size hS
      refine lam_key (b := b) hdep (lim.keeps h1) hd (h1 _ _ ho) (hcd.keeps h1) (ht.keeps h1) (hb b) fun h' tk t kp ht1 ht2 htk => ?_
      refine hq (.ref t) _ ⟨fun b o e => kp _ _ (h1 b o e), h2, h3, h4⟩ ⟨hst.1.at fun o e => kp _ _ e, hst.2.at fun o e => kp _ _ e⟩ (kp _ _ hS) ⟨t, tx, ty, rfl, ht2, ?_, ?_⟩ ?_
      · exact Nat.ne_of_gt (Nat.lt_of_lt_of_le hS' ht1)
      · exact Nat.ne_of_gt (Nat.lt_of_lt_of_le hI ht1)
      · rintro j k' ⟨t', tx', ty', rfl, ht', n1, n2⟩
        exact ⟨t', tx', ty', rfl, ht'.keeps kp, n1, n2⟩
    · rintro i j ki kj s1 Q1 E1 hJ ⟨t1, tx1, ty1, rfl, h1, _⟩ ⟨t2, tx2, ty2, rfl, h2, _⟩ hq
      have hc := HT.lt_tupInts (prog := prog) (w := w) (A := A.in1) (E := E1) (Q := Q1) (ns := [(cs.getD i (0, 0)).2, (cs.getD i (0, 0)).1]) (ms := [(cs.getD j (0, 0)).2, (cs.getD j (0, 0)).1]) h1 h2 ?_ ?_ (by exact hu) ?_
      · exact hc
      · exact .cons _ _ (.cons _ _ .nil)
      · exact .cons _ _ (.cons _ _ .nil)
      · rw [lex_kle]
        exact hq
  · intro v s' hP hJ
    obtain ⟨h1, h2, h3, h4⟩ := hJ
    have e : s' = { s with heap := s'.heap, toks := s'.toks } := by
      obtain ⟨a1, a2, a3, a4, a5⟩ := s'
      simp only at h2 h3 h4
      subst h2 h3 h4
      rfl
    rw [e]
    rw [hsz] at hP
    exact hQ _ v s'.heap s'.toks hP (low_best hne) h1
end
end Oc
namespace Oc
open PySem PySem.Spec PyProof.Rows L2
def tMinLam (T : List (Addr × Str)) (te : TE) : TE := fun σ H Q => te σ H fun v H1 => LamX.Tabs T H1 ∧ ∃ a cs, [v] = [V.ref a] ∧ CellsAt H1 a cs ∧ 0 < cs.length ∧
  ∀ H2 v2, LamX.ExtN H1 H2 → LamX.Tabs T H2 → TupAt H2 v2 (Ti01.lowest cs) → Q v2 H2
theorem pe_minLam {X : Cx} {T : List (Addr × Str)} {c P : Addr} {k : Nat} {e : Expr} {te : TE} {p pos kp lp p0 p1 p2 p3 p4 p5 p6 p7 : Pos} (ha : PE X e te) (TB : LamX.TabB X.base X.mg c P) (hcode : X.env.code = .ref c)
    (hmT : (P, X.env.qual ++ "<lambda>") ∈ T) (huT : ∀ p ∈ T, p.1 = P → p.2 = X.env.qual ++ "<lambda>") (hr : Room k X.A) (hg : Gl X "min") (hm : X.mg "min" = none)
    (he : starEach [e] X.env = [(false, eval e X.env)]) :
    PE X (.Call (.Name "min" p) [e] [⟨some "key", .Lambda (keyArgs "square" p0) (keyBody "square" p1 p2 p3 p4 p5 p6 p7) (keyScope "square") lp, kp⟩] pos) (tMinLam T te) := by
  refine ⟨fun pins s σ H Q I h => ?_⟩
  refine wpAny_Call_Name_kw (ld_blt I hg hm (by decide +kernel : bootBuiltins "min" = some (.builtin "min")) ?_)
  refine PyProof.Rows.callWith_kw (thn ((pa_cons ha pa_nil he).run pos pins s σ H (fun vs H1 => LamX.Tabs T H1 ∧ ∃ a cs, vs = [.ref a] ∧ CellsAt H1 a cs ∧ 0 < cs.length ∧
      ∀ H2 v2, LamX.ExtN H1 H2 → LamX.Tabs T H2 → TupAt H2 v2 (Ti01.lowest cs) → Q v2 H2) I ?_) fun us s1 ⟨vs, H1, I1, r1, hT, a, cs, ev, hc, hne, q1⟩ => ?_) ?_ ?_ ?_ ?_
  · exact h
  · subst ev
    obtain ⟨u, rfl, ru⟩ := vals1 r1
    obtain rfl : u = .ref a := ru
    show wpAny _ _ (evalAll [do let v ← eval (.Lambda (keyArgs "square" p0) (keyBody "square" p1 p2 p3 p4 p5 p6 p7) (keyScope "square") lp) X.env; standAt pos; pure v]) _ _ s1
    refine wpAny_evalAll_cons (wpAny_bind (LamX.lam_make2 I1 TB hcode hmT huT hT rfl (by intro y hy z; simp at hy; subst hy; cases z) fun f c' pm ctv H2 s2 I2 eN T2 hf hfn hfr hco => wpAny_bind (wpAny_standAt (wpAny_pure ?_))))
    refine wpAny_evalAll_nil ?_
    show wpAny _ _ (call (.builtin "min") [.ref a] [(Str.ofString "key", .ref f)]) _ _ s2
    obtain ⟨xs, hx, cv⟩ := hc
    have hx2 := eN _ _ hx (by intro ps z; cases z)
    have cv2 : CellsV H2 xs cs := by
      clear hx hx2 hne q1
      induction cv with
      | nil => exact .nil
      | cons h _ ih =>
        obtain ⟨b, rfl, hb⟩ := h
        exact .cons ⟨b, rfl, eN _ _ hb (by intro ps z; cases z)⟩ ih
    obtain ⟨its, rv, pl, hz⟩ := I2.list (SqL.of hx2)
    obtain ⟨⟨oc, vs, t, hoc, hdc, hvc⟩, _, _⟩ := I2.hok c' _ hco
    have hlen : its.toArray.size = cs.length := by
      rw [List.size_toArray, ← cv2.length]
      exact rv.length.symm
    have item : ∀ (i : Nat) (v : Value), its.toArray[i]? = some v → ∃ xv, xs[i]? = some xv ∧ RelV xv v := by
      intro i v hv
      have hv' : its[i]? = some v := by simpa using hv
      have hi : i < its.length := (List.getElem?_eq_some_iff.mp hv').1
      have hi2 : i < xs.length := by rw [rv.length]; exact hi
      obtain ⟨w', ew, rw'⟩ := rv.get (List.getElem?_eq_getElem hi2)
      rw [hv'] at ew
      obtain rfl := Option.some.inj ew
      exact ⟨_, List.getElem?_eq_getElem hi2, rw'⟩
    refine min_key (cs := cs) hr.depth (hu_of hr) hr.hd I2.nolimit (by decide) hf ⟨c', oc, vs, t, rfl, hoc, hdc, hvc⟩ (fun b => rfl) pl.isList hlen hne (fun i v hv => ?_) (fun i v h' tk hv hlow kp => ?_)
    · obtain ⟨xv, hxv, rx⟩ := item i v hv
      obtain ⟨cc, hcc, b, rfl, hb⟩ := cv2.at hxv
      have gd : cs.getD i (0, 0) = cc := by
        rw [List.getD_eq_getElem?_getD, hcc]
        rfl
      rw [gd]
      obtain rfl : v = .ref b := rx
      obtain ⟨its2, r2, p2, _⟩ := I2.tuple (SqT.of hb)
      cases r2 with
      | cons ra rr =>
        cases rr with
        | cons rb rn =>
          cases rn
          obtain ⟨ta, rfl⟩ := ra
          obtain ⟨tb, rfl⟩ := rb
          exact ⟨b, ta, tb, rfl, p2⟩
    · obtain ⟨xv, hxv, rx⟩ := item i v hv
      obtain ⟨cc, hcc, tc⟩ := cv2.at hxv
      have gd : cs.getD i (0, 0) = cc := by
        rw [List.getD_eq_getElem?_getD, hcc]
        rfl
      refine ⟨xv, H2, I2.kept kp, rx, q1 H2 xv eN T2 ?_⟩
      rw [← hlow, gd]
      exact tc
  · rw [he]
    rfl
  · rw [he]
    rfl
  · rfl
  · rfl
end Oc
namespace Oc
open PySem PySem.Spec PyProof.Rows L2
/-! ### the steps by their corners are the edge's -/
theorem edges_mem (cs : List Cell) (e : Geo.Ed) : e ∈ edgesIn cs cs ↔ Geo.bd cs e := by
  unfold edgesIn
  rw [List.mem_flatMap]
  constructor
  · rintro ⟨c, hc, he⟩
    unfold outN at he
    rw [List.mem_map] at he
    obtain ⟨k, hk, rfl⟩ := he
    rw [List.mem_filter, List.mem_range] at hk
    obtain ⟨k4, hn⟩ := hk
    have hno : (Ti01.near c).getD k (0, 0) ∉ cs := fun h => by rw [List.contains_iff_mem.mpr h] at hn; cases hn
    have : k = 0 ∨ k = 1 ∨ k = 2 ∨ k = 3 := by omega
    rcases this with h | h | h | h <;> subst h
    · exact ⟨by simp, by simp only [corn, Ti01.leftOf, List.getD_cons_zero]; rw [Int.add_sub_cancel]; exact hc, hno⟩
    · exact ⟨by simp, by simp only [corn, Ti01.leftOf, List.getD_cons_zero, List.getD_cons_succ]; rw [Int.add_sub_cancel, Int.add_sub_cancel]; exact hc, by
        simp only [corn, Ti01.rightOf, List.getD_cons_zero, List.getD_cons_succ]
        rw [Int.add_sub_cancel]
        exact hno⟩
    · exact ⟨by simp, by simp only [corn, Ti01.leftOf, List.getD_cons_zero, List.getD_cons_succ]; rw [Int.add_sub_cancel]; exact hc, by
        simp only [corn, Ti01.rightOf, List.getD_cons_zero, List.getD_cons_succ]
        rw [Int.add_sub_cancel]
        exact hno⟩
    · exact ⟨by simp, hc, hno⟩
  · rintro ⟨hd, hl, hr⟩
    refine ⟨_, hl, ?_⟩
    obtain ⟨⟨px, py⟩, d⟩ := e
    unfold outN
    rw [List.mem_map]
    have hno : ∀ q : Cell, q ∉ cs → (!cs.contains q) = true := fun q hq => by
      cases h : cs.contains q
      · rfl
      · exact absurd (List.contains_iff_mem.mp h) hq
    have : d = 0 ∨ d = 1 ∨ d = 2 ∨ d = 3 := by simp only at hd; omega
    rcases this with h | h | h | h <;> subst h
    · refine ⟨3, List.mem_filter.mpr ⟨by decide, hno _ ?_⟩, ?_⟩
      · exact hr
      · rfl
    · refine ⟨0, List.mem_filter.mpr ⟨by decide, hno _ ?_⟩, ?_⟩
      · simp only [Ti01.near, Ti01.leftOf, List.getD_cons_zero, Int.sub_add_cancel]
        exact hr
      · simp [corn, Ti01.leftOf]
    · refine ⟨1, List.mem_filter.mpr ⟨by decide, hno _ ?_⟩, ?_⟩
      · simp only [Ti01.near, Ti01.leftOf, List.getD_cons_zero, List.getD_cons_succ, Int.sub_add_cancel]
        exact hr
      · simp [corn, Ti01.leftOf]
    · refine ⟨2, List.mem_filter.mpr ⟨by decide, hno _ ?_⟩, ?_⟩
      · simp only [Ti01.near, Ti01.leftOf, List.getD_cons_zero, List.getD_cons_succ]
        exact hr
      · simp [corn, Ti01.leftOf]
open Classical in
theorem keys_put (kvs : List (List Key × V)) (k : List Key) (v : V) : (putK kvs k v).map (·.1) = if k ∈ kvs.map (·.1) then kvs.map (·.1) else kvs.map (·.1) ++ [k] := by
  unfold putK
  have e : (kvs.any fun kv => decide (kv.1 = k)) = true ↔ k ∈ kvs.map (·.1) := by
    rw [List.any_eq_true, List.mem_map]
    constructor
    · rintro ⟨p, hp, h⟩
      exact ⟨p, hp, of_decide_eq_true h⟩
    · rintro ⟨p, hp, h⟩
      exact ⟨p, hp, decide_eq_true h⟩
  by_cases h : k ∈ kvs.map (·.1)
  · rw [if_pos (e.mpr h), if_pos h, List.map_map]
    apply List.map_congr_left
    intro p _
    show (if p.1 = k then (p.1, v) else p).1 = p.1
    split <;> rfl
  · rw [if_neg (fun z => h (e.mp z)), if_neg h, List.map_append]
    rfl
theorem stepsK_keys : ∀ (es : List Geo.Ed) (kvs : List (List Key × V)), (kvs.map (·.1)).Nodup → ((es.foldl (fun kvs e => putK kvs (ck e.1) (.int ((e.2 : Nat) : Int))) kvs).map (·.1)).Nodup ∧
    ∀ k, k ∈ (es.foldl (fun kvs e => putK kvs (ck e.1) (.int ((e.2 : Nat) : Int))) kvs).map (·.1) ↔ (k ∈ kvs.map (·.1) ∨ ∃ e ∈ es, k = ck e.1)
  | [], kvs, h => ⟨h, fun k => by simp⟩
  | e :: es, kvs, h => by
    rw [List.foldl_cons]
    have hk := keys_put kvs (ck e.1) (.int ((e.2 : Nat) : Int))
    have nd : ((putK kvs (ck e.1) (.int ((e.2 : Nat) : Int))).map (·.1)).Nodup := by
      rw [hk]
      split
      · exact h
      · rename_i hn
        rw [List.nodup_append]
        refine ⟨h, by simp, ?_⟩
        intro x hx y hy z
        rw [List.mem_singleton] at hy
        subst hy z
        exact hn hx
    obtain ⟨i1, i2⟩ := stepsK_keys es _ nd
    refine ⟨i1, fun k => ?_⟩
    rw [i2 k, hk]
    constructor
    · rintro (h1 | ⟨e', h1, h2⟩)
      · split at h1
        · exact .inl h1
        · rcases List.mem_append.mp h1 with h2 | h2
          · exact .inl h2
          · rw [List.mem_singleton] at h2
            exact .inr ⟨e, List.mem_cons_self .., h2⟩
      · exact .inr ⟨e', List.mem_cons_of_mem _ h1, h2⟩
    · rintro (h1 | ⟨e', h1, h2⟩)
      · left
        split
        · exact h1
        · exact List.mem_append_left _ h1
      · rcases List.mem_cons.mp h1 with h3 | h3
        · subst h3
          left
          split
          · rename_i h4
            rw [h2]
            exact h4
          · rw [h2]
            exact List.mem_append_right _ (List.mem_singleton.mpr rfl)
        · exact .inr ⟨e', h3, h2⟩
theorem stepsK_val (p : Cell) (d : Nat) : ∀ (es : List Geo.Ed) (kvs : List (List Key × V)), (∀ e ∈ es, e.1 = p → e.2 = d) → (valV kvs (ck p) = some (.int (d : Int)) ∨ (p, d) ∈ es) →
    valV (es.foldl (fun kvs e => putK kvs (ck e.1) (.int ((e.2 : Nat) : Int))) kvs) (ck p) = some (.int (d : Int))
  | [], kvs, _, h => by
    rcases h with h | h
    · exact h
    · cases h
  | e :: es, kvs, hu, h => by
    rw [List.foldl_cons]
    refine stepsK_val p d es _ (fun e' he' => hu e' (List.mem_cons_of_mem _ he')) ?_
    rw [valV_put]
    by_cases c : e.1 = p
    · left
      rw [if_pos (by rw [c]), hu e (List.mem_cons_self ..) c]
    · rw [if_neg (fun z => c (ck_inj z).symm)]
      rcases h with h | h
      · exact .inl h
      · rcases List.mem_cons.mp h with h2 | h2
        · exact absurd (by rw [← h2]) c
        · exact .inr h2
/-- the dict of a good shape -/
theorem steps_round {cs : List Cell} {b : Cell} {m : Nat} (r : Geo.Round cs b m) : (stepsK (edgesIn cs cs)).length = m ∧ ∀ i, valV (stepsK (edgesIn cs cs)) (ck (Geo.st cs b i).1) = some (.int (((Geo.st cs b i).2 : Nat) : Int)) := by
  constructor
  · obtain ⟨k1, k2⟩ := stepsK_keys (edgesIn cs cs) [] (by simp)
    have hl : ((Geo.seg cs b 0 m).map fun e => ck e.1).length = m := by rw [List.length_map, Geo.seg_len]
    have all_bd : ∀ e ∈ Geo.seg cs b 0 m, Geo.bd cs e := by
      intro e he
      obtain ⟨i, _, _, h3⟩ := (Geo.mem_seg cs b _ _ _).mp he
      rw [← h3]
      exact r.on i
    have nseg : (Geo.seg cs b 0 m).Nodup := by
      rw [List.nodup_iff_count]
      intro e
      by_cases hb : Geo.bd cs e
      · rw [r.once e hb]
        exact Nat.le_refl _
      · rw [List.count_eq_zero.mpr fun h => hb (all_bd e h)]
        exact Nat.zero_le _
    have nd2 : ((Geo.seg cs b 0 m).map fun e => ck e.1).Nodup := by
      rw [List.nodup_iff_pairwise_ne, List.pairwise_map]
      refine List.Pairwise.imp_of_mem ?_ nseg
      intro e1 e2 h1 h2 hne hk
      refine hne ?_
      have e := ck_inj hk
      obtain ⟨q1, d1⟩ := e1
      obtain ⟨q2, d2⟩ := e2
      simp only at e
      subst e
      rw [r.one q1 d1 d2 (all_bd _ h1) (all_bd _ h2)]
    have s1 := List.Nodup.length_le_of_subset k1 (l₂ := (Geo.seg cs b 0 m).map fun e => ck e.1) (by
      intro k hk
      rcases (k2 k).mp hk with h | ⟨e, he, h⟩
      · simp at h
      · rw [h, List.mem_map]
        refine ⟨e, ?_, rfl⟩
        have := r.once e ((edges_mem cs e).mp he)
        exact List.count_pos_iff.mp (by omega))
    have s2 := List.Nodup.length_le_of_subset nd2 (l₂ := (stepsK (edgesIn cs cs)).map (·.1)) (by
      intro k hk
      rw [List.mem_map] at hk
      obtain ⟨e, he, h⟩ := hk
      exact (k2 k).mpr (.inr ⟨e, (edges_mem cs e).mpr (all_bd e he), h.symm⟩))
    rw [hl] at s1 s2
    rw [List.length_map] at s1 s2
    unfold stepsK at *
    omega
  · intro i
    refine stepsK_val _ _ _ [] (fun e he hp => ?_) (.inr ((edges_mem cs _).mpr (r.on i)))
    have h1 := (edges_mem cs e).mp he
    obtain ⟨q, d⟩ := e
    simp only at hp
    subst hp
    exact r.one _ _ _ h1 (r.on i)
end Oc
namespace Oc
open PySem PySem.Spec PyProof.Rows L2
/-! ### all but the tables stays -/
theorem extN_same {H H' : Hp} (e : Same H H') : LamX.ExtN H H' := fun b o h _ => e b o h
theorem TupAt.ext {H H' : Hp} {v : V} {c : Cell} (h : TupAt H v c) (e : LamX.ExtN H H') : TupAt H' v c := by
  obtain ⟨b, rfl, hb⟩ := h
  exact ⟨b, rfl, e _ _ hb (by intro ps z; cases z)⟩
theorem CellsV.ext {H H' : Hp} {vs : List V} {cs : List Cell} (h : CellsV H vs cs) (e : LamX.ExtN H H') : CellsV H' vs cs := by
  induction h with
  | nil => exact .nil
  | cons h _ ih => exact .cons (h.ext e) ih
theorem ext_lst {H H' : Hp} {a : Addr} {xs : List V} (e : LamX.ExtN H H') (h : H a = some (.lst xs)) : H' a = some (.lst xs) := e _ _ h (by intro ps z; cases z)
theorem ext_dT {H H' : Hp} {a : Addr} {xs : List (List Key × V)} (e : LamX.ExtN H H') (h : H a = some (.dT xs)) : H' a = some (.dT xs) := e _ _ h (by intro ps z; cases z)
theorem CellsAt.ext {H H' : Hp} {a : Addr} {cs : List Cell} (h : CellsAt H a cs) (e : LamX.ExtN H H') : CellsAt H' a cs := by
  obtain ⟨xs, hx, hc⟩ := h
  exact ⟨xs, ext_lst e hx, hc.ext e⟩
theorem ext_own {H H1 : Hp} {p : Addr} {o : HO} (e : LamX.ExtN H H1) (h : ∀ u, H p = some u → ∃ ps, u = .tbl ps) : LamX.ExtN H (upd H1 p o) := fun b u q n => by
  rw [upd_ne]
  · exact e b u q n
  · intro z
    rw [z] at q
    obtain ⟨ps, hp⟩ := h u q
    exact n ps hp
theorem ext_free {H H1 : Hp} {p : Addr} (e : LamX.ExtN H H1) (h : H1 p = none) : ∀ u, H p = some u → ∃ ps, u = .tbl ps := by
  intro u q
  apply Classical.byContradiction
  intro ht
  rw [e _ _ q (fun ps z => ht ⟨ps, z⟩)] at h
  cases h
/-- a list or a dict written leaves the tables -/
theorem tabs_upd {T : List (Addr × Str)} {H : Hp} {p : Addr} {o : HO} {xs : List V} (hT : LamX.Tabs T H) (hp : H p = some (.lst xs)) : LamX.Tabs T (upd H p o) := by
  intro q hq
  obtain ⟨ps, h1, h2, h3⟩ := hT q hq
  refine ⟨ps, ?_, h2, fun pos cv hc => ?_⟩
  · rw [upd_ne (ne_of h1 hp (by intro z; cases z))]
    exact h1
  · obtain ⟨c, e1, e2⟩ := h3 pos cv hc
    refine ⟨c, e1, ?_⟩
    rw [upd_ne (ne_of e2 hp (by intro z; unfold LamX.CodeO at z; cases z))]
    exact e2
theorem atI_last {xs : List V} {y : V} : atI (xs ++ [y]) (-1) = some y := by
  unfold atI ixN
  have hl : (xs ++ [y]).length = xs.length + 1 := by simp
  rw [if_neg (by decide), hl, if_pos (by omega)]
  have e : (-1 + ((xs.length + 1 : Nat) : Int)).toNat = xs.length := by omega
  simp only [Option.bind_some]
  first
  | rw [e]; simp
  | simp
theorem near_ahead {p q : Cell} {d : Nat} (hd : d < 4) (h : q = Ti01.ahead p d) : (Ti01.near p)[d]? = some q := by
  have : d = 0 ∨ d = 1 ∨ d = 2 ∨ d = 3 := by omega
  rcases this with e | e | e | e <;> subst e <;> rw [h] <;> rfl
section
variable {P : Program} {w : World} {K : PySem.W.Frag} {mg : Str → Option Value} {base : Heap}
/-! ### edge_of -/
abbrev sEdge : Stmt := top 20
def lamName : Str := ("edge_of" : Str) ++ (".<locals>." : Str) ++ ("<lambda>" : Str)
def spEdge (PT : Addr) : Sp := fun vs H Q _ => ∃ a cs, vs = [.ref a] ∧ CellsAt H a cs ∧ LamX.Tabs [(PT, lamName)] H ∧ Geo.Good cs ∧ cs ≠ [] ∧ cs.length ≤ 12 ∧
  ∀ H' p, LamX.ExtN H H' → LamX.Tabs [(PT, lamName)] H' → H' p = some (.lst (nv (Ti01.edge cs))) → Q (.ref p) H'
theorem scEdge : FnScope ["squares", "steps", "corner", "edge"] ["squares"] (defScope sEdge) := ⟨rfl, rfl, rfl, by decide +kernel, rfl, by decide +kernel, by decide +kernel⟩
theorem ok_edge {f c PT : Addr} {fd : FuncData} (F : Fun K "edge_of" "edge_of" sEdge f fd) (ml : mg "len" = none) (mm : mg "min" = none) (TB : LamX.TabB base mg c PT) (hcode : fd.code = .ref c)
    (cS : Cal P w K mg base "steps_by_corner" 2 ["squares"] spSteps) (cN : Cal P w K mg base "neighbours" 1 ["place"] spNear) : FnOk P w K mg base CX0 3 f fd ["squares"] (spEdge PT) := by
  obtain ⟨fS, fdS, gS, kS, bS, oS⟩ := cS
  obtain ⟨fN, fdN, gN, kN, bN, oN⟩ := cN
  obtain ⟨oc, od, kV, doc, pm, an, cdv, ct, osl, rfl, lk, hcd⟩ := F.ex
  obtain rfl : cdv = .ref c := hcode
  refine fn_of lk hcd scEdge (fun vs H Q E h => ?_) fun A outer s H vs Q E hr h => ?_
  · obtain ⟨a, cs, rfl, _⟩ := h
    rfl
  have hu := hu_of hr
  have hr1 : Room 1 _ := hr.mono (by decide)
  suffices hx : ∃ t, PSs (cxOf CX0 P w K mg base ["squares", "steps", "corner", "edge"] "edge_of" (defScope sEdge) f (.ref c) A outer s H E).nox (defBody sEdge) t ∧ t { nx := fun _ H' => Q .non H', rt := Q } (L2.start ["squares", "steps", "corner", "edge"] vs) H by
    obtain ⟨t, h1, h2⟩ := hx
    exact ⟨t, h1.nox, h2⟩
  refine ⟨_, pss_cons (ps_set (i := 1) scEdge.nd rfl (.inl rfl) (pe_call oS hr rfl gS kS bS .nil pass0 (pa_cons (pv 0) pa_nil)))
    (pss_cons (ps_set (i := 2) scEdge.nd rfl (.inl rfl) (pe_minLam (T := [(PT, lamName)]) (pv 0) TB rfl (List.mem_singleton.mpr rfl) (by intro p hp _; rw [List.mem_singleton] at hp; subst hp; rfl) hr rfl mm rfl))
    (pss_cons (ps_set (i := 3) scEdge.nd rfl (.inl rfl) (pe_lst pa_nil))
    (pss_cons (ps_while PassesOwn.never (pt_cmpR op_lt (pe_callB call_len_seq (by rfl) ml PySem.boot_len (pa_cons (pv 3) pa_nil)) (pe_callB call_len_dT (by rfl) ml PySem.boot_len (pa_cons (pv 1) pa_nil)) (nomark _))
      (pss_cons (ps_expr (pe_bm PySem.F.plainAttrs_list PySem.F.slot_list_append PySem.F.type_list_append mt_append (pv 3) (pa_cons (pe_dget hu (pv 1) (pv 2) (fun _ _ => rfl)) pa_nil)))
      (pss_one (ps_set (i := 2) scEdge.nd rfl (.inl rfl) (pe_ix ix_list (pe_call oN hr1 rfl gN kN bN .nil pass0 (pa_cons (pv 2) pa_nil)) (pe_ix ix_list (pv 3) (pe_un un_neg pe_int) (fun _ _ => rfl)) (fun _ _ => rfl))))))
    (pss_one (ps_ret (pv 3)))))), ?_⟩
  obtain ⟨a, cs, rfl, hc, hT, good, hne, hlen, k⟩ := h
  obtain ⟨m, rd, ed⟩ := Geo.edge_round good hne
  obtain ⟨sl, sv⟩ := steps_round rd
  have m48 : m ≤ 48 := by
    have := rd.most
    omega
  refine ⟨_, rfl, a, cs, rfl, hc, by omega, fun H1 p1 s1 hp1 => ?_⟩
  refine ⟨_, rfl, hT.ext s1, a, cs, rfl, hc.same s1, List.length_pos_iff.mpr hne, fun H2 v2 eN T2 tv => ?_⟩
  refine ⟨by show 0 ≤ sizeLine; decide, fun e0 ne => ?_⟩
  have s3 := same_new (o := .lst []) ne
  have eA : LamX.ExtN H H2 := (extN_same s1).trans eN
  have e0H := ext_free eA ne
  generalize hb : Ti01.lowest cs = b at rd ed tv sv
  refine while_by (fun σ H' => ∃ (i : Nat) (v : V), σ = [some (.ref a), some (.ref p1), some v, some (.ref e0)] ∧ i ≤ m ∧ LamX.ExtN H H' ∧ LamX.Tabs [(PT, lamName)] H' ∧ H' p1 = some (.dT (stepsK (edgesIn cs cs))) ∧
    H' e0 = some (.lst (nv ((Geo.seg cs b 0 i).map (·.2)))) ∧ TupAt H' v (Geo.st cs b i).1) (fun _ H' => m - (match H' e0 with | some (.lst xs) => xs.length | _ => 0)) ?_ ?_ ?_
  · refine ⟨0, v2, rfl, Nat.zero_le _, eA.trans (extN_same s3), T2.ext s3, s3 _ _ (ext_dT eN hp1), upd_same, tv.same s3⟩
  · rintro σ H3 ⟨i, v, rfl, him, e3, T3, hp3, he3, tv3⟩
    have li : (nv ((Geo.seg cs b 0 i).map (·.2))).length = i := by rw [nv_len, List.length_map, Geo.seg_len]
    refine ⟨_, rfl, e0, _, rfl, .inl (SqL.of he3), _, rfl, p1, _, rfl, hp3, _, _, rfl, rfl, _, rfl, ?_⟩
    by_cases c1 : i < m
    case neg =>
      refine if_false_of (decide_eq_false (by rw [li, sl]; omega)) ?_
      have : i = m := by omega
      subst this
      rw [← ed] at he3
      exact ⟨_, rfl, k _ _ e3 T3 he3⟩
    refine if_true_of (decide_eq_true (by rw [li, sl]; omega)) ?_
    obtain ⟨bv, rfl, hbv⟩ := tv3.key
    refine ⟨_, rfl, .inl ⟨rfl, _, SqL.of he3⟩, _, rfl, _, rfl, p1, _, rfl, by rw [← sv i]; exact DGet.t hp3 hbv, e0, _, _, rfl, rfl, he3, size_lt (by omega), ?_⟩
    have eseg : nv ((Geo.seg cs b 0 i).map (·.2)) ++ [V.int (((Geo.st cs b i).2 : Nat) : Int)] = nv ((Geo.seg cs b 0 (i + 1)).map (·.2)) := by
      rw [Geo.seg_add cs b i 1 0, List.map_append, nv_append, Nat.zero_add]
      rfl
    have tv4 := tv3.upd (ys := nv ((Geo.seg cs b 0 i).map (·.2)) ++ [V.int (((Geo.st cs b i).2 : Nat) : Int)]) he3
    refine ⟨_, rfl, _, _, rfl, tv4, fun H5 q s5 qn ⟨zs, hz, cvz⟩ => ?_⟩
    have he5 := s5 _ _ (upd_same (H := H3) (a := e0) (o := .lst (nv ((Geo.seg cs b 0 i).map (·.2)) ++ [V.int (((Geo.st cs b i).2 : Nat) : Int)])))
    have d4 := (rd.on i).1
    have na := near_ahead (q := (Geo.st cs b (i + 1)).1) d4 rfl
    have hzl := cvz.length
    have hzd : zs[(Geo.st cs b i).2]? = some (zs[(Geo.st cs b i).2]'(by rw [hzl]; exact d4)) := List.getElem?_eq_getElem _
    generalize zs[(Geo.st cs b i).2]'(by rw [hzl]; exact d4) = zv at hzd
    obtain ⟨cc, hcc, tcc⟩ := cvz.at hzd
    rw [na] at hcc
    obtain rfl := Option.some.inj hcc
    refine ⟨_, rfl, _, rfl, e0, _, _, _, rfl, rfl, SqL.of he5, atI_last, q, _, _, _, rfl, rfl, SqL.of hz, atI_nat hzd, ?_⟩
    rw [eseg] at he5
    refine ⟨⟨i + 1, zv, rfl, by omega, (ext_own e3 e0H).trans (extN_same s5), (tabs_upd T3 he3).ext s5, s5 _ _ ?_, he5, tcc⟩, ?_⟩
    · rw [upd_ne (ne_of hp3 he3 (by intro z; cases z))]
      exact hp3
    · show m - (match H5 e0 with | some (.lst xs) => xs.length | _ => 0) < m - (match H3 e0 with | some (.lst xs) => xs.length | _ => 0)
      rw [he5, he3]
      simp only
      rw [li, nv_len, List.length_map, Geo.seg_len]
      omega
  · rintro σ H' Q1 Q2 mo ⟨x1, q1, a1, ys, q2, sq, x2, q3, p2, kv, q4, hq, i1, i2, q5, q6, b1, q7, q⟩
    exact ⟨x1, q1, a1, ys, q2, sq, x2, q3, p2, kv, q4, hq, i1, i2, q5, q6, b1, q7, mo _ _ q⟩
end
end Oc
namespace Oc
open PySem PySem.Spec PyProof.Rows L2
open PySem.W (WData Codec OpenSpec WellAll ReadsW)
/-! ### the end of a row whose program makes a lambda: the tables of its code objects are tracked from the start -/
def withT (H : Hp) (ts : List Addr) : Hp := fun b => if b ∈ ts then some (.tbl #[]) else H b
theorem withT_in {H : Hp} {ts : List Addr} {b : Addr} (h : b ∈ ts) : withT H ts b = some (.tbl #[]) := if_pos h
theorem withT_out {H : Hp} {ts : List Addr} {b : Addr} (h : b ∉ ts) : withT H ts b = H b := if_neg h
/-- what the head tells of a code object c and its table t -/
structure TabHd (h : Heap) (K : PySem.W.Frag) (ct : Addr × Addr) : Prop where
  emp : h.get? ct.2 = some { cls := .none, data := .fields #[] }
  off : K.lookup ct.2 = none
  hd : PySem.W.CodeHd h ct.1 ct.2
theorem tab_call {P : Program} {w : World} {K : PySem.W.Frag} {mg mb : Str → Option Value} {k : Nat} {fa : Addr} {fd : FuncData} {ps : List Str} {sp : Sp} {s₁ : Shared} {vals : List Value} {ds : List WData} {R : PySem.W.WRecords} {cl : Str → Option Addr} {d0 : WData} {ts : List (Addr × Addr)}
    (KX : K.In s₁.heap) (hns : s₁.heap.Ns mainGlobals mg) (hb : s₁.heap.Ns builtinsNs mb) (hbb : ∀ x : Str, x ≠ "__name__" → mb x = bootBuiltins x) (hlim : s₁.heap.NoLimit) (hg : s₁.gens = #[])
    (hbm : ∃ (bm : Addr) (ob : Obj), mg "__builtins__" = some (.ref bm) ∧ bm ≠ builtinsNs ∧ s₁.heap.get? bm = some ob ∧ ob.cls = .type "module" ∧ ob.dict = some builtinsNs ∧ ob.data = .plain)
    (hts : ∀ p ∈ ts, TabHd s₁.heap K p)
    (hwl : WellAll w.params s₁.heap vals ds) (hpl : plWs ds = true) (hwt : ∀ d ∈ ds, d.weight ≤ 1048576) (hr : Room k callerA)
    (F : ∀ base : Heap, K.In base → base.Ns mainGlobals mg → (∀ p ∈ ts, LamX.TabB base mg p.1 p.2) → FnOk P w K mg base CX0 k fa fd ps sp) (hbind : ∀ (s : Shared) (us : List Value), us.length = ps.length → BindsTo s fd ⟨us, []⟩ (ps.zip us)) (hlen : ds.length = ps.length)
    (hsp : ∀ (H H2 : Hp) (xs : List V), Same H H2 → (∀ p ∈ ts, H2 p.2 = some (.tbl #[])) → DwAll K H xs ds → sp xs H2 (fun v H' => Dw K H' v d0) fun _ _ _ => False) :
    codeAny (model P w) callerA (.call (.ref fa) ⟨vals, []⟩) (fun r s' => ∃ u as, r = .ok (.ret u) ∧ ReadsW R cl s'.heap u d0 as ∧ OldK s₁.heap s'.heap ∧ s'.os = s₁.os ∧ AllBare s'.gens) s₁ := by
  obtain ⟨A, hA, ar⟩ := area_all ds vals hwl hpl hwt
  have ok0 : HOk P w (argH K s₁.heap A) s₁.heap := argH_ok ar
  have only0 : OnlyF (argH K s₁.heap A) := argH_only ar
  have dw0 := dw_all KX ar ds vals hwl hpl hA
  have rv := vals_toV hA
  have isT : ∀ b, b ∈ ts.map (·.2) → ∃ p ∈ ts, p.2 = b := fun b h => List.mem_map.mp h
  -- an argument's object is a list or a tuple: no table, no dict, no plain thing
  have seqArg : ∀ b u, argH K s₁.heap A b = some u → K.lookup b = none ∧ ∃ (c : String) (vs : List Value), s₁.heap.get? b = some { cls := .type c, data := .seq vs.toArray } := by
    intro b u q
    obtain ⟨h1, vs, _, _, ⟨e, _⟩ | ⟨e, _⟩⟩ := argH_is ar q
    · exact ⟨h1, _, vs, e⟩
    · exact ⟨h1, _, vs, e⟩
  generalize argH K s₁.heap A = H at ok0 only0 dw0 seqArg
  have offT : ∀ b u, H b = some u → b ∉ ts.map (·.2) := by
    intro b u q hm
    obtain ⟨p, hp, e⟩ := isT b hm
    obtain ⟨_, c, vs, e2⟩ := seqArg b u q
    have e3 := (hts p hp).emp
    rw [e, e2] at e3
    cases e3
  have sm : Same H (withT H (ts.map (·.2))) := fun b u q => by rw [withT_out (offT b u q)]; exact q
  have ok1 : HOk P w (withT H (ts.map (·.2))) s₁.heap := by
    intro b u q
    by_cases hm : b ∈ ts.map (·.2)
    · rw [withT_in hm] at q
      cases q
      obtain ⟨p, hp, e⟩ := isT b hm
      have := (hts p hp).emp
      rw [e] at this
      exact this
    · rw [withT_out hm] at q
      exact (ok0 b u q).stay (fun _ _ _ z => z) (fun d z => sm _ _ z) fun d xs z => sm _ _ z
  have freeK : ∀ b o, K.lookup b = some o → withT H (ts.map (·.2)) b = none := by
    intro b o e
    by_cases hm : b ∈ ts.map (·.2)
    · obtain ⟨p, hp, e2⟩ := isT b hm
      have := (hts p hp).off
      rw [e2, e] at this
      cases this
    · rw [withT_out hm]
      cases q : H b with
      | none => rfl
      | some u =>
        rw [(seqArg b u q).1] at e
        cases e
  have freeO : ∀ b o, s₁.heap.get? b = some o → (∀ vs n, o.data ≠ .seq vs n) → o.data ≠ .fields #[] → withT H (ts.map (·.2)) b = none := by
    intro b o e n1 n2
    by_cases hm : b ∈ ts.map (·.2)
    · obtain ⟨p, hp, e2⟩ := isT b hm
      have e3 := (hts p hp).emp
      rw [e2, e] at e3
      cases e3
      exact absurd rfl n2
    · rw [withT_out hm]
      cases q : H b with
      | none => rfl
      | some u =>
        obtain ⟨_, c, vs, e2⟩ := seqArg b u q
        rw [e] at e2
        cases e2
        exact absurd rfl (n1 _ _)
  have tabIn : ∀ p ∈ ts, withT H (ts.map (·.2)) p.2 = some (.tbl #[]) := fun p hp => withT_in (List.mem_map.mpr ⟨p, hp, rfl⟩)
  have promise := hsp H (withT H (ts.map (·.2))) (vals.map toV) sm tabIn dw0
  have shape : ∀ b, withT H (ts.map (·.2)) b = none ∨ b ∈ ts.map (·.2) ∨ ∃ o u, withT H (ts.map (·.2)) b = some (.frz o u) := by
    intro b
    by_cases hm : b ∈ ts.map (·.2)
    · exact .inr (.inl hm)
    · rw [withT_out hm]
      rcases only0 b with z | z
      · exact .inl z
      · exact .inr (.inr z)
  clear ok0 only0 dw0 seqArg offT sm
  generalize withT H (ts.map (·.2)) = G at ok1 freeK freeO tabIn promise shape
  have toB : ∀ {b : Addr} {o : Obj}, s₁.heap.get? b = some o → G b = none → (hidT s₁.heap G).get? b = some o := fun e n => hidT_get e n
  have nsB : ∀ {b : Addr} {m : Str → Option Value}, s₁.heap.Ns b m → (hidT s₁.heap G).Ns b m := by
    rintro b m ⟨o, es, ep, e, d, r⟩
    refine ⟨o, es, ep, toB e (freeO b o e (fun vs n z => ?_) fun z => ?_), d, r⟩
    · rw [d] at z
      cases z
    · rw [d] at z
      cases z
  have kB : K.In (hidT s₁.heap G) := fun b o e => toB (KX b o e) (freeK b o e)
  have mB : L2.Mod K mg (hidT s₁.heap G) := ⟨kB, nsB hns, ⟨mb, nsB hb, hbb⟩, let ⟨mc, h1, h2⟩ := hlim; ⟨mc, nsB h1, h2⟩⟩
  have tB : ∀ p ∈ ts, LamX.TabB (hidT s₁.heap G) mg p.1 p.2 := by
    intro p hp
    have hemp := (hts p hp).emp
    refine ⟨?_, ?_, fun z => ?_⟩
    · obtain ⟨o, us, file, tf, flags, tg, inF, text, tt, e1, r1, r2, r3, rest⟩ := (hts p hp).hd
      refine ⟨o, us, file, tf, flags, tg, inF, text, tt, toB e1 (freeO _ o e1 (fun vs n z => ?_) fun z => ?_), r1, r2, r3, rest⟩
      · rw [r2] at z
        cases z
      · rw [r2] at z
        cases z
        simp at r3
    · obtain ⟨bm, ob, b1, b2, b3, b4, b5, b6⟩ := hbm
      have n1 : bm ≠ mainGlobals := fun q => by
        obtain ⟨o, es, ep, e, hd, _⟩ := hns
        rw [q, e] at b3
        cases b3
        rw [hd] at b6
        cases b6
      have n2 : bm ≠ p.2 := fun q => by
        rw [q, hemp] at b3
        cases b3
        cases b6
      refine ⟨bm, ob, b1, b2, n1, n2, toB b3 (freeO _ ob b3 (fun vs n z => ?_) fun z => ?_), b4, b5, b6⟩
      · rw [b6] at z
        cases z
      · rw [b6] at z
        cases z
    · obtain ⟨o, es, ep, e, hd, _⟩ := hns
      rw [z, hemp] at e
      cases e
      cases hd
  have e0 : Env0 P w K mg (hidT s₁.heap G) callerA [] s₁ G := ⟨rfl, mB, fun b o e => of_hidT e, Nat.le_of_eq (hidT_size _ _), trivial, fun b z => absurd (show b ∈ ([] : List Addr) from z) (by simp), ok1, .of_eq hg⟩
  have lv : vals.length = ps.length := by
    rw [← hlen]
    exact wellAll_len hwl
  refine codeAny_mono ((F _ kB (nsB hns) tB).run callerA [] s₁ G ⟨vals, []⟩ vals (vals.map toV) _ _ hr e0 (hbind s₁ vals lv) rv promise) fun r s' x => ?_
  match r, x with
  | .ok (.ret u), x =>
    obtain ⟨v, H', os, bare, un, ok', rr, q⟩ := x
    have keep : ∀ b o, b ∉ ts.map (·.2) → s₁.heap.get? b = some o → s'.heap.get? b = some o := by
      intro b o nb e
      rcases shape b with z | z | ⟨ob, u2, z⟩
      · exact un.keep b o e z (by intro y; exact absurd (show b ∈ ([] : List Addr) from y) (by simp)) (by simp)
      · exact absurd z nb
      · obtain ⟨e1, _⟩ := ok1 b _ z
        obtain ⟨e2, _⟩ := ok' b _ (un.frzs b ob _ z)
        rw [e] at e1
        cases e1
        exact e2
    have grown : ∀ p ∈ ts, ∃ more : Array Value, s'.heap.get? p.2 = some { cls := .none, data := .fields more } := by
      intro p hp
      obtain ⟨more, z⟩ := un.tbls p.2 #[] (tabIn p hp)
      exact ⟨_, ok' p.2 _ z⟩
    have kS : K.In s'.heap := fun b o e => keep b o (fun hm => by
      obtain ⟨p, hp, e2⟩ := isT b hm
      have := (hts p hp).off
      rw [e2, e] at this
      cases this) (KX b o e)
    obtain ⟨as, rd⟩ := Dw.reads (R := R) (cl := cl) ok' kS d0 v u q rr
    refine ⟨u, as, rfl, rd, ⟨fun b o e => ?_, fun b o e => ?_⟩, os, bare⟩
    · by_cases hm : b ∈ ts.map (·.2)
      · obtain ⟨p, hp, e2⟩ := isT b hm
        obtain ⟨more, hmo⟩ := grown p hp
        have hemp := (hts p hp).emp
        rw [← e2] at e ⊢
        rw [hemp] at e
        cases e
        exact .inr (.inl ⟨((hts p hp).hd.tab hemp).isCodeTable, rfl, #[], more, rfl, by rw [Array.empty_append]; exact hmo⟩)
      · exact .inl (keep b o hm e)
    · by_cases hm : b ∈ ts.map (·.2)
      · obtain ⟨p, hp, e2⟩ := isT b hm
        obtain ⟨more, hmo⟩ := grown p hp
        rw [← e2]
        exact ⟨_, hmo⟩
      · exact ⟨o, keep b o hm e⟩
  | .error e, x => exact (show False from x).elim
  | .ok .next, x => exact False.elim x
  | .ok .brk, x => exact False.elim x
  | .ok .cont, x => exact False.elim x
end Oc
namespace Oc
open PySem PySem.Spec PyProof.Rows L2
open PySem.W (WData Codec OpenSpec WellAll ReadsW)
theorem look_mem {β : Type} {a : Addr} {y : β} : ∀ {l : List (Addr × β)}, l.lookup a = some y → (a, y) ∈ l
  | [], h => by cases h
  | (b, z) :: l, h => by
    rw [List.lookup_cons] at h
    by_cases e : (a == b) = true
    · rw [e] at h
      cases h
      rw [eq_of_beq e]
      exact List.mem_cons_self ..
    · rw [Bool.eq_false_iff.mpr e] at h
      exact List.mem_cons_of_mem _ (look_mem h)
/-- a def's code object and its table, as the top leaves them -/
theorem tab_top {q : Program} {loose : List Str} {mean : ExcName → Option Value} {mg mb : Str → Option Value} {h : Heap} {K : PySem.W.Frag} (T : Top q loose mean mg mb h) (KX : K.In h) (hK : PySem.W.noTabs K = true) {d : DefRec} {name : Str}
    (hf : (recsOf q).find? (fun e => e.name == name) = some d) {f : Addr} {fd : FuncData} {oc : Value} {od : Option Addr} {sl : Array (Option Value)} (hm : mg name = some (.ref f)) (lk : K.lookup f = some ⟨oc, od, .func fd, sl⟩) :
    ∃ c t, fd.code = .ref c ∧ TabHd h K (c, t) := by
  have hn : d.name = name := beq_iff_eq.mp (List.find?_some (p := fun e : DefRec => e.name == name) hf)
  obtain ⟨a', o', fd', c, t, h1, h2, h3, h4, h5, h6⟩ := T.tab d (List.mem_of_find?_eq_some hf)
  rw [hn, hm] at h1
  cases h1
  rw [KX _ _ lk] at h2
  cases h2
  cases h3
  refine ⟨c, t, h4, h6.2, ?_, PySem.W.CodeHd.of h5 h6⟩
  cases e : K.lookup t with
  | none => rfl
  | some o =>
    have e2 := KX _ _ e
    rw [h6.2] at e2
    cases e2
    have hm2 := look_mem e
    have := List.all_eq_true.mp hK _ hm2
    cases this
theorem walk_tab {r : OpenSpec} {k : Nat} {q : Program} {loose : List Str} {XP : (Str → Option Value) → Heap → Prop} {YP : World → Heap → Prop} {d : DefRec} {K : Params → PySem.W.Frag} {ps : List Str}
    (hwell : r.wellSaid = true) (hdf : d.params.defaults = []) (hlen : r.args.length = ps.length) (hr : Room k callerA)
    (hY : ∀ (w : World) (h : Heap), YP w h → (K w.params).In h)
    (F : ∀ (w : World) (mg mb : Str → Option Value) (mean : ExcName → Option Value) (l2 : List Str) (fa : Addr) (h : Heap), YP w h → (K w.params).In h → Top q l2 mean mg mb h → mg d.name = some (.ref fa) →
      ∃ (fd : FuncData) (ts : List (Addr × Addr)) (sp : Sp), (∀ (s : Shared) (us : List Value), us.length = ps.length → BindsTo s fd ⟨us, []⟩ (ps.zip us)) ∧ (∀ p ∈ ts, TabHd h (K w.params) p) ∧
        (∀ base : Heap, (K w.params).In base → base.Ns mainGlobals mg → (∀ p ∈ ts, LamX.TabB base mg p.1 p.2) → FnOk r.prog w (K w.params) mg base CX0 k fa fd ps sp) ∧
        ∀ (H H2 : Hp) (xs : List V) (a : Codec.denoteAll r.args), Same H H2 → (∀ p ∈ ts, H2 p.2 = some (.tbl #[])) → Codec.withinAll r.args a = true → Codec.app r.args r.asked a = true → DwAll (K w.params) H xs (Codec.encAll r.args a) →
          sp xs H2 (fun v H' => Dw (K w.params) H' v (r.ret.enc (Codec.app r.args r.f a))) fun _ _ _ => False) :
    PySem.W.WalkOS q loose XP YP r d [] (fun f vs => PySem.call f vs) := by
  intro w s₀ s₁ mg mb G Y fa o pm cd doc dV kV ho hd hcd hD hmg hg args vals as hpre hlay hrd hwl hlo
  obtain ⟨a, e1, e2⟩ := PySem.W.os_pre_some hpre
  obtain ⟨e3, hwi⟩ := Codec.encAll_of_decAll r.args args a e1
  subst e3
  have KX := hY w _ Y
  obtain ⟨fd, ts, sp, hb, hts, hF, hS⟩ := F w mg mb _ _ fa _ Y KX G.T hmg
  have run := tab_call (R := []) (cl := classAt s₀.heap) (d0 := r.ret.enc (Codec.app r.args r.f a)) KX G.T.g G.T.b G.T.builtins G.T.nolimit hg G.T.bmain hts hwl (pl_encAll _ _) (layable_weight hlay) hr hF hb (by rw [encAll_len]; exact hlen)
    (fun H H2 xs sm ht hx => hS H H2 xs a sm ht hwi e2 hx)
  refine PySem.W.enter_call (codeAny_mono run ?_)
  rintro r' s' ⟨u, as', rfl, h1, h2, h3, h4⟩
  exact ⟨.inl ⟨u, _, as', rfl, fun _ => rfl, h1, (OpenSpec.post_iff hwell hwi _ _).mpr rfl, fun z => Bool.noConfusion (show false = true from z)⟩, h2, h3, h4⟩
end Oc
namespace Oc
open PySem PySem.Spec PyProof.Rows L2
/-! ### a shape that was taken -/
structure GoodSt (s : Ti01.St) : Prop where
  good : Geo.Good s
  ne : s ≠ []
  few : s.length ≤ 12
  nd : s.Nodup
theorem around_init : Ti01.joined (Ti01.around Ti01.init) = true := by
  have hh : (Ti01.around Ti01.init).head? = some (-1, -1) := by decide +kernel
  have nd := around_nodup Ti01.init
  have mem : ∀ c : Cell, c ∈ Ti01.around Ti01.init ↔ (-1 ≤ c.1 ∧ c.1 ≤ 12 ∧ -1 ≤ c.2 ∧ c.2 ≤ 12) ∧ ¬ c = (0, 0) := by
    intro c
    rw [Geo.mem_around]
    simp [Ti01.init]
  generalize Ti01.around Ti01.init = s at hh nd mem
  cases s with
  | nil => cases hh
  | cons c0 r =>
    obtain rfl : c0 = (-1, -1) := Option.some.inj hh
    have mk : ∀ x y : Int, -1 ≤ x → x ≤ 12 → -1 ≤ y → y ≤ 12 → (x ≠ 0 ∨ y ≠ 0) → ((x, y) : Cell) ∈ (-1, -1) :: r := by
      intro x y h1 h2 h3 h4 h5
      refine (mem _).mpr ⟨⟨h1, h2, h3, h4⟩, fun z => ?_⟩
      injection z with z1 z2
      omega
    have come : ∀ Q : Cell → Prop, Q (-1, -1) → (∀ a c, a ∈ (-1, -1) :: r → c ∈ (-1, -1) :: r → c ∈ Ti01.near a → Q a → Q c) → ∀ a ∈ (-1, -1) :: r, Q a := by
      intro Q h0 st
      have col : ∀ n : Nat, n ≤ 13 → Q (-1, (n : Int) - 1) := by
        intro n
        induction n with
        | zero => intro _; exact h0
        | succ n ih =>
          intro hn
          refine st (-1, (n : Int) - 1) _ (mk _ _ (by omega) (by omega) (by omega) (by omega) (by omega)) (mk _ _ (by omega) (by omega) (by omega) (by omega) (by omega)) ?_ (ih (by omega))
          rw [Geo.mem_near]
          right; left
          apply Prod.ext
          · rfl
          · show ((n + 1 : Nat) : Int) - 1 = (n : Int) - 1 + 1; omega
      have row : ∀ y : Int, -1 ≤ y → y ≤ 12 → y ≠ 0 → ∀ n : Nat, n ≤ 13 → Q ((n : Int) - 1, y) := by
        intro y y1 y2 y0 n
        induction n with
        | zero =>
          intro _
          have := col (y + 1).toNat (by omega)
          rw [show (((y + 1).toNat : Nat) : Int) - 1 = y by omega] at this
          exact this
        | succ n ih =>
          intro hn
          refine st ((n : Int) - 1, y) _ (mk _ _ (by omega) (by omega) (by omega) (by omega) (by omega)) (mk _ _ (by omega) (by omega) (by omega) (by omega) (by omega)) ?_ (ih (by omega))
          rw [Geo.mem_near]
          left
          apply Prod.ext
          · show ((n + 1 : Nat) : Int) - 1 = (n : Int) - 1 + 1; omega
          · rfl
      rintro ⟨x, y⟩ ha
      obtain ⟨⟨b1, b2, b3, b4⟩, hne⟩ := (mem _).mp ha
      simp only at b1 b2 b3 b4
      by_cases y0 : y = 0
      · subst y0
        have x0 : x ≠ 0 := fun z => hne (by rw [z])
        have h1 := row 1 (by decide) (by decide) (by decide) (x + 1).toNat (by omega)
        rw [show (((x + 1).toNat : Nat) : Int) - 1 = x by omega] at h1
        refine st (x, 1) _ (mk _ _ b1 b2 (by decide) (by decide) (by omega)) ha ?_ h1
        rw [Geo.mem_near]
        right; right; right
        rfl
      · have h1 := row y b3 b4 y0 (x + 1).toNat (by omega)
        rw [show (((x + 1).toNat : Nat) : Int) - 1 = x by omega] at h1
        exact h1
    have f : Geo.Found ((-1, -1) :: r) (-1, -1) ((-1, -1) :: r) ((-1, -1) :: r).length := ⟨nd, fun _ h => h, List.mem_cons_self .., fun _ _ _ _ c hc _ => hc, come⟩
    rw [f.ends nd]
    exact decide_eq_true rfl
theorem good_init : GoodSt Ti01.init where
  good := ⟨by intro c hc; simp [Ti01.init] at hc; subst hc; decide, by decide +kernel, around_init⟩
  ne := by simp [Ti01.init]
  few := by decide
  nd := by simp [Ti01.init]
theorem good_tell {l : List Nat} (hw : Well l) (h : Ti01.whole (pairsOf (Ti01.ints l)) = true) : GoodSt (pairsOf (Ti01.ints l)) := by
  have h' : (Ti01.joined (pairsOf (Ti01.ints l)) && Ti01.joined (Ti01.around (pairsOf (Ti01.ints l)))) = true := h
  rw [Bool.and_eq_true] at h'
  have lp := pairs_len hw.even
  have h1 := hw.pos
  have h2 := hw.few
  have h3 := hw.even
  refine ⟨⟨pairs_box l hw.low, h'.1, h'.2⟩, fun z => ?_, by omega, hw.nd⟩
  rw [z] at lp
  simp at lp
  omega
/-- what shape answers -/
def aShape (l : List Nat) : List Int := if refus l < 0 then [refus l] else [((Ti01.edge (pairsOf (Ti01.ints l))).length : Int)]
def nextS (s : Ti01.St) (l : List Nat) : Ti01.St := if refus l < 0 then s else pairsOf (Ti01.ints l)
theorem refus_cases (l : List Nat) : (¬ Well l ∧ refus l = -1) ∨ (Well l ∧ Ti01.whole (pairsOf (Ti01.ints l)) = false ∧ refus l = -6) ∨ (Well l ∧ Ti01.whole (pairsOf (Ti01.ints l)) = true ∧ refus l = 0) := by
  by_cases hw : Well l
  · right
    have e : refus l = if Ti01.whole (pairsOf (Ti01.ints l)) = true then 0 else -6 := by
      unfold refus
      rw [tell_well hw]
    cases h : Ti01.whole (pairsOf (Ti01.ints l))
    · exact .inl ⟨hw, rfl, by rw [e, h]; rfl⟩
    · exact .inr ⟨hw, rfl, by rw [e, h]; rfl⟩
  · left
    unfold refus
    rw [tell_not hw]
    exact ⟨hw, rfl⟩
theorem shape_step (s : Ti01.St) (l : List Nat) : Ti01.step s (.shape l) = (nextS s l, aShape l) := by
  have key : Ti01.step s (.shape l) = match tell l with
      | none => (s, [-1])
      | some t => if Ti01.whole t = false then (s, [-6]) else (t, Ti01.ints [(Ti01.edge t).length]) := by
    unfold tell
    show (match Ti01.pairs l with
      | none => (s, [-1])
      | some t => if Ti01.isShape t = false then (s, [-1]) else if Ti01.whole t = false then (s, [-6]) else (t, Ti01.ints [(Ti01.edge t).length])) = _
    cases Ti01.pairs l with
    | none => rfl
    | some t =>
      cases h : Ti01.isShape t
      · simp [h]
      · simp [h]
  rw [key]
  unfold nextS aShape
  rcases refus_cases l with ⟨h1, h2⟩ | ⟨h1, h2, h3⟩ | ⟨h1, h2, h3⟩
  · rw [tell_not h1, h2, if_pos (by decide), if_pos (by decide)]
  · rw [tell_well h1, h3, if_pos (by decide), if_pos (by decide)]
    simp only [h2, if_true]
  · rw [tell_well h1, h3, if_neg (by decide), if_neg (by decide)]
    simp only [h2, Bool.true_eq_false, if_false]
    rfl
theorem good_next {s : Ti01.St} (h : GoodSt s) (l : List Nat) : GoodSt (nextS s l) := by
  unfold nextS
  rcases refus_cases l with ⟨h1, h2⟩ | ⟨h1, h2, h3⟩ | ⟨h1, h2, h3⟩
  · rw [h2, if_pos (by decide)]
    exact h
  · rw [h3, if_pos (by decide)]
    exact h
  · rw [h3, if_neg (by decide)]
    exact good_tell h1 h2
/-- nothing but a table stood there -/
def Fresh (H : Hp) (p : Addr) : Prop := ∀ u, H p = some u → ∃ ps, u = .tbl ps
theorem fresh_none {H : Hp} {p : Addr} (h : H p = none) : Fresh H p := fun u q => by rw [h] at q; cases q
section
variable {P : Program} {w : World} {K : PySem.W.Frag} {mg : Str → Option Value} {base : Heap}
/-! ### answer_shape -/
abbrev sAShape : Stmt := top 32
def spAShape (PT : Addr) : Sp := fun vs H Q _ => ∃ a l, vs = [.ref a] ∧ H a = some (.lst (nv l)) ∧ l.length ≤ 1000 ∧ LamX.Tabs [(PT, lamName)] H ∧
  ∀ H' p, LamX.ExtN H H' → LamX.Tabs [(PT, lamName)] H' → Fresh H p → H' p = some (.lst (iv (aShape l))) → Q (.ref p) H'
theorem scAShape : FnScope ["numbers", "refusal"] ["numbers"] (defScope sAShape) := ⟨rfl, rfl, rfl, by decide +kernel, rfl, by decide +kernel, by decide +kernel⟩
theorem ok_ashape {f PT : Addr} {fd : FuncData} (F : Fun K "answer_shape" "answer_shape" sAShape f fd) (ml : mg "len" = none) (cR : Cal P w K mg base "shape_refusal" 3 ["numbers"] spRef) (cE : Cal P w K mg base "edge_of" 3 ["squares"] (spEdge PT))
    (cS : Cal P w K mg base "squares_of" 1 ["numbers"] spSq) : FnOk P w K mg base CX0 4 f fd ["numbers"] (spAShape PT) := by
  obtain ⟨fR, fdR, gR, kR, bR, oR⟩ := cR
  obtain ⟨fE, fdE, gE, kE, bE, oE⟩ := cE
  obtain ⟨fS, fdS, gS, kS, bS, oS⟩ := cS
  refine F.ok scAShape (fun vs H Q E h => ?_) (fun cdv A outer s H vs Q E hr h => ?_)
  · obtain ⟨a, l, rfl, _⟩ := h
    rfl
  have hr1 : Room 1 _ := hr.mono (by decide)
  refine ⟨_, pss_cons (ps_set (i := 1) scAShape.nd rfl (.inl rfl) (pe_call oR hr rfl gR kR bR .nil pass0 (pa_cons (pv 0) pa_nil)))
    (pss_cons (ps_if (pt_cmpR op_lt (pv 1) pe_int (nomark _)) (pss_one (ps_ret (pe_lst (pa_cons (pv 1) pa_nil)))) pss_nil)
    (pss_one (ps_ret (pe_lst (pa_cons (pe_callB call_len_seq (by rfl) ml PySem.boot_len (pa_cons (pe_call oE hr rfl gE kE bE .nil pass0 (pa_cons (pe_call oS hr1 rfl gS kS bS .nil pass0 (pa_cons (pv 0) pa_nil)) pa_nil)) pa_nil)) pa_nil))))), ?_⟩
  obtain ⟨a, l, rfl, ha, hlen, hT, k⟩ := h
  have ha' : H a = some (.lst (iv (Ti01.ints l))) := by rw [ha, nv_iv]
  refine ⟨_, rfl, a, l, rfl, ha, hlen, fun H1 s1 => ?_⟩
  refine ⟨_, rfl, _, _, rfl, rfl, _, rfl, ?_⟩
  have T1 := hT.ext s1
  rcases refus_cases l with ⟨h1, h2⟩ | ⟨h1, h2, h3⟩ | ⟨h1, h2, h3⟩
  all_goals first
    | (have hneg : refus l < 0 := by rw [h2]; decide
       refine if_true_of (decide_eq_true hneg) ?_
       refine ⟨_, rfl, by show 1 ≤ sizeLine; decide, fun q nq => ?_⟩
       have s2 := same_new (o := .lst [V.int (refus l)]) nq
       refine k _ q (extN_same (s1.trans s2)) (T1.ext s2) (fresh_none (s1.free nq)) ?_
       rw [upd_same]
       unfold aShape
       rw [if_pos hneg]
       rfl)
    | (have hneg : refus l < 0 := by rw [h3]; decide
       refine if_true_of (decide_eq_true hneg) ?_
       refine ⟨_, rfl, by show 1 ≤ sizeLine; decide, fun q nq => ?_⟩
       have s2 := same_new (o := .lst [V.int (refus l)]) nq
       refine k _ q (extN_same (s1.trans s2)) (T1.ext s2) (fresh_none (s1.free nq)) ?_
       rw [upd_same]
       unfold aShape
       rw [if_pos hneg]
       rfl)
    | (have hpos : ¬ refus l < 0 := by rw [h3]; decide
       refine if_false_of (decide_eq_false hpos) ?_
       have gs := good_tell h1 h2
       have ev := h1.even
       have fw := h1.few
       refine ⟨_, rfl, a, Ti01.ints l, l.length / 2, rfl, s1 _ _ ha', by rw [ints_len]; omega, by omega, fun H2 p s2 hp => ?_⟩
       refine ⟨p, _, rfl, hp, T1.ext s2, gs.good, gs.ne, gs.few, fun H3 q e3 T3 hq => ?_⟩
       refine ⟨q, _, rfl, .inl (SqL.of hq), by show 1 ≤ sizeLine; decide, fun q2 nq2 => ?_⟩
       have s4 := same_new (o := .lst [V.int ((nv (Ti01.edge (pairsOf (Ti01.ints l)))).length : Int)]) nq2
       refine k _ q2 ((extN_same (s1.trans s2)).trans (e3.trans (extN_same s4))) (T3.ext s4) (ext_free ((extN_same (s1.trans s2)).trans e3) nq2) ?_
       rw [upd_same, nv_len]
       unfold aShape
       rw [if_neg hpos]
       rfl)
end
end Oc
namespace Oc
open PySem PySem.Spec PyProof.Rows L2
/-! ### grids as three numbers -/
def trip (g : Ti01.Grid) : Nat × Nat × Nat := (g.a, g.b, g.d)
structure GrOk (g : Ti01.Grid) : Prop where
  pos : Til.Pos g
  a : g.a ≤ 1000
  b : g.b ≤ 1000
  d : g.d ≤ 1000
def gv (g : Ti01.Grid) : List V := nv [g.a, g.b, g.d]
theorem home_py {g : Ti01.Grid} (h : Til.Pos g) (c : Cell) : (((c.1 - c.2 / (g.d : Int) * (g.b : Int)) % (g.a : Int), c.2 % (g.d : Int)) : Cell) = Ti01.home g c := by
  rw [Til.home_is h]
  apply Prod.ext
  · rfl
  · have := Int.emod_add_mul_ediv c.2 (g.d : Int)
    rw [Int.mul_comm] at this
    show c.2 % (g.d : Int) = c.2 - c.2 / (g.d : Int) * (g.d : Int)
    omega
section
variable {P : Program} {w : World} {K : PySem.W.Frag} {mg : Str → Option Value} {base : Heap}
/-! ### home_in -/
abbrev sHome : Stmt := top 28
def spHome : Sp := fun vs H Q _ => ∃ g gr v c, vs = [.ref g, v] ∧ H g = some (.lst (gv gr)) ∧ GrOk gr ∧ TupAt H v c ∧ ∀ H' v', Same H H' → TupAt H' v' (Ti01.home gr c) → Q v' H'
theorem scHome : FnScope ["grid", "place", "a", "b", "d"] ["grid", "place"] (defScope sHome) := ⟨rfl, rfl, rfl, by decide +kernel, rfl, by decide +kernel, by decide +kernel⟩
theorem ok_home {f : Addr} {fd : FuncData} (F : Fun K "home_in" "home_in" sHome f fd) : FnOk P w K mg base CX0 1 f fd ["grid", "place"] spHome := by
  refine F.ok scHome (fun vs H Q E h => ?_) (fun cdv A outer s H vs Q E hr h => ?_)
  · obtain ⟨g, gr, v, c, rfl, _⟩ := h
    rfl
  refine ⟨_, pss_cons (ps_set (i := 2) scHome.nd rfl (.inl rfl) (pe_ix ix_list (pv 0) pe_int (fun _ _ => rfl)))
      (pss_cons (ps_set (i := 3) scHome.nd rfl (.inl rfl) (pe_ix ix_list (pv 0) pe_int (fun _ _ => rfl)))
      (pss_cons (ps_set (i := 4) scHome.nd rfl (.inl rfl) (pe_ix ix_list (pv 0) pe_int (fun _ _ => rfl)))
      (pss_one (ps_ret (pe_tup (pa_cons (pe_op op_mod (pe_op op_sub (pe_ix ix_tup (pv 1) pe_int (fun _ _ => rfl)) (pe_op op_mul (pe_op op_fdiv (pe_ix ix_tup (pv 1) pe_int (fun _ _ => rfl)) (pv 4)) (pv 3))) (pv 2))
        (pa_cons (pe_op op_mod (pe_ix ix_tup (pv 1) pe_int (fun _ _ => rfl)) (pv 4)) pa_nil))))))), ?_⟩
  obtain ⟨g, gr, v, c, rfl, hg, ok, ⟨b, rfl, hb⟩, k⟩ := h
  have pa := ok.pos.a
  have pd := ok.pos.d
  have la := ok.a
  have lb := ok.b
  have ld := ok.d
  refine ⟨_, rfl, g, _, 0, _, rfl, rfl, SqL.of hg, atI_nat (j := 0) rfl, _, rfl, g, _, 1, _, rfl, rfl, SqL.of hg, atI_nat (j := 1) rfl, _, rfl, g, _, 2, _, rfl, rfl, SqL.of hg, atI_nat (j := 2) rfl, ?_⟩
  refine ⟨_, rfl, b, _, 0, _, rfl, rfl, SqT.of hb, atI_nat (j := 0) rfl, _, rfl, b, _, 1, _, rfl, rfl, SqT.of hb, atI_nat (j := 1) rfl, _, rfl, _, _, rfl, rfl, ⟨by omega, by omega⟩, ?_⟩
  refine ⟨_, rfl, _, _, rfl, rfl, .inr ⟨by omega, by omega⟩, _, _, rfl, rfl, _, rfl, _, _, rfl, rfl, (by show (0 : Int) < (gr.a : Int); omega), ?_⟩
  refine ⟨_, rfl, b, _, 1, _, rfl, rfl, SqT.of hb, atI_nat (j := 1) rfl, _, rfl, _, _, rfl, rfl, (by show (0 : Int) < (gr.d : Int); omega), by show 2 ≤ sizeLine; decide, fun p np => ?_⟩
  refine k _ _ (same_new np) ?_
  rw [← home_py ok.pos c]
  exact tup_new
/-! ### homes_in -/
abbrev sHomes : Stmt := top 29
def spHomes : Sp := fun vs H Q _ => ∃ g gr a cs, vs = [.ref g, .ref a] ∧ H g = some (.lst (gv gr)) ∧ GrOk gr ∧ CellsAt H a cs ∧ cs.length ≤ 1000 ∧ ∀ H' p, Same H H' → CellsAt H' p (cs.map (Ti01.home gr)) → Q (.ref p) H'
theorem scHomes : FnScope ["grid", "squares", "square"] ["grid", "squares"] (defScope sHomes) := ⟨rfl, rfl, rfl, by decide +kernel, rfl, by decide +kernel, by decide +kernel⟩
theorem ok_homes {f : Addr} {fd : FuncData} (F : Fun K "homes_in" "homes_in" sHomes f fd) (cH : Cal P w K mg base "home_in" 1 ["grid", "place"] spHome) : FnOk P w K mg base CX0 2 f fd ["grid", "squares"] spHomes := by
  obtain ⟨fH, fdH, gH, kH, bH, oH⟩ := cH
  refine F.ok scHomes (fun vs H Q E h => ?_) (fun cdv A outer s H vs Q E hr h => ?_)
  · obtain ⟨g, gr, a, cs, rfl, _⟩ := h
    rfl
  refine ⟨_, pss_one (ps_ret (pe_lc (own := [("square", 2)]) (g := gName 2) (tt := tYes) (te := tCall spHome [] E0 (tCons (tVar 0) (tCons (tVar 2) tNil))) rfl scHomes.nd (pi_list (pv 1))
    (blkOk_by (N := ["grid", "squares", "square"]) (sc := defScope sHomes) (by decide +kernel)) (fun _ _ _ _ _ => pg_name (i := 2) scHomes.nd rfl (Or.inl rfl)) (fun _ _ _ _ _ => pts_nil)
    (fun _ _ _ _ _ => pe_call oH hr rfl gH kH bH .nil pass0 (pa_cons (pv 0) (pa_cons (pv 2) pa_nil))))), ?_⟩
  obtain ⟨g, gr, a, cs, rfl, hg, ok, ⟨xs, ha, cv⟩, few, k⟩ := h
  have lx := cv.length
  refine ⟨_, rfl, a, rfl, ⟨_, SqL.of ha⟩, fun D hD => ?_⟩
  refine lc_list (K := _) (a := a) (xs := xs) (fun i H' => Same H H' ∧ ∃ ys, H' D = some (.lst ys) ∧ CellsV H' ys ((cs.map (Ti01.home gr)).take i)) ⟨same_new hD, [], upd_same, .nil⟩ (fun i H' _ h => SqL.of (h.1 _ _ ha)) ?_ ?_
  · rintro i x H' hx ⟨s1, ys, hd, cvy⟩
    obtain ⟨c, hc, tc⟩ := cv.at hx
    refine ⟨rfl, ?_⟩
    dsimp only [tYes]
    rw [if_pos rfl]
    refine ⟨_, rfl, _, rfl, g, gr, _, c, rfl, s1 _ _ hg, ok, tc.same s1, fun H2 v' s2 tv => ?_⟩
    have hd2 := s2 _ _ hd
    have ll := cvy.length
    rw [List.length_take, List.length_map] at ll
    refine ⟨_, hd2, size_lt (by omega), Same.upd_own (s1.trans s2) hD, _, upd_same, ?_⟩
    rw [List.take_add_one, List.getElem?_map, hc]
    exact ((cvy.same s2).upd hd2).append (.cons (tv.upd hd2) .nil)
  · rintro H' ⟨s1, ys, hd, cvy⟩
    rw [lx, show cs.length = (cs.map (Ti01.home gr)).length by simp, List.take_length] at cvy
    exact k _ _ s1 ⟨ys, hd, cvy⟩
end
end Oc
namespace Oc
open PySem PySem.Spec PyProof.Rows L2
/-! ### all grids: the mathematics -/
def gr2 (s : List Cell) (i n : Nat) : List Ti01.Grid := ((List.range n).map fun b => Ti01.Grid.mk (i + 1) b (s.length / (i + 1))).filter (Ti01.covers s)
def gr1 (s : List Cell) (n : Nat) : List Ti01.Grid := (List.range n).flatMap fun i => if s.length % (i + 1) = 0 then gr2 s i (i + 1) else []
theorem gr2_succ (s : List Cell) (i n : Nat) : gr2 s i (n + 1) = gr2 s i n ++ if Ti01.covers s (Ti01.Grid.mk (i + 1) n (s.length / (i + 1))) = true then [Ti01.Grid.mk (i + 1) n (s.length / (i + 1))] else [] := by
  unfold gr2
  rw [List.range_succ, List.map_append, List.filter_append]
  congr 1
  by_cases h : Ti01.covers s (Ti01.Grid.mk (i + 1) n (s.length / (i + 1))) = true
  · simp [h]
  · simp [h]
theorem gr1_succ (s : List Cell) (n : Nat) : gr1 s (n + 1) = gr1 s n ++ if s.length % (n + 1) = 0 then gr2 s n (n + 1) else [] := by
  unfold gr1
  rw [List.range_succ, List.flatMap_append]
  simp
theorem gr2_len (s : List Cell) (i n : Nat) : (gr2 s i n).length ≤ n := by
  unfold gr2
  refine Nat.le_trans (List.length_filter_le _ _) ?_
  simp
theorem gr1_len (s : List Cell) : ∀ n, n ≤ 12 → (gr1 s n).length ≤ 13 * n
  | 0, _ => by simp [gr1]
  | n + 1, h => by
    rw [gr1_succ, List.length_append]
    have := gr1_len s n (by omega)
    have := gr2_len s n (n + 1)
    split <;> simp <;> omega
theorem grids_gr1 (s : List Cell) : Ti01.grids s = gr1 s s.length := rfl
theorem covers_is {s : List Cell} {a b : Nat} (hm : s.length % a = 0) : Ti01.covers s (Ti01.Grid.mk a b (s.length / a)) = decide ((s.map (Ti01.home (Ti01.Grid.mk a b (s.length / a)))).Nodup) := by
  unfold Ti01.covers
  have e : a * (s.length / a) = s.length := Nat.mul_div_cancel' (Nat.dvd_of_mod_eq_zero hm)
  rw [show (Ti01.Grid.mk a b (s.length / a)).a * (Ti01.Grid.mk a b (s.length / a)).d = s.length from e, beq_self_eq_true, Bool.true_and]
  by_cases h : (s.map (Ti01.home (Ti01.Grid.mk a b (s.length / a)))).Nodup
  · rw [decide_eq_true h, (diff_nodup _).mpr h]
  · rw [decide_eq_false h]
    exact Bool.eq_false_iff.mpr fun z => h ((diff_nodup _).mp z)
section
variable {P : Program} {w : World} {K : PySem.W.Frag} {mg : Str → Option Value} {base : Heap}
/-! ### grids_of -/
abbrev sGrids : Stmt := top 30
def spGrids : Sp := fun vs H Q _ => ∃ a cs, vs = [.ref a] ∧ CellsAt H a cs ∧ cs.length ≤ 12 ∧ ∀ H' p xs, Same H H' → H' p = some (.lst xs) → Al (TripAt H H') xs ((Ti01.grids cs).map trip) → Q (.ref p) H'
theorem scGrids : FnScope ["squares", "grids", "a", "b", "grid"] ["squares"] (defScope sGrids) := ⟨rfl, rfl, rfl, by decide +kernel, rfl, by decide +kernel, by decide +kernel⟩
def GridsInv (H : Hp) (p : Addr) (gs : List Ti01.Grid) (H' : Hp) : Prop := Same H H' ∧ ∃ xs, H' p = some (.lst xs) ∧ Al (TripAt H H') xs (gs.map trip)
theorem ok_grids {f : Addr} {fd : FuncData} (F : Fun K "grids_of" "grids_of" sGrids f fd) (ml : mg "len" = none) (mr : mg "range" = none) (ms : mg "set" = none)
    (cH : Cal P w K mg base "homes_in" 2 ["grid", "squares"] spHomes) : FnOk P w K mg base CX0 3 f fd ["squares"] spGrids := by
  obtain ⟨fH, fdH, gH, kH, bH, oH⟩ := cH
  refine F.ok scGrids (fun vs H Q E h => ?_) (fun cdv A outer s H vs Q E hr h => ?_)
  · obtain ⟨a, cs, rfl, _⟩ := h
    rfl
  refine ⟨_, pss_cons (ps_set (i := 1) scGrids.nd rfl (.inl rfl) (pe_lst pa_nil))
    (pss_cons (ps_for PassesOwn.never rfl (pi_range2 rfl mr (pa_cons pe_int (pa_cons (pe_op op_add (pe_callB call_len_seq (by rfl) ml PySem.boot_len (pa_cons (pv 0) pa_nil)) pe_int) pa_nil))) (pg_name (i := 2) scGrids.nd rfl (Or.inl rfl))
      (pss_one (ps_if (pt_cmpR op_eq (pe_op op_mod (pe_callB call_len_seq (by rfl) ml PySem.boot_len (pa_cons (pv 0) pa_nil)) (pv 2)) pe_int (nomark _))
        (pss_one (ps_for PassesOwn.never rfl (pi_range1 rfl mr (pa_cons (pv 2) pa_nil)) (pg_name (i := 3) scGrids.nd rfl (Or.inl rfl))
          (pss_cons (ps_set (i := 4) scGrids.nd rfl (.inl rfl) (pe_lst (pa_cons (pv 2) (pa_cons (pv 3) (pa_cons (pe_op op_fdiv (pe_callB call_len_seq (by rfl) ml PySem.boot_len (pa_cons (pv 0) pa_nil)) (pv 2)) pa_nil)))))
          (pss_one (ps_if (pt_cmpR op_eq (pe_callB call_lenST (by rfl) ml PySem.boot_len (pa_cons (pe_callTy (cr_setOfT rfl hr.units) (by rfl) ms (by decide +kernel) (pa_cons (pe_call oH hr rfl gH kH bH .nil pass0 (pa_cons (pv 4) (pa_cons (pv 0) pa_nil))) pa_nil)) pa_nil))
              (pe_callB call_len_seq (by rfl) ml PySem.boot_len (pa_cons (pv 0) pa_nil)) (nomark _))
            (pss_one (ps_expr (pe_bm PySem.F.plainAttrs_list PySem.F.slot_list_append PySem.F.type_list_append mt_append (pv 1) (pa_cons (pv 4) pa_nil)))) pss_nil))))) pss_nil)))
    (pss_one (ps_ret (pv 1)))), ?_⟩
  obtain ⟨a, cs, rfl, ⟨ys, ha, cv⟩, hlen, k⟩ := h
  have ly := cv.length
  refine ⟨by show 0 ≤ sizeLine; decide, fun p np => ?_⟩
  have s0 := same_new (o := .lst []) np
  refine ⟨_, rfl, a, _, rfl, .inl (SqL.of (s0 _ _ ha)), _, _, rfl, rfl, _, _, rfl, ⟨by decide, by decide, by omega, by omega⟩, ?_⟩
  have hn1 : ((ys.length : Int) + 1 - 1).toNat = cs.length := by omega
  refine for_range (lo := 1) (fun i σ H' => ∃ va vb vg, σ = [some (.ref a), some (.ref p), va, vb, vg] ∧ GridsInv H p (gr1 cs i) H') ?_ ?_ ?_
  · exact ⟨none, none, none, rfl, s0, [], upd_same, .nil⟩
  · rintro i σ H1 hi ⟨va, vb, vg, rfl, v1⟩
    rw [hn1] at hi
    obtain ⟨s1, xs1, hp1, al1⟩ := v1
    refine ⟨_, rfl, a, _, rfl, .inl (SqL.of (s1 _ _ ha)), _, rfl, _, _, rfl, rfl, (by show (0 : Int) < 1 + (i : Int); omega), rfl, _, rfl, ?_⟩
    by_cases hm : cs.length % (i + 1) = 0
    case neg =>
      refine if_false_of (decide_eq_false ?_) ⟨_, _, _, rfl, s1, xs1, hp1, ?_⟩
      · intro z
        injection z with z
        rw [ly, show (1 + (i : Int)) = ((i + 1 : Nat) : Int) by omega] at z
        omega
      · rw [gr1_succ, if_neg hm, List.append_nil]
        exact al1
    refine if_true_of (decide_eq_true ?_) ?_
    · rw [ly, show (1 + (i : Int)) = ((i + 1 : Nat) : Int) by omega]
      show V.int ((cs.length : Int) % ((i + 1 : Nat) : Int)) = V.int 0
      rw [show (cs.length : Int) % ((i + 1 : Nat) : Int) = 0 by omega]
    have hn2 : (1 + (i : Int)).toNat = i + 1 := by omega
    refine ⟨_, rfl, _, rfl, by omega, by omega, for_range (lo := 0) (fun b σ H' => ∃ vb vg, σ = [some (.ref a), some (.ref p), some (.int (1 + (i : Int))), vb, vg] ∧ GridsInv H p (gr1 cs i ++ gr2 cs i b) H') ?_ ?_ ?_⟩
    · refine ⟨_, _, rfl, s1, xs1, hp1, ?_⟩
      rw [show gr2 cs i 0 = [] from rfl, List.append_nil]
      exact al1
    · rintro b σ H2 hb ⟨vb2, vg2, rfl, s2, xs2, hp2, al2⟩
      rw [hn2] at hb
      refine ⟨_, rfl, _, rfl, _, rfl, a, _, rfl, .inl (SqL.of (s2 _ _ ha)), _, rfl, _, _, rfl, rfl, ⟨by omega, by omega⟩, by show 3 ≤ sizeLine; decide, fun q nq => ?_⟩
      have s3 := same_new (o := .lst [V.int (1 + (i : Int)), V.int (0 + (b : Int)), V.int ((ys.length : Int) / (1 + (i : Int)))]) nq
      have ed : (ys.length : Int) / (1 + (i : Int)) = ((cs.length / (i + 1) : Nat) : Int) := by
        rw [ly, show (1 + (i : Int)) = ((i + 1 : Nat) : Int) by omega]
        exact (Int.natCast_ediv _ _).symm
      have hq : upd H2 q (.lst [V.int (1 + (i : Int)), V.int (0 + (b : Int)), V.int ((ys.length : Int) / (1 + (i : Int)))]) q = some (.lst (gv (Ti01.Grid.mk (i + 1) b (cs.length / (i + 1))))) := by
        rw [upd_same, ed, show (1 + (i : Int)) = ((i + 1 : Nat) : Int) by omega, show (0 + (b : Int)) = ((b : Nat) : Int) by omega]
        rfl
      have s13 := s2.trans s3
      have gok : GrOk (Ti01.Grid.mk (i + 1) b (cs.length / (i + 1))) := by
        have : cs.length / (i + 1) ≤ cs.length := Nat.div_le_self _ _
        refine ⟨⟨Nat.succ_pos i, Nat.div_pos (by omega) (by omega)⟩, ?_, ?_, ?_⟩
        · show i + 1 ≤ 1000; omega
        · show b ≤ 1000; omega
        · show cs.length / (i + 1) ≤ 1000; omega
      refine ⟨_, rfl, _, rfl, q, _, a, cs, rfl, hq, gok, ⟨ys, s13 _ _ ha, cv.same s13⟩, by omega, fun H3 r s4 ⟨zs, hr3, cvz⟩ => ?_⟩
      have lz := cvz.length
      rw [List.length_map] at lz
      obtain ⟨ks, ex, ek, et⟩ := cells_keys (K := K) cvz
      have lk : ks.length = cs.length := by
        have := congrArg List.length ek
        simpa using this
      have hr3' : H3 r = some (.lst (ks.map fun p => V.ref p.1)) := by rw [hr3, ex]
      refine ⟨r, ks, rfl, SqL.of hr3', et, by omega, fun sa L ns hsub hall => ?_⟩
      have s5 := same_new (o := SetTO P w sa L) ns
      refine ⟨sa, L, rfl, upd_same, fun q hq => same_tup s5 (et q (hsub q hq)), fun nd => ?_⟩
      have s15 := s13.trans (s4.trans s5)
      refine ⟨_, rfl, a, _, rfl, .inl (SqL.of (s15 _ _ ha)), rfl, _, rfl, ?_⟩
      have sz := set_size (M := L.map (·.2)) (ks := ks.map (·.2)) nd (fun x hx => by
        obtain ⟨q, hq, e⟩ := List.mem_map.mp hx
        exact List.mem_map.mpr ⟨q, hsub q hq, e⟩) (fun x hx => by
        obtain ⟨q, hq, e⟩ := List.mem_map.mp hx
        rw [← e]
        exact hall q hq)
      rw [List.length_map, List.length_map, ek, keys_nodup] at sz
      have hp5 := s5 _ _ (s4 _ _ (s3 _ _ hp2))
      have al5 : Al (TripAt H (upd H3 sa (SetTO P w sa L))) xs2 ((gr1 cs i ++ gr2 cs i b).map trip) := al2.mono fun v c h => h.same (s3.trans (s4.trans s5))
      by_cases hnd : (cs.map (Ti01.home (Ti01.Grid.mk (i + 1) b (cs.length / (i + 1))))).Nodup
      case neg =>
        refine if_false_of (decide_eq_false ?_) ⟨_, _, rfl, s15, xs2, hp5, ?_⟩
        · intro z
          injection z with z
          exact hnd (sz.mp (by omega))
        · rw [gr2_succ, covers_is hm, decide_eq_false hnd, if_neg Bool.false_ne_true, List.append_nil]
          exact al5
      refine if_true_of (decide_eq_true ?_) ?_
      · rw [sz.mpr hnd, lk, ly]
      refine ⟨_, rfl, .inl ⟨rfl, _, SqL.of hp5⟩, _, rfl, p, _, _, rfl, rfl, hp5, ?_, ?_⟩
      · have ll := al2.length
        rw [List.length_map, List.length_append] at ll
        have := gr1_len cs i (by omega)
        have := gr2_len cs i b
        exact size_lt (by omega)
      · refine ⟨_, _, rfl, Same.upd_own s15 np, _, upd_same, ?_⟩
        rw [gr2_succ, covers_is hm, decide_eq_true hnd, if_pos rfl, ← List.append_assoc, List.map_append]
        refine (trips_upd hp5 al5).append (.cons ⟨q, rfl, s2.free nq, ?_⟩ .nil)
        rw [upd_ne (ne_of_none hp2 nq).symm]
        exact s5 _ _ (s4 _ _ hq)
    · rintro σ H2 ⟨vb2, vg2, rfl, v2⟩
      rw [hn2] at v2
      refine ⟨_, _, _, rfl, ?_⟩
      rw [gr1_succ, if_pos hm]
      exact v2
  · rintro σ H1 ⟨va, vb, vg, rfl, s1, xs, hp, al⟩
    rw [hn1, ← grids_gr1] at al
    exact ⟨_, rfl, k _ _ _ s1 hp al⟩
end
end Oc
namespace Oc
open PySem PySem.Spec PyProof.Rows L2
def pr (c : Cell) : List V := [.int c.1, .int c.2]
def snd2 : Option HO → Nat
  | some (HO.lst [_, V.int z]) => z.natAbs
  | _ => 0
def lvlV (H : Hp) : Option (Option V) → Nat
  | some (some (V.ref a)) => snd2 (H a)
  | _ => 0
def lvl (σ : L2.St) (H : Hp) : Nat := lvlV H σ[3]?
section
variable {P : Program} {w : World} {K : PySem.W.Frag} {mg : Str → Option Value} {base : Heap}
/-! ### grid_by -/
abbrev sGby : Stmt := top 31
def spGby : Sp := fun vs H Q _ => ∃ x y u v n g, vs = [.ref x, .ref y] ∧ H x = some (.lst (pr u)) ∧ H y = some (.lst (pr v)) ∧ u.1 * v.2 - u.2 * v.1 = ((n : Nat) : Int) ∧ 0 < n ∧ u.2.natAbs ≤ 1000 ∧ v.2.natAbs ≤ 1000 ∧
  Til.Pos g ∧ g.b < g.a ∧ g.a * g.d = n ∧ Ti01.isIn g u = true ∧ Ti01.isIn g v = true ∧ ∀ H' p, Same H H' → H' p = some (.lst (gv g)) → Q (.ref p) H'
theorem scGby : FnScope ["first", "second", "slanted", "level", "often", "rest"] ["first", "second"] (defScope sGby) := ⟨rfl, rfl, rfl, by decide +kernel, rfl, by decide +kernel, by decide +kernel⟩
theorem ok_gby {f : Addr} {fd : FuncData} (F : Fun K "grid_by" "grid_by" sGby f fd) (ma : mg "abs" = none) : FnOk P w K mg base CX0 1 f fd ["first", "second"] spGby := by
  refine F.ok scGby (fun vs H Q E h => ?_) (fun cdv A outer s H vs Q E hr h => ?_)
  · obtain ⟨x, y, u, v, n, g, rfl, _⟩ := h
    rfl
  refine ⟨_, pss_cons (ps_set (i := 2) scGby.nd rfl (.inl rfl) (pv 0))
    (pss_cons (ps_set (i := 3) scGby.nd rfl (.inl rfl) (pv 1))
    (pss_cons (ps_while PassesOwn.never (pt_cmpR op_ne (pe_ix ix_list (pv 3) pe_int (fun _ _ => rfl)) pe_int (nomark _))
      (pss_cons (ps_set (i := 4) scGby.nd rfl (.inl rfl) (pe_op op_fdivN (pe_ix ix_list (pv 2) pe_int (fun _ _ => rfl)) (pe_ix ix_list (pv 3) pe_int (fun _ _ => rfl))))
      (pss_cons (ps_set (i := 5) scGby.nd rfl (.inl rfl) (pe_lst (pa_cons (pe_op op_sub (pe_ix ix_list (pv 2) pe_int (fun _ _ => rfl)) (pe_op op_mul (pv 4) (pe_ix ix_list (pv 3) pe_int (fun _ _ => rfl))))
        (pa_cons (pe_op op_sub (pe_ix ix_list (pv 2) pe_int (fun _ _ => rfl)) (pe_op op_mul (pv 4) (pe_ix ix_list (pv 3) pe_int (fun _ _ => rfl)))) pa_nil))))
      (pss_cons (ps_set (i := 2) scGby.nd rfl (.inl rfl) (pv 3))
      (pss_one (ps_set (i := 3) scGby.nd rfl (.inl rfl) (pv 5)))))))
    (pss_cons (ps_if (pt_cmpR op_lt (pe_ix ix_list (pv 2) pe_int (fun _ _ => rfl)) pe_int (nomark _))
      (pss_one (ps_set (i := 2) scGby.nd rfl (.inl rfl) (pe_lst (pa_cons (pe_un un_neg (pe_ix ix_list (pv 2) pe_int (fun _ _ => rfl))) (pa_cons (pe_un un_neg (pe_ix ix_list (pv 2) pe_int (fun _ _ => rfl))) pa_nil))))) pss_nil)
    (pss_one (ps_ret (pe_lst (pa_cons (pe_callB call_abs (by rfl) ma (by decide +kernel) (pa_cons (pe_ix ix_list (pv 3) pe_int (fun _ _ => rfl)) pa_nil))
      (pa_cons (pe_op op_mod (pe_ix ix_list (pv 2) pe_int (fun _ _ => rfl)) (pe_callB call_abs (by rfl) ma (by decide +kernel) (pa_cons (pe_ix ix_list (pv 3) pe_int (fun _ _ => rfl)) pa_nil)))
      (pa_cons (pe_ix ix_list (pv 2) pe_int (fun _ _ => rfl)) pa_nil))))))))), ?_⟩
  obtain ⟨x, y, u, v, n, g, rfl, hx, hy, hdet, hn, bu, bv, pg, hgb, had, iu, iv', k⟩ := h
  refine ⟨_, rfl, _, rfl, ?_⟩
  refine while_by (fun σ H' => ∃ (a b : Addr) (sl lv : Cell) (v4 v5 : Option V), σ = [some (.ref x), some (.ref y), some (.ref a), some (.ref b), v4, v5] ∧ Same H H' ∧ H' a = some (.lst (pr sl)) ∧ H' b = some (.lst (pr lv)) ∧ Til.EG u v n sl lv) lvl ?_ ?_ ?_
  · exact ⟨x, y, u, v, none, none, rfl, Same.refl H, hx, hy, Til.EG.start hdet bu bv⟩
  · rintro σ H1 ⟨a, b, sl, lv, v4, v5, rfl, s1, ha, hb, eg⟩
    refine ⟨_, rfl, b, _, 1, _, rfl, rfl, SqL.of hb, atI_nat (j := 1) rfl, rfl, _, rfl, ?_⟩
    by_cases hz : lv.2 = 0
    case pos =>
      refine if_false_of ?_ ?_
      · rw [decide_eq_true (by rw [hz])]
        rfl
      obtain ⟨e0, e1, e2, e3⟩ := eg.stop hz hn hdet pg hgb had iu iv'
      refine ⟨_, rfl, a, _, 1, _, rfl, rfl, SqL.of ha, atI_nat (j := 1) rfl, _, _, rfl, rfl, _, rfl, ?_⟩
      by_cases hs : sl.2 < 0
      case pos =>
        refine if_true_of (decide_eq_true hs) ?_
        have eu : Til.upw sl = (-sl.1, -sl.2) := by unfold Til.upw; rw [if_pos hs]
        rw [eu] at e2 e3
        refine ⟨_, rfl, a, _, 0, _, rfl, rfl, SqL.of ha, atI_nat (j := 0) rfl, _, rfl, _, rfl, a, _, 1, _, rfl, rfl, SqL.of ha, atI_nat (j := 1) rfl, _, rfl, by show 2 ≤ sizeLine; decide, fun q nq => ?_⟩
        have s2 := same_new (o := .lst [V.int (-sl.1), V.int (-sl.2)]) nq
        have hq : upd H1 q (.lst [V.int (-sl.1), V.int (-sl.2)]) q = some (.lst (pr (-sl.1, -sl.2))) := upd_same
        have hb2 := s2 _ _ hb
        refine ⟨_, rfl, b, _, 0, _, rfl, rfl, SqL.of hb2, atI_nat (j := 0) rfl, _, rfl, _, rfl, q, _, 0, _, rfl, rfl, SqL.of hq, atI_nat (j := 0) rfl, _, rfl, b, _, 0, _, rfl, rfl, SqL.of hb2, atI_nat (j := 0) rfl, _, rfl, _, _, rfl, rfl, e0, ?_⟩
        refine ⟨_, rfl, q, _, 1, _, rfl, rfl, SqL.of hq, atI_nat (j := 1) rfl, by show 3 ≤ sizeLine; decide, fun r nr => ?_⟩
        refine k _ r (s1.trans (s2.trans (same_new nr))) ?_
        rw [upd_same]
        show some (HO.lst [V.int (Til.absI lv.1), V.int ((-sl.1) % Til.absI lv.1), V.int (-sl.2)]) = some (HO.lst [V.int ((g.a : Nat) : Int), V.int ((g.b : Nat) : Int), V.int ((g.d : Nat) : Int)])
        rw [show (-sl.1) % Til.absI lv.1 = (g.b : Int) from e2, show -sl.2 = (g.d : Int) from e3, e1]
      case neg =>
        refine if_false_of (decide_eq_false hs) ?_
        have eu : Til.upw sl = sl := by unfold Til.upw; rw [if_neg hs]
        rw [eu] at e2 e3
        refine ⟨_, rfl, b, _, 0, _, rfl, rfl, SqL.of hb, atI_nat (j := 0) rfl, _, rfl, _, rfl, a, _, 0, _, rfl, rfl, SqL.of ha, atI_nat (j := 0) rfl, _, rfl, b, _, 0, _, rfl, rfl, SqL.of hb, atI_nat (j := 0) rfl, _, rfl, _, _, rfl, rfl, e0, ?_⟩
        refine ⟨_, rfl, a, _, 1, _, rfl, rfl, SqL.of ha, atI_nat (j := 1) rfl, by show 3 ≤ sizeLine; decide, fun r nr => ?_⟩
        refine k _ r (s1.trans (same_new nr)) ?_
        rw [upd_same]
        show some (HO.lst [V.int (Til.absI lv.1), V.int (sl.1 % Til.absI lv.1), V.int sl.2]) = some (HO.lst [V.int ((g.a : Nat) : Int), V.int ((g.b : Nat) : Int), V.int ((g.d : Nat) : Int)])
        rw [e2, e3, e1]
    refine if_true_of ?_ ?_
    · rw [decide_eq_false (by intro z; injection z with z; exact hz z)]
      rfl
    have bl := eg.bl
    have fs := Til.fdiv_small eg.bs hz
    refine ⟨_, rfl, a, _, 1, _, rfl, rfl, SqL.of ha, atI_nat (j := 1) rfl, _, rfl, b, _, 1, _, rfl, rfl, SqL.of hb, atI_nat (j := 1) rfl, _, _, rfl, rfl, ⟨hz, by omega⟩, ?_⟩
    refine ⟨_, rfl, a, _, 0, _, rfl, rfl, SqL.of ha, atI_nat (j := 0) rfl, _, rfl, _, rfl, b, _, 0, _, rfl, rfl, SqL.of hb, atI_nat (j := 0) rfl, _, _, rfl, rfl, .inl ⟨by omega, by omega⟩, _, _, rfl, rfl, ?_⟩
    refine ⟨_, rfl, a, _, 1, _, rfl, rfl, SqL.of ha, atI_nat (j := 1) rfl, _, rfl, _, rfl, b, _, 1, _, rfl, rfl, SqL.of hb, atI_nat (j := 1) rfl, _, _, rfl, rfl, .inl ⟨by omega, by omega⟩, _, _, rfl, rfl, ?_⟩
    refine ⟨by show 2 ≤ sizeLine; decide, fun q nq => ?_⟩
    have s2 := same_new (o := .lst (pr (Til.rest sl lv))) nq
    have hq : upd H1 q (.lst (pr (Til.rest sl lv))) q = some (.lst (pr (Til.rest sl lv))) := upd_same
    refine ⟨_, rfl, _, rfl, ⟨b, q, lv, Til.rest sl lv, _, _, rfl, s1.trans s2, s2 _ _ hb, hq, eg.step hz⟩, ?_⟩
    have l1 : lvl [some (.ref x), some (.ref y), some (.ref a), some (.ref b), v4, v5] H1 = lv.2.natAbs := by
      show snd2 (H1 b) = _
      rw [hb]
      rfl
    have l2 : lvl [some (.ref x), some (.ref y), some (.ref b), some (.ref q), some (.int (sl.2.fdiv lv.2)), some (.ref q)] (upd H1 q (.lst (pr (Til.rest sl lv)))) = (Til.rest sl lv).2.natAbs := by
      show snd2 (upd H1 q (.lst (pr (Til.rest sl lv))) q) = _
      rw [hq]
      rfl
    have := Til.rest_less sl hz
    exact Nat.lt_of_le_of_lt (Nat.le_of_eq l2) (Nat.lt_of_lt_of_le this (Nat.le_of_eq l1.symm))
  · rintro σ H' Q1 Q2 mo ⟨x1, q1, a1, ys, i1, v1, q2, q3, sq, at1, q4, b1, q5, q⟩
    exact ⟨x1, q1, a1, ys, i1, v1, q2, q3, sq, at1, q4, b1, q5, mo _ _ q⟩
end
end Oc
namespace Oc
open PySem PySem.Spec PyProof.Rows L2
/-! ### the first of some: the mathematics -/
theorem first_of {α : Type} {p : α → Prop} : ∀ l : List α, (∃ q ∈ l, p q) → ∃ (j : Nat) (q : α), l[j]? = some q ∧ p q ∧ ∀ (m : Nat) (q' : α), m < j → l[m]? = some q' → ¬ p q'
  | [], h => by obtain ⟨q, hq, _⟩ := h; cases hq
  | c :: l, h => by
    by_cases hc : p c
    · exact ⟨0, c, rfl, hc, fun m q' hm => absurd hm (Nat.not_lt_zero m)⟩
    · obtain ⟨q, hq, hp⟩ := h
      have hl : q ∈ l := by
        rcases List.mem_cons.mp hq with e | e
        · rw [e] at hp; exact absurd hp hc
        · exact e
      obtain ⟨j, q2, h1, h2, h3⟩ := first_of l ⟨q, hl, hp⟩
      refine ⟨j + 1, q2, h1, h2, fun m q' hm hq' => ?_⟩
      cases m with
      | zero => cases hq'; exact hc
      | succ m => exact h3 m q' (by omega) hq'
theorem findSome_range {β : Type} {f : Nat → Option β} {r : β} {j : Nat} (hj : f j = some r) (hn : ∀ m, m < j → f m = none) : ∀ n, j < n → (List.range n).findSome? f = some r
  | 0, h => absurd h (Nat.not_lt_zero j)
  | n + 1, h => by
    rw [List.range_succ, List.findSome?_append]
    by_cases c : j < n
    · rw [findSome_range hj hn n c]
      rfl
    · have e : j = n := by omega
      subst e
      have : (List.range j).findSome? f = none := by
        rw [List.findSome?_eq_none_iff]
        intro m hm
        exact hn m (List.mem_range.mp hm)
      rw [this]
      simp [hj]
theorem on_first {s : List Cell} {g : Ti01.Grid} (h : g ∈ Ti01.grids s) (hne : s ≠ []) (c : Cell) :
    ∃ (j : Nat) (q : Cell), s[j]? = some q ∧ Ti01.home g q = Ti01.home g c ∧ (∀ (m : Nat) (q' : Cell), m < j → s[m]? = some q' → ¬ Ti01.home g q' = Ti01.home g c) ∧ Ti01.on s g c = some (j, (c.1 - q.1, c.2 - q.2)) := by
  obtain ⟨j, q, h1, h2, h3⟩ := first_of (p := fun q => Ti01.home g q = Ti01.home g c) s (Til.grid_all h hne c)
  refine ⟨j, q, h1, h2, h3, ?_⟩
  unfold Ti01.on
  refine findSome_range (j := j) ?_ ?_ _ ?_
  · simp only [h1, if_pos h2]
  · intro m hm
    obtain ⟨hlt, _⟩ := List.getElem?_eq_some_iff.mp h1
    have hq : s[m]? = some s[m] := List.getElem?_eq_getElem (by omega)
    simp only [hq]
    rw [if_neg (h3 m _ hm hq)]
  · exact (List.getElem?_eq_some_iff.mp h1).1
theorem grid_small {s : List Cell} {g : Ti01.Grid} (h : g ∈ Ti01.grids s) (hne : s ≠ []) (few : s.length ≤ 12) : GrOk g := by
  obtain ⟨pos, had, hb, _⟩ := Til.mem_grids h hne
  have h1 : g.a ≤ g.a * g.d := Nat.le_mul_of_pos_right _ pos.d
  have h2 : g.d ≤ g.a * g.d := Nat.le_mul_of_pos_left _ pos.a
  exact ⟨pos, by omega, by omega, by omega⟩
theorem edge_facts {s : Ti01.St} (g : GoodSt s) : (Ti01.edge s).length ≤ 48 ∧ ∀ d ∈ Ti01.edge s, d < 4 := by
  obtain ⟨m, r, ed⟩ := Geo.edge_round g.good g.ne
  have := r.most
  have := g.few
  refine ⟨?_, ?_⟩
  · rw [ed, List.length_map, Geo.seg_len]
    omega
  · intro d hd
    rw [ed, List.mem_map] at hd
    obtain ⟨x, hx, rfl⟩ := hd
    exact (((Til.seg_nodup r).2 x).mp hx).1
theorem gone_small {l : List Nat} (h : ∀ d ∈ l, d < 4) : (Ti01.gone l).2.natAbs ≤ l.length := by
  rw [gone_is l h]
  have h1 : l.count 1 ≤ l.length := List.count_le_length
  have h3 : l.count 3 ≤ l.length := List.count_le_length
  show ((l.count 1 : Int) - (l.count 3 : Int)).natAbs ≤ _
  omega
theorem moves_small {l : List Nat} (h4 : ∀ d ∈ l, d < 4) (hl : l.length ≤ 48) (i a b : Nat) : (Ti01.moves l (i, a, b)).1.2.natAbs ≤ 1000 ∧ (Ti01.moves l (i, a, b)).2.2.natAbs ≤ 1000 := by
  have w1 := from_len l i
  have wm : ∀ d ∈ Ti01.from_ l i, d < 4 := fun d hd => h4 d (from_mem hd)
  constructor
  · have := gone_small (l := (Ti01.from_ l i).take (a + b)) (fun d hd => wm d (List.mem_of_mem_take hd))
    rw [List.length_take] at this
    show (Ti01.gone ((Ti01.from_ l i).take (a + b))).2.natAbs ≤ 1000
    omega
  · have := gone_small (l := ((Ti01.from_ l i).drop a).take (l.length / 2 - a)) (fun d hd => wm d (List.mem_of_mem_drop (List.mem_of_mem_take hd)))
    rw [List.length_take, List.length_drop] at this
    show (Ti01.gone (((Ti01.from_ l i).drop a).take (l.length / 2 - a))).2.natAbs ≤ 1000
    omega
/-- a cut's grid: its place among all -/
theorem gridOf_first {s : Ti01.St} (h : GoodSt s) {i a b : Nat} (hc : (Ti01.cuts (Ti01.edge s)).contains (i, a, b) = true) :
    ∃ (j : Nat) (g : Ti01.Grid), (Ti01.grids s)[j]? = some g ∧ (∀ (m : Nat) (g' : Ti01.Grid), m < j → (Ti01.grids s)[m]? = some g' → ¬ g' = g) ∧ Til.Pos g ∧ g.b < g.a ∧ g.a * g.d = s.length ∧ Ti01.isIn g (Ti01.moves (Ti01.edge s) (i, a, b)).1 = true ∧ Ti01.isIn g (Ti01.moves (Ti01.edge s) (i, a, b)).2 = true ∧
      (Ti01.step s (.gridOf i a b)).2 = [(j : Int)] := by
  obtain ⟨g0, hg0, i1, i2⟩ := Til.cut_grid h.good h.ne h.nd hc
  have area := Til.cut_area h.good h.ne h.nd hc
  have pos : 0 < s.length := List.length_pos_iff.mpr h.ne
  obtain ⟨j, g, h1, h2, h3⟩ := first_of (p := fun g => (Ti01.isIn g (Ti01.moves (Ti01.edge s) (i, a, b)).1 && Ti01.isIn g (Ti01.moves (Ti01.edge s) (i, a, b)).2) = true) (Ti01.grids s) ⟨g0, hg0, by rw [i1, i2]; rfl⟩
  rw [Bool.and_eq_true] at h2
  obtain ⟨p1, p2, p3, _⟩ := Til.mem_grids (List.mem_of_getElem? h1) h.ne
  refine ⟨j, g, h1, ?_, p1, p3, p2, h2.1, h2.2, ?_⟩
  · intro m g' hm hg' e
    refine h3 m g' hm hg' ?_
    rw [e, h2.1, h2.2]
    rfl
  · show (if (Ti01.cuts (Ti01.edge s)).contains (i, a, b) = false then [-3] else match (Ti01.grids s).findIdx? fun g => Ti01.isIn g (Ti01.moves (Ti01.edge s) (i, a, b)).1 && Ti01.isIn g (Ti01.moves (Ti01.edge s) (i, a, b)).2 with
      | none => [-3]
      | some n => Ti01.ints [n]) = _
    rw [hc, if_neg (by decide)]
    have : ((Ti01.grids s).findIdx? fun g => Ti01.isIn g (Ti01.moves (Ti01.edge s) (i, a, b)).1 && Ti01.isIn g (Ti01.moves (Ti01.edge s) (i, a, b)).2) = some j := by
      rw [List.findIdx?_eq_some_iff_getElem]
      obtain ⟨hlt, he⟩ := List.getElem?_eq_some_iff.mp h1
      refine ⟨hlt, ?_, fun m hm => ?_⟩
      · rw [he, h2.1, h2.2]
        rfl
      · exact h3 m _ hm (List.getElem?_eq_getElem (by omega))
    rw [this]
    rfl
/-! ### rows of numbers as data -/
def dRow (c : Nat × Nat × Nat) : PyData := .list (dInts [c.1, c.2.1, c.2.2])
theorem trips_dp {K : PySem.W.Frag} {H0 H : Hp} {vs : List V} {cs : List (Nat × Nat × Nat)} (h : Al (TripAt H0 H) vs cs) : DpAll K H vs (cs.map dRow) := by
  induction h with
  | nil => exact .nil
  | cons h _ ih =>
    obtain ⟨b, rfl, _, hb⟩ := h
    exact .cons (.lst (SqL.of hb) (dInts_dp _)) ih
theorem dRow_lay (c : Nat × Nat × Nat) : (dRow c).canLay0 = true := by
  have := dInts_lay [c.1, c.2.1, c.2.2]
  simp only [dRow, PyData.canLay0]
  exact this
theorem dRow_depth (c : Nat × Nat × Nat) : (dRow c).depth ≤ 2 := by
  have := dInts_depth [c.1, c.2.1, c.2.2]
  simp only [dRow, PyData.depth]
  omega
theorem dRows_lay : ∀ cs : List (Nat × Nat × Nat), PyData.canLayAll0 (cs.map dRow) = true
  | [] => by simp [PyData.canLayAll0]
  | c :: cs => by simp [PyData.canLayAll0, dRow_lay c, dRows_lay cs]
theorem dRows_depth : ∀ cs : List (Nat × Nat × Nat), PyData.depthAll (cs.map dRow) ≤ 2
  | [] => by simp [PyData.depthAll]
  | c :: cs => by
    have := dRows_depth cs
    have := dRow_depth c
    simp only [List.map_cons, PyData.depthAll]
    omega
theorem dRows_shaped (cs : List (Nat × Nat × Nat)) : SeqAt.shaped (.list (cs.map dRow)) = true := by
  unfold SeqAt.shaped
  have h1 := dRows_lay cs
  have h2 := dRows_depth cs
  simp only [PyData.canLay0, PyData.depth, Bool.and_eq_true]
  exact ⟨h1, decide_eq_true (by omega)⟩
theorem dRow_eqv (a c : Nat × Nat × Nat) : PyData.eqv (dRow a) (dRow c) = decide (a = c) := by
  unfold dRow
  rw [dInts_eq]
  refine decide_eq_decide.mpr ⟨fun e => ?_, fun e => by rw [e]⟩
  injection e with e1 e
  injection e with e2 e
  injection e with e3 _
  exact Prod.ext e1 (Prod.ext e2 e3)
theorem trip_inj {g g' : Ti01.Grid} (h : trip g = trip g') : g = g' := by
  obtain ⟨a, b, d⟩ := g
  obtain ⟨a', b', d'⟩ := g'
  unfold trip at h
  simp only [Prod.mk.injEq] at h
  obtain ⟨rfl, rfl, rfl⟩ := h
  rfl
section
variable {P : Program} {w : World} {K : PySem.W.Frag} {mg : Str → Option Value} {base : Heap}
/-! ### answer_tiles -/
abbrev sTiles : Stmt := top 38
def aTiles (l : List Nat) : List Int := Ti01.ints [if (Ti01.cuts l).isEmpty = true then 0 else 1]
def spTiles : Sp := fun vs H Q _ => ∃ e l, vs = [.ref e] ∧ H e = some (.lst (nv l)) ∧ l.length ≤ 100 ∧ ∀ H' p, Same H H' → H p = none → H' p = some (.lst (iv (aTiles l))) → Q (.ref p) H'
theorem scTiles : FnScope ["edge"] ["edge"] (defScope sTiles) := ⟨rfl, rfl, rfl, by decide +kernel, rfl, by decide +kernel, by decide +kernel⟩
theorem ok_tiles {f : Addr} {fd : FuncData} (F : Fun K "answer_tiles" "answer_tiles" sTiles f fd) (ml : mg "len" = none) (cC : Cal P w K mg base "cuts_of" 4 ["edge"] spCuts) : FnOk P w K mg base CX0 5 f fd ["edge"] spTiles := by
  obtain ⟨fC, fdC, gC, kC, bC, oC⟩ := cC
  refine F.ok scTiles (fun vs H Q E h => ?_) (fun cdv A outer s H vs Q E hr h => ?_)
  · obtain ⟨e, l, rfl, _⟩ := h
    rfl
  refine ⟨_, pss_one (ps_ret (pe_lst (pa_cons (pe_ifExp (pt_cmpR op_gt (pe_callB call_len_seq (by rfl) ml PySem.boot_len (pa_cons (pe_call oC hr rfl gC kC bC .nil pass0 (pa_cons (pv 0) pa_nil)) pa_nil)) pe_int (nomark _)) pe_int pe_int) pa_nil))), ?_⟩
  obtain ⟨e, l, rfl, he, hlen, k⟩ := h
  refine ⟨_, rfl, e, l, rfl, he, hlen, fun H1 p xs s1 hp al => ?_⟩
  refine ⟨p, _, rfl, .inl (SqL.of hp), _, _, rfl, rfl, _, rfl, ?_⟩
  have lx := al.length
  cases ec : Ti01.cuts l with
  | nil =>
    rw [ec] at lx
    refine if_false_of (decide_eq_false (by rw [lx]; decide)) ?_
    refine ⟨by show 1 ≤ sizeLine; decide, fun q nq => k _ q (s1.trans (same_new nq)) (s1.free nq) ?_⟩
    rw [upd_same]
    unfold aTiles
    rw [ec]
    rfl
  | cons c cs =>
    rw [ec, List.length_cons] at lx
    refine if_true_of (decide_eq_true (by rw [lx]; omega)) ?_
    refine ⟨by show 1 ≤ sizeLine; decide, fun q nq => k _ q (s1.trans (same_new nq)) (s1.free nq) ?_⟩
    rw [upd_same]
    unfold aTiles
    rw [ec]
    rfl
/-! ### answer_on -/
abbrev sOn : Stmt := top 36
def spOn : Sp := fun vs H Q _ => ∃ q s n x y, vs = [.ref q, .int ((n : Nat) : Int), .int ((x : Nat) : Int), .int ((y : Nat) : Int)] ∧ CellsAt H q s ∧ s ≠ [] ∧ s.length ≤ 12 ∧
  ∀ H' p, Same H H' → H p = none → H' p = some (.lst (iv (Ti01.step s (.on n x y)).2)) → Q (.ref p) H'
theorem scOn : FnScope ["squares", "n", "x", "y", "grids", "number"] ["squares", "n", "x", "y"] (defScope sOn) := ⟨rfl, rfl, rfl, by decide +kernel, rfl, by decide +kernel, by decide +kernel⟩
theorem ok_on {f : Addr} {fd : FuncData} (F : Fun K "answer_on" "answer_on" sOn f fd) (ml : mg "len" = none) {t : Tok} (mA : mg "LAST_ASKED_PLACE" = some (.int 1000 t)) (cG : Cal P w K mg base "grids_of" 3 ["squares"] spGrids)
    (cHs : Cal P w K mg base "homes_in" 2 ["grid", "squares"] spHomes) (cH : Cal P w K mg base "home_in" 1 ["grid", "place"] spHome) : FnOk P w K mg base CX0 4 f fd ["squares", "n", "x", "y"] spOn := by
  obtain ⟨fG, fdG, gG, kG, bG, oG⟩ := cG
  obtain ⟨fS, fdS, gS, kS, bS, oS⟩ := cHs
  obtain ⟨fH, fdH, gH, kH, bH, oH⟩ := cH
  refine F.ok scOn (fun vs H Q E h => ?_) (fun cdv A outer s H vs Q E hr h => ?_)
  · obtain ⟨q, s, n, x, y, rfl, _⟩ := h
    rfl
  have hr2 : Room 2 _ := hr.mono (by decide)
  have hr1 : Room 1 _ := hr.mono (by decide)
  refine ⟨_, pss_cons (ps_if (PW.pt (pw_or (pt_cmpR op_gt (pv 2) (pe_glob (v := .int 1000) rfl mA ⟨_, rfl⟩) (nomark _)) (pw_or1 (pt_cmpR op_gt (pv 3) (pe_glob (v := .int 1000) rfl mA ⟨_, rfl⟩) (nomark _)))))
      (pss_one (ps_ret (pe_lst (pa_cons (pe_un un_neg pe_int) pa_nil)))) pss_nil)
    (pss_cons (ps_set (i := 4) scOn.nd rfl (.inl rfl) (pe_call oG hr rfl gG kG bG .nil pass0 (pa_cons (pv 0) pa_nil)))
    (pss_cons (ps_if (pt_cmpR op_ge (pv 1) (pe_callB call_len_seq (by rfl) ml PySem.boot_len (pa_cons (pv 4) pa_nil)) (nomark _)) (pss_one (ps_ret (pe_lst (pa_cons (pe_un un_neg pe_int) pa_nil)))) pss_nil)
    (pss_cons (ps_set (i := 5) scOn.nd rfl (.inl rfl) (pe_bm PySem.F.plainAttrs_list PySem.F.slot_list_index PySem.F.type_list_index (mt_indexD (hu65 hr))
        (pe_call oS hr2 rfl gS kS bS .nil pass0 (pa_cons (pe_ix ix_list (pv 4) (pv 1) (fun _ _ => rfl)) (pa_cons (pv 0) pa_nil)))
        (pa_cons (pe_call oH hr1 rfl gH kH bH .nil pass0 (pa_cons (pe_ix ix_list (pv 4) (pv 1) (fun _ _ => rfl)) (pa_cons (pe_tup (pa_cons (pv 2) (pa_cons (pv 3) pa_nil))) pa_nil))) pa_nil)))
    (pss_one (ps_ret (pe_lst (pa_cons (pv 5) (pa_cons (pe_op op_sub (pv 2) (pe_ix ix_tup (pe_ix ix_list (pv 0) (pv 5) (fun _ _ => rfl)) pe_int (fun _ _ => rfl)))
      (pa_cons (pe_op op_sub (pv 3) (pe_ix ix_tup (pe_ix ix_list (pv 0) (pv 5) (fun _ _ => rfl)) pe_int (fun _ _ => rfl))) pa_nil))))))))), ?_⟩
  obtain ⟨q, s, n, x, y, rfl, ⟨ys, hq, cv⟩, hne, few, k⟩ := h
  have est : (Ti01.step s (.on n x y)).2 = if 1000 < x ∨ 1000 < y then [-1] else match (Ti01.grids s)[n]? with
    | none => [-2]
    | some g => match Ti01.on s g ((x : Int), (y : Int)) with
      | none => [-3]
      | some r => [(r.1 : Int), r.2.1, r.2.2] := rfl
  have low : (1000 < x ∨ 1000 < y) → ∀ r, H r = none → Q (.ref r) (upd H r (.lst [V.int (-1)])) := by
    intro hl r nr
    refine k _ r (same_new nr) nr ?_
    rw [upd_same, est, if_pos hl]
    rfl
  refine ⟨_, rfl, _, _, rfl, rfl, _, rfl, ?_⟩
  by_cases c1 : 1000 < x
  case pos =>
    refine if_true_of (decide_eq_true (by omega)) ?_
    refine if_true_of rfl ?_
    exact ⟨_, rfl, by show 1 ≤ sizeLine; decide, low (.inl c1)⟩
  refine if_false_of (decide_eq_false (by omega)) ?_
  refine ⟨_, rfl, _, _, rfl, rfl, _, rfl, ?_⟩
  by_cases c2 : 1000 < y
  case pos =>
    refine if_true_of (decide_eq_true (by omega)) ?_
    exact ⟨_, rfl, by show 1 ≤ sizeLine; decide, low (.inr c2)⟩
  refine if_false_of (decide_eq_false (by omega)) ?_
  rw [if_neg (by omega)] at est
  refine ⟨_, rfl, q, s, rfl, ⟨ys, hq, cv⟩, few, fun H1 p xs s1 hp al => ?_⟩
  have lx := al.length
  rw [List.length_map] at lx
  refine ⟨_, rfl, _, rfl, p, _, rfl, .inl (SqL.of hp), _, _, rfl, rfl, _, rfl, ?_⟩
  by_cases c3 : n < (Ti01.grids s).length
  case neg =>
    refine if_true_of (decide_eq_true (by omega)) ?_
    refine ⟨_, rfl, by show 1 ≤ sizeLine; decide, fun r nr => k _ r (s1.trans (same_new nr)) (s1.free nr) ?_⟩
    rw [upd_same, est, List.getElem?_eq_none (by omega)]
    rfl
  refine if_false_of (decide_eq_false (by omega)) ?_
  have hg : (Ti01.grids s)[n]? = some (Ti01.grids s)[n] := List.getElem?_eq_getElem c3
  have hxn : xs[n]? = some (xs[n]'(by omega)) := List.getElem?_eq_getElem _
  generalize xs[n]'(by omega) = xv at hxn
  generalize (Ti01.grids s)[n] = g at hg
  have hmem := List.mem_of_getElem? hg
  have gok := grid_small hmem hne few
  obtain ⟨tc, htc, b, rfl, _, hb⟩ := al.at hxn
  rw [List.getElem?_map, hg] at htc
  obtain rfl := Option.some.inj htc
  have hb' : H1 b = some (.lst (gv g)) := hb
  rw [hg] at est
  obtain ⟨j, c, hj, hh, hno, hon⟩ := on_first hmem hne ((x : Int), (y : Int))
  simp only [hon] at est
  obtain ⟨hjl, _⟩ := List.getElem?_eq_some_iff.mp hj
  have ly := cv.length
  refine ⟨_, rfl, _, rfl, p, _, _, _, rfl, rfl, SqL.of hp, atI_nat hxn, _, rfl, b, g, q, s, rfl, hb', gok, ⟨ys, s1 _ _ hq, cv.same s1⟩, by omega, fun H2 r s2 ⟨zs, hr2', cvz⟩ => ?_⟩
  refine ⟨.inl ⟨rfl, _, SqL.of hr2'⟩, _, rfl, _, rfl, p, _, _, _, rfl, rfl, SqL.of (s2 _ _ hp), atI_nat hxn, _, rfl, _, rfl, by show 2 ≤ sizeLine; decide, fun t nt => ?_⟩
  have s3 := same_new (o := .tup [V.int (x : Int), V.int (y : Int)]) nt
  refine ⟨b, g, _, ((x : Int), (y : Int)), rfl, s3 _ _ (s2 _ _ hb'), gok, tup_new, fun H4 v4 s4 tv => ?_⟩
  have s14 := s1.trans (s2.trans (s3.trans s4))
  have hr4 := s4 _ _ (s3 _ _ hr2')
  have cv4 := cvz.same (s3.trans s4)
  have hjz : (((s.map (Ti01.home g)).map dCell))[j]? = some (dCell (Ti01.home g c)) := by
    rw [List.getElem?_map, List.getElem?_map, hj]
    rfl
  refine ⟨r, _, dCell (Ti01.home g ((x : Int), (y : Int))), (s.map (Ti01.home g)).map dCell, j, _, rfl, rfl, .lst (SqL.of hr4) cv4.dp, tv.dp, dCells_shaped _, dCell_shaped _, hjz, ?_, ?_, ?_⟩
  · rw [dCell_eqv, hh]
    exact beq_self_eq_true _
  · intro m z' hm hz'
    have hml : m < s.length := by omega
    have hsm : s[m]? = some s[m] := List.getElem?_eq_getElem hml
    rw [List.getElem?_map, List.getElem?_map, hsm] at hz'
    obtain rfl := Option.some.inj hz'
    rw [dCell_eqv]
    exact beq_eq_false_iff_ne.mpr (hno m _ hm hsm)
  have hyj : ys[j]? = some (ys[j]'(by omega)) := List.getElem?_eq_getElem _
  generalize ys[j]'(by omega) = yv at hyj
  obtain ⟨c', hc', bt, rfl, hbt⟩ := cv.at hyj
  rw [hj] at hc'
  obtain rfl := Option.some.inj hc'
  refine ⟨_, rfl, _, rfl, _, rfl, _, rfl, q, _, _, _, rfl, rfl, SqL.of (s14 _ _ hq), atI_nat hyj, bt, _, 0, _, rfl, rfl, SqT.of (s14 _ _ hbt), atI_nat (j := 0) rfl, _, _, rfl, rfl, ?_⟩
  refine ⟨_, rfl, _, rfl, _, rfl, q, _, _, _, rfl, rfl, SqL.of (s14 _ _ hq), atI_nat hyj, bt, _, 1, _, rfl, rfl, SqT.of (s14 _ _ hbt), atI_nat (j := 1) rfl, _, _, rfl, rfl, by show 3 ≤ sizeLine; decide, fun o no => ?_⟩
  refine k _ o (s14.trans (same_new no)) (s14.free no) ?_
  rw [upd_same, est]
  rfl
/-! ### answer_gridof -/
abbrev sGof : Stmt := top 37
def spGof (PT : Addr) : Sp := fun vs H Q _ => ∃ q s i a b, vs = [.ref q, .int ((i : Nat) : Int), .int ((a : Nat) : Int), .int ((b : Nat) : Int)] ∧ CellsAt H q s ∧ GoodSt s ∧ LamX.Tabs [(PT, lamName)] H ∧
  ∀ H' p, LamX.ExtN H H' → LamX.Tabs [(PT, lamName)] H' → Fresh H p → H' p = some (.lst (iv (Ti01.step s (.gridOf i a b)).2)) → Q (.ref p) H'
theorem scGof : FnScope ["squares", "i", "a", "b", "edge", "moves"] ["squares", "i", "a", "b"] (defScope sGof) := ⟨rfl, rfl, rfl, by decide +kernel, rfl, by decide +kernel, by decide +kernel⟩
theorem ok_gof {f PT : Addr} {fd : FuncData} (F : Fun K "answer_gridof" "answer_gridof" sGof f fd) (cE : Cal P w K mg base "edge_of" 3 ["squares"] (spEdge PT)) (cC : Cal P w K mg base "is_cut" 3 ["edge", "i", "a", "b"] spCut)
    (cM : Cal P w K mg base "moves_of" 3 ["edge", "i", "a", "b"] spMv) (cG : Cal P w K mg base "grids_of" 3 ["squares"] spGrids) (cB : Cal P w K mg base "grid_by" 1 ["first", "second"] spGby) : FnOk P w K mg base CX0 4 f fd ["squares", "i", "a", "b"] (spGof PT) := by
  obtain ⟨fE, fdE, gE, kE, bE, oE⟩ := cE
  obtain ⟨fC, fdC, gC, kC, bC, oC⟩ := cC
  obtain ⟨fM, fdM, gM, kM, bM, oM⟩ := cM
  obtain ⟨fG, fdG, gG, kG, bG, oG⟩ := cG
  obtain ⟨fB, fdB, gB, kB, bB, oB⟩ := cB
  refine F.ok scGof (fun vs H Q E h => ?_) (fun cdv A outer s H vs Q E hr h => ?_)
  · obtain ⟨q, s, i, a, b, rfl, _⟩ := h
    rfl
  have hr1 : Room 1 _ := hr.mono (by decide)
  refine ⟨_, pss_cons (ps_set (i := 4) scGof.nd rfl (.inl rfl) (pe_call oE hr rfl gE kE bE .nil pass0 (pa_cons (pv 0) pa_nil)))
    (pss_cons (ps_if (pt_not (pt_val (pe_call oC hr rfl gC kC bC .nil pass0 (pa_cons (pv 4) (pa_cons (pv 1) (pa_cons (pv 2) (pa_cons (pv 3) pa_nil))))))) (pss_one (ps_ret (pe_lst (pa_cons (pe_un un_neg pe_int) pa_nil)))) pss_nil)
    (pss_cons (ps_set (i := 5) scGof.nd rfl (.inl rfl) (pe_call oM hr rfl gM kM bM .nil pass0 (pa_cons (pv 4) (pa_cons (pv 1) (pa_cons (pv 2) (pa_cons (pv 3) pa_nil))))))
    (pss_one (ps_ret (pe_lst (pa_cons (pe_bm PySem.F.plainAttrs_list PySem.F.slot_list_index PySem.F.type_list_index (mt_indexD (hu65 hr)) (pe_call oG hr rfl gG kG bG .nil pass0 (pa_cons (pv 0) pa_nil))
      (pa_cons (pe_call oB hr1 rfl gB kB bB .nil pass0 (pa_cons (pe_ix ix_list (pv 5) pe_int (fun _ _ => rfl)) (pa_cons (pe_ix ix_list (pv 5) pe_int (fun _ _ => rfl)) pa_nil))) pa_nil)) pa_nil)))))), ?_⟩
  obtain ⟨q, s, i, a, b, rfl, hq, gs, hT, k⟩ := h
  obtain ⟨el, e4⟩ := edge_facts gs
  refine ⟨_, rfl, q, s, rfl, hq, hT, gs.good, gs.ne, gs.few, fun H1 e x1 T1 he => ?_⟩
  refine ⟨_, rfl, _, rfl, _, rfl, _, rfl, e, _, i, a, b, rfl, he, by omega, fun H2 s2 => ⟨_, rfl, ?_⟩⟩
  have em := cuts_mem (Ti01.edge s) i a b
  have T2 := T1.ext s2
  have x2 := x1.trans (extN_same s2)
  cases hc : cutB (Ti01.edge s) i a b with
  | false =>
    refine if_true_of rfl ?_
    refine ⟨_, rfl, by show 1 ≤ sizeLine; decide, fun r nr => ?_⟩
    have s3 := same_new (o := .lst [V.int (-3)]) nr
    refine k _ r (x2.trans (extN_same s3)) (T2.ext s3) (ext_free x2 nr) ?_
    rw [upd_same]
    have : (Ti01.step s (.gridOf i a b)).2 = [-3] := by
      show (if (Ti01.cuts (Ti01.edge s)).contains (i, a, b) = false then [-3] else _) = _
      rw [em, hc, if_pos rfl]
    rw [this]
    rfl
  | true =>
    refine if_false_of rfl ?_
    rw [hc] at em
    obtain ⟨j, g, hj, hno, pg, hgb, had, i1, i2, hst⟩ := gridOf_first gs em
    have area := Til.cut_area gs.good gs.ne gs.nd em
    obtain ⟨m1, m2⟩ := moves_small e4 el i a b
    refine ⟨_, rfl, _, rfl, _, rfl, _, rfl, e, _, i, a, b, rfl, s2 _ _ he, by omega, e4, cutB_half hc, fun H3 p x y s3 hp hx hy => ?_⟩
    refine ⟨_, rfl, q, s, rfl, (hq.ext x2).same s3, gs.few, fun H4 r xs s4 hr4 al => ?_⟩
    refine ⟨.inl ⟨rfl, _, SqL.of hr4⟩, _, rfl, p, _, 0, _, rfl, rfl, SqL.of (s4 _ _ hp), atI_nat (j := 0) rfl, _, rfl, p, _, 1, _, rfl, rfl, SqL.of (s4 _ _ hp), atI_nat (j := 1) rfl, ?_⟩
    refine ⟨x, y, _, _, s.length, g, rfl, s4 _ _ hx, s4 _ _ hy, area, List.length_pos_iff.mpr gs.ne, m1, m2, pg, hgb, had, i1, i2, fun H5 t s5 ht => ?_⟩
    have al5 : Al (TripAt H3 H5) xs ((Ti01.grids s).map trip) := al.mono fun v c h => h.same s5
    have hjz : (((Ti01.grids s).map trip).map dRow)[j]? = some (dRow (trip g)) := by
      rw [List.getElem?_map, List.getElem?_map, hj]
      rfl
    refine ⟨r, _, dRow (trip g), ((Ti01.grids s).map trip).map dRow, j, _, rfl, rfl, .lst (SqL.of (s5 _ _ hr4)) (trips_dp al5), .lst (SqL.of ht) (dInts_dp _), dRows_shaped _, dInts_shaped _, hjz, ?_, ?_, ?_⟩
    · rw [dRow_eqv]
      exact decide_eq_true rfl
    · intro m z' hm hz'
      obtain ⟨hjl, _⟩ := List.getElem?_eq_some_iff.mp hj
      have hsm : (Ti01.grids s)[m]? = some (Ti01.grids s)[m] := List.getElem?_eq_getElem (by omega)
      rw [List.getElem?_map, List.getElem?_map, hsm] at hz'
      obtain rfl := Option.some.inj hz'
      rw [dRow_eqv]
      exact decide_eq_false fun z => hno m _ hm hsm (trip_inj z)
    · refine ⟨by show 1 ≤ sizeLine; decide, fun o no => ?_⟩
      have s6 := same_new (o := .lst [V.int ((j : Nat) : Int)]) no
      have s36 := s3.trans (s4.trans s5)
      refine k _ o (x2.trans (extN_same (s36.trans s6))) (T2.ext (s36.trans s6)) (ext_free (x2.trans (extN_same s36)) no) ?_
      rw [upd_same, hst]
      rfl
end
end Oc
namespace Oc
open PySem PySem.Spec PyProof.Rows L2
/-! ### a call as its numbers -/
def numsOf : Ti01.Call → List Int
  | .shape n => 0 :: (n.length : Int) :: Ti01.ints n
  | .edge => [1]
  | .cut => [2]
  | .cuts => [3]
  | .moves i a b => [4, (i : Int), (a : Int), (b : Int)]
  | .grids => [5]
  | .on n x y => [6, (n : Int), (x : Int), (y : Int)]
  | .gridOf i a b => [7, (i : Int), (a : Int), (b : Int)]
  | .tiles => [8]
def okCall : Ti01.Call → Prop
  | .shape n => n.length ≤ 30
  | _ => True
theorem nums_len {c : Ti01.Call} (h : okCall c) : 1 ≤ (numsOf c).length ∧ (numsOf c).length ≤ 32 := by
  cases c <;> simp [numsOf, ints_len]
  exact h
theorem one_call {s : Ti01.St} {l out : List Int} (h : Par.Rest s l out) (hl : l ≠ []) : ∃ c t out2, l = numsOf c ++ t ∧ okCall c ∧ out = Par.tell1 (Ti01.step s c).2 ++ out2 ∧ Par.Rest (Ti01.step s c).1 t out2 := by
  cases l with
  | nil => exact absurd rfl hl
  | cons p r =>
    cases Par.one_of h with
    | shape n t out2 e b h1 h2 => exact ⟨.shape n, t, out2, e, b, h1, h2⟩
    | edge t out2 e h1 h2 => exact ⟨.edge, t, out2, e, trivial, h1, h2⟩
    | cut t out2 e h1 h2 => exact ⟨.cut, t, out2, e, trivial, h1, h2⟩
    | cuts t out2 e h1 h2 => exact ⟨.cuts, t, out2, e, trivial, h1, h2⟩
    | moves i a b t out2 e _ _ _ h1 h2 => exact ⟨.moves i a b, t, out2, e, trivial, h1, h2⟩
    | grids t out2 e h1 h2 => exact ⟨.grids, t, out2, e, trivial, h1, h2⟩
    | on n x y t out2 e _ _ _ h1 h2 => exact ⟨.on n x y, t, out2, e, trivial, h1, h2⟩
    | gridof i a b t out2 e _ _ _ h1 h2 => exact ⟨.gridOf i a b, t, out2, e, trivial, h1, h2⟩
    | tiles t out2 e h1 h2 => exact ⟨.tiles, t, out2, e, trivial, h1, h2⟩
theorem iv_at {l : List Int} {i : Nat} {x : Int} (h : l[i]? = some x) : (iv l)[i]? = some (.int x) := by
  unfold iv
  rw [List.getElem?_map, h]
  rfl
theorem ext_seq {K : PySem.W.Frag} {H H' : Hp} {a : Addr} {xs : List V} (e : LamX.ExtN H H') (h : SqL K H a xs) : SqL K H' a xs := by
  rcases h with (h | ⟨o, h⟩) | h
  · exact .inl (.inl (e _ _ h (by intro ps z; cases z)))
  · exact .inl (.inr ⟨o, e _ _ h (by intro ps z; cases z)⟩)
  · exact .inr h
theorem cells_ne {H : Hp} {q p : Addr} {cs : List Cell} {T : List Int} (h : CellsAt H q cs) (hne : cs ≠ []) (hp : H p = some (.lst (iv T))) : q ≠ p := by
  intro e
  obtain ⟨xs, hx, cv⟩ := h
  rw [e, hp] at hx
  injection hx with hx
  injection hx with hx
  cases cv with
  | nil => exact hne rfl
  | cons h0 _ =>
    obtain ⟨b, rfl, _⟩ := h0
    cases T with
    | nil => cases hx
    | cons x T =>
      injection hx with hx _
      cases hx
theorem cells_upd {H : Hp} {q p : Addr} {cs : List Cell} {T : List Int} {ys : List V} (h : CellsAt H q cs) (hne : cs ≠ []) (hp : H p = some (.lst (iv T))) : CellsAt (upd H p (.lst ys)) q cs := by
  have n := cells_ne h hne hp
  obtain ⟨xs, hx, cv⟩ := h
  exact ⟨xs, by rw [upd_ne n]; exact hx, cv.upd hp⟩
theorem big_ok {n : Nat} (h : n ≤ 10000000) : n < sizeLine := Nat.lt_of_le_of_lt h (by decide)
section
variable {P : Program} {w : World} {K : PySem.W.Frag} {mg : Str → Option Value} {base : Heap}
/-- how long the call at a place is -/
def spLen (K : PySem.W.Frag) : Sp := fun vs H Q _ => ∃ a l i c t, vs = [.ref a, .int ((i : Nat) : Int)] ∧ SqL K H a (iv l) ∧ l.drop i = numsOf c ++ t ∧ ∀ H', Same H H' → Q (.int ((numsOf c).length : Int)) H'
/-- what one call answers -/
def spTo (PT : Addr) : Sp := fun vs H Q _ => ∃ x q c s, vs = [.ref x, .ref q] ∧ H x = some (.lst (iv (numsOf c))) ∧ okCall c ∧ CellsAt H q s ∧ GoodSt s ∧ LamX.Tabs [(PT, lamName)] H ∧
  ∀ H' p, LamX.ExtN H H' → LamX.Tabs [(PT, lamName)] H' → Fresh H p → H' p = some (.lst (iv (Ti01.step s c).2)) → Q (.ref p) H'
/-! ### answers -/
abbrev sAns : Stmt := top 41
def spAns (K : PySem.W.Frag) (PT : Addr) : Sp := fun vs H Q _ => ∃ a l, vs = [.ref a] ∧ SqL K H a (iv l) ∧ l.length ≤ 640 ∧ PyTi01.answers_asked l = true ∧ LamX.Tabs [(PT, lamName)] H ∧
  ∀ H' p, H' p = some (.lst (iv (PyTi01.answers l))) → Q (.ref p) H'
theorem scAns : FnScope ["calls", "squares", "told", "start", "end", "call", "answer"] ["calls"] (defScope sAns) := ⟨rfl, rfl, rfl, by decide +kernel, rfl, by decide +kernel, by decide +kernel⟩
theorem ok_ans {f PT : Addr} {fd : FuncData} {n : Nat} (hn : 1 ≤ n) (F : Fun K "answers" "answers" sAns f fd) (ml : mg "len" = none) {tk : Tok} (mS : mg "SHAPE" = some (.int 0 tk)) (cL : Cal P w K mg base "call_length" 1 ["calls", "start"] (spLen K))
    (cT : Cal P w K mg base "answer_to" n ["call", "squares"] (spTo PT)) (cS : Cal P w K mg base "squares_of" 1 ["numbers"] spSq) : FnOk P w K mg base CX0 (n + 1) f fd ["calls"] (spAns K PT) := by
  obtain ⟨fL, fdL, gL, kL, bL, oL⟩ := cL
  obtain ⟨fT, fdT, gT, kT, bT, oT⟩ := cT
  obtain ⟨fS, fdS, gS, kS, bS, oS⟩ := cS
  refine F.ok scAns (fun vs H Q E h => ?_) (fun cdv A outer s H vs Q E hr h => ?_)
  · obtain ⟨a, l, rfl, _⟩ := h
    rfl
  have hr1 : Room 1 _ := hr.mono hn
  refine ⟨_, pss_cons (ps_set (i := 1) scAns.nd rfl (.inl rfl) (pe_lst (pa_cons (pe_tup (pa_cons pe_int (pa_cons pe_int pa_nil))) pa_nil)))
    (pss_cons (ps_set (i := 2) scAns.nd rfl (.inl rfl) (pe_lst pa_nil))
    (pss_cons (ps_set (i := 3) scAns.nd rfl (.inl rfl) pe_int)
    (pss_cons (ps_while PassesOwn.never (pt_cmpR op_lt (pv 3) (pe_callB call_len_seq (by rfl) ml PySem.boot_len (pa_cons (pv 0) pa_nil)) (nomark _))
      (pss_cons (ps_set (i := 4) scAns.nd rfl (.inl rfl) (pe_op op_add (pv 3) (pe_call oL hr1 rfl gL kL bL .nil pass0 (pa_cons (pv 0) (pa_cons (pv 3) pa_nil)))))
      (pss_cons (ps_set (i := 5) scAns.nd rfl (.inl rfl) (pe_slice sl_list (pv 0) (po_some (pv 3)) (po_some (pv 4))))
      (pss_cons (ps_set (i := 6) scAns.nd rfl (.inl rfl) (pe_call oT hr rfl gT kT bT .nil pass0 (pa_cons (pv 5) (pa_cons (pv 1) pa_nil))))
      (pss_cons (ps_if (PW.pt (pw_and (pt_cmpR op_eq (pe_ix ix_list (pv 5) pe_int (fun _ _ => rfl)) (pe_glob (v := .int 0) rfl mS ⟨_, rfl⟩) (nomark _)) (pw_and1 (pt_cmpR op_gt (pe_ix ix_list (pv 6) pe_int (fun _ _ => rfl)) pe_int (nomark _)))))
        (pss_one (ps_set (i := 1) scAns.nd rfl (.inl rfl) (pe_call oS hr1 rfl gS kS bS .nil pass0 (pa_cons (pe_slice sl_list (pv 5) (po_some pe_int) po_none) pa_nil)))) pss_nil)
      (pss_cons (ps_expr (pe_bm PySem.F.plainAttrs_list PySem.F.slot_list_append PySem.F.type_list_append mt_append (pv 2) (pa_cons (pe_callB call_len_seq (by rfl) ml PySem.boot_len (pa_cons (pv 6) pa_nil)) pa_nil)))
      (pss_cons (ps_expr (pe_bm PySem.F.plainAttrs_list PySem.F.slot_list_extend PySem.F.type_list_extend mt_extend (pv 2) (pa_cons (pv 6) pa_nil)))
      (pss_one (ps_set (i := 3) scAns.nd rfl (.inl rfl) (pv 4))))))))))
    (pss_one (ps_ret (pv 2)))))), ?_⟩
  obtain ⟨a, l, rfl, ha, hlen, hask, hT, k⟩ := h
  have short : (PyTi01.answers l).length ≤ 10000000 := by
    unfold PyTi01.answers_asked at hask
    cases e : PyFlat.calls PyTi01.shape l.length l with
    | none => rw [e] at hask; cases hask
    | some raw =>
      rw [e] at hask
      simp only [Bool.and_eq_true, PyFlat.short, decide_eq_true_eq] at hask
      exact hask.2
  refine ⟨by show 2 ≤ sizeLine; decide, fun t0 nt0 => ?_⟩
  have s1 := same_new (o := .tup [V.int 0, V.int 0]) nt0
  refine ⟨by show 1 ≤ sizeLine; decide, fun q0 nq0 => ?_⟩
  have s2 := same_new (o := .lst [V.ref t0]) nq0
  refine ⟨by show 0 ≤ sizeLine; decide, fun p np => ?_⟩
  have s3 := same_new (o := .lst []) np
  have s13 := s1.trans (s2.trans s3)
  have pH : Fresh H p := fresh_none ((s1.trans s2).free np)
  refine while_by (fun σ H' => ∃ (i : Nat) (q : Addr) (s : Ti01.St) (T out : List Int) (v4 v5 v6 : Option V), σ = [some (.ref a), some (.ref q), some (.ref p), some (.int (i : Int)), v4, v5, v6] ∧ i ≤ l.length ∧ LamX.ExtN H H' ∧ LamX.Tabs [(PT, lamName)] H' ∧ GoodSt s ∧
    CellsAt H' q s ∧ H' p = some (.lst (iv T)) ∧ Par.Rest s (l.drop i) out ∧ T ++ out = PyTi01.answers l) (fun σ _ => 640 - slotI σ 3) ?_ ?_ ?_
  · refine ⟨0, q0, Ti01.init, [], PyTi01.answers l, none, none, none, rfl, Nat.zero_le _, extN_same s13, hT.ext s13, good_init, ⟨_, s3 _ _ upd_same, .cons (tup_new.same (s2.trans s3)) .nil⟩, upd_same, Par.rest_start hask, rfl⟩
  · rintro σ H1 ⟨i, q, s, T, out, v4, v5, v6, rfl, hi, e3, T3, gs, hc, hp, rest, hout⟩
    refine ⟨_, rfl, _, rfl, a, _, rfl, .inl (ext_seq e3 ha), _, _, rfl, rfl, _, rfl, ?_⟩
    by_cases c1 : i < l.length
    case neg =>
      refine if_false_of (decide_eq_false (by rw [iv_len]; omega)) ?_
      rw [List.drop_eq_nil_of_le (by omega)] at rest
      have := Par.rest_nil rest
      subst this
      rw [List.append_nil] at hout
      subst hout
      exact ⟨_, rfl, k _ _ hp⟩
    refine if_true_of (decide_eq_true (by rw [iv_len]; omega)) ?_
    obtain ⟨c, t, out2, e1, okc, e2, rest2⟩ := one_call rest (by
      intro z
      have := congrArg List.length z
      rw [List.length_drop] at this
      simp at this
      omega)
    have ln := nums_len okc
    have lt : (numsOf c).length + t.length = l.length - i := by
      have := congrArg List.length e1
      rw [List.length_drop, List.length_append] at this
      omega
    have lout : T.length + ((Ti01.step s c).2.length + 1 + out2.length) ≤ 10000000 := by
      have := congrArg List.length hout
      rw [e2, List.length_append, List.length_append] at this
      have e : (Par.tell1 (Ti01.step s c).2).length = (Ti01.step s c).2.length + 1 := rfl
      omega
    refine ⟨_, rfl, _, rfl, _, rfl, a, l, i, c, t, rfl, ext_seq e3 ha, e1, fun H2 s5 => ⟨_, _, rfl, rfl, ?_⟩⟩
    refine ⟨_, rfl, _, rfl, _, rfl, _, rfl, _, rfl, a, _, rfl, s5.seq (ext_seq e3 ha), fun x nx => ?_⟩
    have ex : cutV (iv l) (some (i : Int)) (some ((i : Int) + ((numsOf c).length : Int))) = iv (numsOf c) := by
      rw [show ((i : Int) + ((numsOf c).length : Int)) = ((i + (numsOf c).length : Nat) : Int) by omega]
      refine (cut_both _ _ _ _).trans ?_
      rw [Nat.add_sub_cancel_left, e1, List.take_left]
      rfl
    have s6 := same_new (o := .lst (cutV (iv l) (some (i : Int)) (some ((i : Int) + ((numsOf c).length : Int))))) nx
    have s56 := s5.trans s6
    have hx : upd H2 x (.lst (cutV (iv l) (some (i : Int)) (some ((i : Int) + ((numsOf c).length : Int))))) x = some (.lst (iv (numsOf c))) := by rw [upd_same, ex]
    refine ⟨_, rfl, _, rfl, x, q, c, s, rfl, hx, okc, hc.same s56, gs, T3.ext s56, fun H4 r e4 T4 fr hr4 => ?_⟩
    have e34 : LamX.ExtN H H4 := e3.trans ((extN_same s56).trans e4)
    have hp4 : H4 p = some (.lst (iv T)) := ext_lst e4 (s56 _ _ hp)
    have hx4 : H4 x = some (.lst (iv (numsOf c))) := ext_lst e4 hx
    have hc4 : CellsAt H4 q s := (hc.same s56).ext e4
    have nrp : r ≠ p := by
      intro z
      obtain ⟨ps, hps⟩ := fr _ (by rw [z]; exact s56 _ _ hp)
      cases hps
    have hd0 : ∃ h0, (numsOf c)[0]? = some h0 := by
      cases hnm : numsOf c with
      | nil => rw [hnm] at ln; simp at ln
      | cons h0 _ => exact ⟨h0, rfl⟩
    obtain ⟨h0, hh0⟩ := hd0
    refine ⟨_, rfl, x, _, 0, _, rfl, rfl, SqL.of hx4, atI_nat (j := 0) (iv_at hh0), rfl, _, rfl, ?_⟩
    by_cases hs : ∃ n, c = .shape n
    case neg =>
      have hst : (Ti01.step s c).1 = s := by
        cases c with
        | shape n => exact absurd ⟨n, rfl⟩ hs
        | _ => rfl
      have hne0 : h0 ≠ 0 := by
        cases c with
        | shape n => exact absurd ⟨n, rfl⟩ hs
        | _ =>
          simp [numsOf] at hh0
          omega
      rw [hst] at rest2
      refine if_false_of (decide_eq_false (by intro z; injection z with z; exact hne0 z)) (if_false_of rfl ?_)
      obtain ⟨H5, rfl⟩ : ∃ H5, H5 = H4 := ⟨H4, rfl⟩
      have e5 := e34
      have T5 := T4
      have hp5 := hp4
      have hr5 := hr4
      have c5 := hc4
      have g5 := gs
      refine ⟨_, rfl, .inl ⟨rfl, _, SqL.of hp5⟩, _, rfl, r, _, rfl, .inl (SqL.of hr5), p, _, _, rfl, rfl, hp5, ?_, ?_⟩
      · rw [iv_len]
        exact big_ok (by omega)
      have hp6 : upd H5 p (.lst (iv T ++ [V.int ((iv (Ti01.step s c).2).length : Int)])) p = some (.lst (iv (T ++ [((Ti01.step s c).2.length : Int)]))) := by
        rw [upd_same, iv_append, iv_len]
        rfl
      have hr6 : upd H5 p (.lst (iv T ++ [V.int ((iv (Ti01.step s c).2).length : Int)])) r = some (.lst (iv (Ti01.step s c).2)) := by
        rw [upd_ne nrp]
        exact hr5
      have T6 := tabs_upd (o := .lst (iv T ++ [V.int ((iv (Ti01.step s c).2).length : Int)])) T5 hp5
      have e6 := ext_own (o := .lst (iv T ++ [V.int ((iv (Ti01.step s c).2).length : Int)])) e5 pH
      have c6 := cells_upd (ys := iv T ++ [V.int ((iv (Ti01.step s c).2).length : Int)]) c5 g5.ne hp5
      refine ⟨_, rfl, .inl ⟨rfl, _, SqL.of hp6⟩, _, rfl, p, r, _, _, rfl, rfl, hp6, hr6, ?_, ?_⟩
      · rw [iv_len, iv_len, List.length_append, List.length_singleton]
        exact Nat.le_of_lt (big_ok (by omega))
      refine ⟨_, rfl, ⟨i + (numsOf c).length, q, s, T ++ [((Ti01.step s c).2.length : Int)] ++ (Ti01.step s c).2, out2, some (.int ((i + (numsOf c).length : Nat) : Int)), some (.ref x), some (.ref r), ?_, ?_, ext_own e6 pH, tabs_upd T6 hp6, g5, cells_upd c6 g5.ne hp6, ?_, ?_, ?_⟩, ?_⟩
      · show [some (V.ref a), some (V.ref q), some (V.ref p), some (V.int ((i : Int) + ((numsOf c).length : Int))), some (V.int ((i : Int) + ((numsOf c).length : Int))), some (V.ref x), some (V.ref r)] = _
        rw [show ((i : Int) + ((numsOf c).length : Int)) = ((i + (numsOf c).length : Nat) : Int) by omega]
      · omega
      · rw [upd_same, ← iv_append]
      · rw [← List.drop_drop, e1, List.drop_left]
        exact rest2
      · rw [← hout, e2, List.append_assoc, List.append_assoc]
        rfl
      · show 640 - (((i : Int) + ((numsOf c).length : Int)).toNat) < 640 - (i : Int).toNat
        omega
    obtain ⟨n, rfl⟩ := hs
    have h00 : h0 = 0 := by
      simp [numsOf] at hh0
      exact hh0.symm
    have hst := shape_step s n
    have hst1 : (Ti01.step s (.shape n)).1 = nextS s n := by rw [hst]
    have hst2 : (Ti01.step s (.shape n)).2 = aShape n := by rw [hst]
    rw [hst1] at rest2
    refine if_true_of (decide_eq_true (by rw [h00])) ?_
    by_cases hneg : refus n < 0
    case pos =>
      have hns : nextS s n = s := if_pos hneg
      have hv : (Ti01.step s (.shape n)).2[0]? = some (refus n) := by
        rw [hst2]
        unfold aShape
        rw [if_pos hneg]
        rfl
      rw [hns] at rest2
      refine ⟨_, rfl, r, _, 0, _, rfl, rfl, SqL.of hr4, atI_nat (j := 0) (iv_at hv), _, _, rfl, rfl, _, rfl, ?_⟩
      refine if_false_of (decide_eq_false (by omega)) ?_
      obtain ⟨H5, rfl⟩ : ∃ H5, H5 = H4 := ⟨H4, rfl⟩
      have e5 := e34
      have T5 := T4
      have hp5 := hp4
      have hr5 := hr4
      have c5 := hc4
      have g5 := gs
      refine ⟨_, rfl, .inl ⟨rfl, _, SqL.of hp5⟩, _, rfl, r, _, rfl, .inl (SqL.of hr5), p, _, _, rfl, rfl, hp5, ?_, ?_⟩
      · rw [iv_len]
        exact big_ok (by omega)
      have hp6 : upd H5 p (.lst (iv T ++ [V.int ((iv (Ti01.step s (.shape n)).2).length : Int)])) p = some (.lst (iv (T ++ [((Ti01.step s (.shape n)).2.length : Int)]))) := by
        rw [upd_same, iv_append, iv_len]
        rfl
      have hr6 : upd H5 p (.lst (iv T ++ [V.int ((iv (Ti01.step s (.shape n)).2).length : Int)])) r = some (.lst (iv (Ti01.step s (.shape n)).2)) := by
        rw [upd_ne nrp]
        exact hr5
      have T6 := tabs_upd (o := .lst (iv T ++ [V.int ((iv (Ti01.step s (.shape n)).2).length : Int)])) T5 hp5
      have e6 := ext_own (o := .lst (iv T ++ [V.int ((iv (Ti01.step s (.shape n)).2).length : Int)])) e5 pH
      have c6 := cells_upd (ys := iv T ++ [V.int ((iv (Ti01.step s (.shape n)).2).length : Int)]) c5 g5.ne hp5
      refine ⟨_, rfl, .inl ⟨rfl, _, SqL.of hp6⟩, _, rfl, p, r, _, _, rfl, rfl, hp6, hr6, ?_, ?_⟩
      · rw [iv_len, iv_len, List.length_append, List.length_singleton]
        exact Nat.le_of_lt (big_ok (by omega))
      refine ⟨_, rfl, ⟨i + (numsOf (.shape n)).length, q, s, T ++ [((Ti01.step s (.shape n)).2.length : Int)] ++ (Ti01.step s (.shape n)).2, out2, some (.int ((i + (numsOf (.shape n)).length : Nat) : Int)), some (.ref x), some (.ref r), ?_, ?_, ext_own e6 pH, tabs_upd T6 hp6, g5, cells_upd c6 g5.ne hp6, ?_, ?_, ?_⟩, ?_⟩
      · show [some (V.ref a), some (V.ref q), some (V.ref p), some (V.int ((i : Int) + ((numsOf (.shape n)).length : Int))), some (V.int ((i : Int) + ((numsOf (.shape n)).length : Int))), some (V.ref x), some (V.ref r)] = _
        rw [show ((i : Int) + ((numsOf (.shape n)).length : Int)) = ((i + (numsOf (.shape n)).length : Nat) : Int) by omega]
      · omega
      · rw [upd_same, ← iv_append]
      · rw [← List.drop_drop, e1, List.drop_left]
        exact rest2
      · rw [← hout, e2, List.append_assoc, List.append_assoc]
        rfl
      · show 640 - (((i : Int) + ((numsOf (.shape n)).length : Int)).toNat) < 640 - (i : Int).toNat
        omega
    have hns : nextS s n = pairsOf (Ti01.ints n) := if_neg hneg
    have g5 : GoodSt (pairsOf (Ti01.ints n)) := by
      have := good_next gs n
      rw [hns] at this
      exact this
    have hwell : Well n := by
      rcases refus_cases n with ⟨h1, h2⟩ | ⟨h1, _, _⟩ | ⟨h1, _, _⟩
      · rw [h2] at hneg
        exact absurd (by decide) hneg
      · exact h1
      · exact h1
    have hv : (Ti01.step s (.shape n)).2[0]? = some ((Ti01.edge (pairsOf (Ti01.ints n))).length : Int) := by
      rw [hst2]
      unfold aShape
      rw [if_neg hneg]
      rfl
    have hpos : 1 ≤ (Ti01.edge (pairsOf (Ti01.ints n))).length := by
      obtain ⟨m, rd, ed⟩ := Geo.edge_round g5.good g5.ne
      rw [ed, List.length_map, Geo.seg_len]
      exact rd.pos
    rw [hns] at rest2
    refine ⟨_, rfl, r, _, 0, _, rfl, rfl, SqL.of hr4, atI_nat (j := 0) (iv_at hv), _, _, rfl, rfl, _, rfl, ?_⟩
    refine if_true_of (decide_eq_true (by omega)) ?_
    have ev := hwell.even
    have fw := hwell.few
    have ec : cutV (iv (numsOf (.shape n))) (some 2) none = iv (Ti01.ints n) := cut_lo _ _ 2
    refine ⟨_, rfl, _, rfl, x, _, rfl, SqL.of hx4, fun y ny => ?_⟩
    have s7 := same_new (o := .lst (cutV (iv (numsOf (.shape n))) (some 2) none)) ny
    refine ⟨y, Ti01.ints n, n.length / 2, rfl, by rw [upd_same, ec], by rw [ints_len]; omega, by omega, fun H5 q2 s8 c5 => ?_⟩
    have s78 := s7.trans s8
    have e5 : LamX.ExtN H H5 := e34.trans (extN_same s78)
    have T5 := T4.ext s78
    have hp5 := s78 _ _ hp4
    have hr5 := s78 _ _ hr4
    · refine ⟨_, rfl, .inl ⟨rfl, _, SqL.of hp5⟩, _, rfl, r, _, rfl, .inl (SqL.of hr5), p, _, _, rfl, rfl, hp5, ?_, ?_⟩
      · rw [iv_len]
        exact big_ok (by omega)
      have hp6 : upd H5 p (.lst (iv T ++ [V.int ((iv (Ti01.step s (.shape n)).2).length : Int)])) p = some (.lst (iv (T ++ [((Ti01.step s (.shape n)).2.length : Int)]))) := by
        rw [upd_same, iv_append, iv_len]
        rfl
      have hr6 : upd H5 p (.lst (iv T ++ [V.int ((iv (Ti01.step s (.shape n)).2).length : Int)])) r = some (.lst (iv (Ti01.step s (.shape n)).2)) := by
        rw [upd_ne nrp]
        exact hr5
      have T6 := tabs_upd (o := .lst (iv T ++ [V.int ((iv (Ti01.step s (.shape n)).2).length : Int)])) T5 hp5
      have e6 := ext_own (o := .lst (iv T ++ [V.int ((iv (Ti01.step s (.shape n)).2).length : Int)])) e5 pH
      have c6 := cells_upd (ys := iv T ++ [V.int ((iv (Ti01.step s (.shape n)).2).length : Int)]) c5 g5.ne hp5
      refine ⟨_, rfl, .inl ⟨rfl, _, SqL.of hp6⟩, _, rfl, p, r, _, _, rfl, rfl, hp6, hr6, ?_, ?_⟩
      · rw [iv_len, iv_len, List.length_append, List.length_singleton]
        exact Nat.le_of_lt (big_ok (by omega))
      refine ⟨_, rfl, ⟨i + (numsOf (.shape n)).length, q2, (pairsOf (Ti01.ints n)), T ++ [((Ti01.step s (.shape n)).2.length : Int)] ++ (Ti01.step s (.shape n)).2, out2, some (.int ((i + (numsOf (.shape n)).length : Nat) : Int)), some (.ref x), some (.ref r), ?_, ?_, ext_own e6 pH, tabs_upd T6 hp6, g5, cells_upd c6 g5.ne hp6, ?_, ?_, ?_⟩, ?_⟩
      · show [some (V.ref a), some (V.ref q2), some (V.ref p), some (V.int ((i : Int) + ((numsOf (.shape n)).length : Int))), some (V.int ((i : Int) + ((numsOf (.shape n)).length : Int))), some (V.ref x), some (V.ref r)] = _
        rw [show ((i : Int) + ((numsOf (.shape n)).length : Int)) = ((i + (numsOf (.shape n)).length : Nat) : Int) by omega]
      · omega
      · rw [upd_same, ← iv_append]
      · rw [← List.drop_drop, e1, List.drop_left]
        exact rest2
      · rw [← hout, e2, List.append_assoc, List.append_assoc]
        rfl
      · show 640 - (((i : Int) + ((numsOf (.shape n)).length : Int)).toNat) < 640 - (i : Int).toNat
        omega
  · rintro σ H' Q1 Q2 mo ⟨x1, q1, x2, q2, a1, ys, q3, sq, i1, i2, q5, q6, b1, q7, q⟩
    exact ⟨x1, q1, x2, q2, a1, ys, q3, sq, i1, i2, q5, q6, b1, q7, mo _ _ q⟩
end
end Oc
namespace Oc
open PySem PySem.Spec PyProof.Rows L2
theorem dec_ne {i j : Int} [Decidable (V.int i = V.int j)] (h : i ≠ j) : decide (V.int i = V.int j) = false := decide_eq_false fun z => by
  injection z with z
  exact h z
theorem dec_eq {i j : Int} [Decidable (V.int i = V.int j)] (h : i = j) : decide (V.int i = V.int j) = true := decide_eq_true (by rw [h])
/-- the numbers of the calls -/
structure Nums (mg : Str → Option Value) : Prop where
  shape : ∃ t, mg "SHAPE" = some (.int 0 t)
  edge : ∃ t, mg "EDGE" = some (.int 1 t)
  cut : ∃ t, mg "CUT" = some (.int 2 t)
  cuts : ∃ t, mg "CUTS" = some (.int 3 t)
  moves : ∃ t, mg "MOVES" = some (.int 4 t)
  grids : ∃ t, mg "GRIDS" = some (.int 5 t)
  on : ∃ t, mg "ON" = some (.int 6 t)
  gridof : ∃ t, mg "GRIDOF" = some (.int 7 t)
section
variable {P : Program} {w : World} {K : PySem.W.Frag} {mg : Str → Option Value} {base : Heap}
/-! ### call_length -/
abbrev sLen : Stmt := top 40
theorem scLen : FnScope ["calls", "start"] ["calls", "start"] (defScope sLen) := ⟨rfl, rfl, rfl, by decide +kernel, rfl, by decide +kernel, by decide +kernel⟩
theorem ok_len {f : Addr} {fd : FuncData} (F : Fun K "call_length" "call_length" sLen f fd) (N : Nums mg) : FnOk P w K mg base CX0 1 f fd ["calls", "start"] (spLen K) := by
  obtain ⟨t0, m0⟩ := N.shape
  obtain ⟨t4, m4⟩ := N.moves
  obtain ⟨t6, m6⟩ := N.on
  obtain ⟨t7, m7⟩ := N.gridof
  refine F.ok scLen (fun vs H Q E h => ?_) (fun cdv A outer s H vs Q E hr h => ?_)
  · obtain ⟨a, l, i, c, t, rfl, _⟩ := h
    rfl
  refine ⟨_, pss_cons (ps_if (pt_cmpR op_eq (pe_ix ix_list (pv 0) (pv 1) (fun _ _ => rfl)) (pe_glob (v := .int 0) rfl m0 ⟨_, rfl⟩) (nomark _))
      (pss_one (ps_ret (pe_op op_add pe_int (pe_ix ix_list (pv 0) (pe_op op_add (pv 1) pe_int) (fun _ _ => rfl))))) pss_nil)
    (pss_cons (ps_if (pt_cmpR op_in_seq (pe_ix ix_list (pv 0) (pv 1) (fun _ _ => rfl)) (pe_tup (pa_cons (pe_glob (v := .int 4) rfl m4 ⟨_, rfl⟩) (pa_cons (pe_glob (v := .int 6) rfl m6 ⟨_, rfl⟩) (pa_cons (pe_glob (v := .int 7) rfl m7 ⟨_, rfl⟩) pa_nil)))) rfl)
      (pss_one (ps_ret pe_int)) pss_nil)
    (pss_one (ps_ret pe_int))), ?_⟩
  obtain ⟨a, l, i, c, t, rfl, ha, hd, k⟩ := h
  have at_ : ∀ (j : Nat) (z : Int), (numsOf c)[j]? = some z → atI (iv l) (((i + j : Nat) : Int)) = some (.int z) := by
    intro j z hz
    refine atI_nat (iv_at ?_)
    rw [← List.getElem?_drop, hd]
    obtain ⟨hlt, _⟩ := List.getElem?_eq_some_iff.mp hz
    rw [List.getElem?_append_left hlt]
    exact hz
  have a0 := at_ 0
  rw [Nat.add_zero] at a0
  cases c with
  | shape n =>
    refine ⟨_, rfl, _, rfl, a, _, _, _, rfl, rfl, ha, a0 0 rfl, rfl, _, rfl, if_true_of (dec_eq rfl) ?_⟩
    refine ⟨_, rfl, _, rfl, _, _, rfl, rfl, a, _, _, _, rfl, rfl, ha, at_ 1 (n.length : Int) rfl, _, _, rfl, rfl, ?_⟩
    have e : ((numsOf (.shape n)).length : Int) = 2 + (n.length : Int) := by
      show ((((Ti01.ints n).length + 1 + 1 : Nat)) : Int) = _
      rw [ints_len]
      omega
    show Q (.int (2 + (n.length : Int))) H
    rw [← e]
    exact k H (Same.refl H)
  | moves i' a' b' =>
    refine ⟨_, rfl, _, rfl, a, _, _, _, rfl, rfl, ha, a0 4 rfl, rfl, _, rfl, if_false_of (dec_ne (by decide)) ?_⟩
    refine ⟨_, rfl, _, rfl, a, _, _, _, rfl, rfl, ha, a0 4 rfl, by show 3 ≤ sizeLine; decide, fun p np => ⟨p, _, rfl, .inr (SqT.of upd_same), rfl, rfl, _, rfl, if_true_of (by decide) ?_⟩⟩
    exact k _ (same_new np)
  | on i' a' b' =>
    refine ⟨_, rfl, _, rfl, a, _, _, _, rfl, rfl, ha, a0 6 rfl, rfl, _, rfl, if_false_of (dec_ne (by decide)) ?_⟩
    refine ⟨_, rfl, _, rfl, a, _, _, _, rfl, rfl, ha, a0 6 rfl, by show 3 ≤ sizeLine; decide, fun p np => ⟨p, _, rfl, .inr (SqT.of upd_same), rfl, rfl, _, rfl, if_true_of (by decide) ?_⟩⟩
    exact k _ (same_new np)
  | gridOf i' a' b' =>
    refine ⟨_, rfl, _, rfl, a, _, _, _, rfl, rfl, ha, a0 7 rfl, rfl, _, rfl, if_false_of (dec_ne (by decide)) ?_⟩
    refine ⟨_, rfl, _, rfl, a, _, _, _, rfl, rfl, ha, a0 7 rfl, by show 3 ≤ sizeLine; decide, fun p np => ⟨p, _, rfl, .inr (SqT.of upd_same), rfl, rfl, _, rfl, if_true_of (by decide) ?_⟩⟩
    exact k _ (same_new np)
  | edge =>
    refine ⟨_, rfl, _, rfl, a, _, _, _, rfl, rfl, ha, a0 1 rfl, rfl, _, rfl, if_false_of (dec_ne (by decide)) ?_⟩
    refine ⟨_, rfl, _, rfl, a, _, _, _, rfl, rfl, ha, a0 1 rfl, by show 3 ≤ sizeLine; decide, fun p np => ⟨p, _, rfl, .inr (SqT.of upd_same), rfl, rfl, _, rfl, if_false_of (by decide) ?_⟩⟩
    exact k _ (same_new np)
  | cut =>
    refine ⟨_, rfl, _, rfl, a, _, _, _, rfl, rfl, ha, a0 2 rfl, rfl, _, rfl, if_false_of (dec_ne (by decide)) ?_⟩
    refine ⟨_, rfl, _, rfl, a, _, _, _, rfl, rfl, ha, a0 2 rfl, by show 3 ≤ sizeLine; decide, fun p np => ⟨p, _, rfl, .inr (SqT.of upd_same), rfl, rfl, _, rfl, if_false_of (by decide) ?_⟩⟩
    exact k _ (same_new np)
  | cuts =>
    refine ⟨_, rfl, _, rfl, a, _, _, _, rfl, rfl, ha, a0 3 rfl, rfl, _, rfl, if_false_of (dec_ne (by decide)) ?_⟩
    refine ⟨_, rfl, _, rfl, a, _, _, _, rfl, rfl, ha, a0 3 rfl, by show 3 ≤ sizeLine; decide, fun p np => ⟨p, _, rfl, .inr (SqT.of upd_same), rfl, rfl, _, rfl, if_false_of (by decide) ?_⟩⟩
    exact k _ (same_new np)
  | grids =>
    refine ⟨_, rfl, _, rfl, a, _, _, _, rfl, rfl, ha, a0 5 rfl, rfl, _, rfl, if_false_of (dec_ne (by decide)) ?_⟩
    refine ⟨_, rfl, _, rfl, a, _, _, _, rfl, rfl, ha, a0 5 rfl, by show 3 ≤ sizeLine; decide, fun p np => ⟨p, _, rfl, .inr (SqT.of upd_same), rfl, rfl, _, rfl, if_false_of (by decide) ?_⟩⟩
    exact k _ (same_new np)
  | tiles =>
    refine ⟨_, rfl, _, rfl, a, _, _, _, rfl, rfl, ha, a0 8 rfl, rfl, _, rfl, if_false_of (dec_ne (by decide)) ?_⟩
    refine ⟨_, rfl, _, rfl, a, _, _, _, rfl, rfl, ha, a0 8 rfl, by show 3 ≤ sizeLine; decide, fun p np => ⟨p, _, rfl, .inr (SqT.of upd_same), rfl, rfl, _, rfl, if_false_of (by decide) ?_⟩⟩
    exact k _ (same_new np)
/-! ### answer_to -/
abbrev sTo : Stmt := top 39
theorem scTo : FnScope ["call", "squares", "edge"] ["call", "squares"] (defScope sTo) := ⟨rfl, rfl, rfl, by decide +kernel, rfl, by decide +kernel, by decide +kernel⟩
theorem ok_to {f PT : Addr} {fd : FuncData} (F : Fun K "answer_to" "answer_to" sTo f fd) (ml : mg "len" = none) (N : Nums mg) (c0 : Cal P w K mg base "answer_shape" 4 ["numbers"] (spAShape PT)) (cE : Cal P w K mg base "edge_of" 3 ["squares"] (spEdge PT))
    (c2 : Cal P w K mg base "answer_cut" 5 ["edge"] spACut) (cN : Cal P w K mg base "counted" 1 ["rows"] spCnt) (cC : Cal P w K mg base "cuts_of" 4 ["edge"] spCuts) (c4 : Cal P w K mg base "answer_moves" 4 ["edge", "i", "a", "b"] spAMoves)
    (cG : Cal P w K mg base "grids_of" 3 ["squares"] spGrids) (c6 : Cal P w K mg base "answer_on" 4 ["squares", "n", "x", "y"] spOn) (c7 : Cal P w K mg base "answer_gridof" 4 ["squares", "i", "a", "b"] (spGof PT)) (c8 : Cal P w K mg base "answer_tiles" 5 ["edge"] spTiles) :
    FnOk P w K mg base CX0 6 f fd ["call", "squares"] (spTo PT) := by
  obtain ⟨f0, fd0, g0, k0, b0, o0⟩ := c0
  obtain ⟨fE, fdE, gE, kE, bE, oE⟩ := cE
  obtain ⟨f2, fd2, g2, k2, b2, o2⟩ := c2
  obtain ⟨fN, fdN, gN, kN, bN, oN⟩ := cN
  obtain ⟨fC, fdC, gC, kC, bC, oC⟩ := cC
  obtain ⟨f4, fd4, g4, k4, b4, o4⟩ := c4
  obtain ⟨fG, fdG, gG, kG, bG, oG⟩ := cG
  obtain ⟨f6, fd6, g6, k6, b6, o6⟩ := c6
  obtain ⟨f7, fd7, g7, k7, b7, o7⟩ := c7
  obtain ⟨f8, fd8, g8, k8, b8, o8⟩ := c8
  obtain ⟨t0, m0⟩ := N.shape
  obtain ⟨t1, m1⟩ := N.edge
  obtain ⟨t2, m2⟩ := N.cut
  obtain ⟨t3, m3⟩ := N.cuts
  obtain ⟨t4, m4⟩ := N.moves
  obtain ⟨t5, m5⟩ := N.grids
  obtain ⟨t6, m6⟩ := N.on
  obtain ⟨t7, m7⟩ := N.gridof
  refine F.ok scTo (fun vs H Q E h => ?_) (fun cdv A outer s H vs Q E hr h => ?_)
  · obtain ⟨x, q, c, s, rfl, _⟩ := h
    rfl
  have hr4 : Room 4 _ := hr.mono (by decide)
  have hr3 : Room 3 _ := hr.mono (by decide)
  have hr1 : Room 1 _ := hr.mono (by decide)
  refine ⟨_, pss_cons (ps_if (pt_cmpR op_eq (pe_ix ix_list (pv 0) pe_int (fun _ _ => rfl)) (pe_glob (v := .int 0) rfl m0 ⟨_, rfl⟩) (nomark _))
      (pss_one (ps_ret (pe_call o0 hr4 rfl g0 k0 b0 .nil pass0 (pa_cons (pe_slice sl_list (pv 0) (po_some pe_int) po_none) pa_nil)))) pss_nil)
    (pss_cons (ps_set (i := 2) scTo.nd rfl (.inl rfl) (pe_call oE hr3 rfl gE kE bE .nil pass0 (pa_cons (pv 1) pa_nil)))
    (pss_cons (ps_if (pt_cmpR op_eq (pe_ix ix_list (pv 0) pe_int (fun _ _ => rfl)) (pe_glob (v := .int 1) rfl m1 ⟨_, rfl⟩) (nomark _))
      (pss_one (ps_ret (pe_op op_cat (pe_lst (pa_cons (pe_callB call_len_seq (by rfl) ml PySem.boot_len (pa_cons (pv 2) pa_nil)) pa_nil)) (pv 2)))) pss_nil)
    (pss_cons (ps_if (pt_cmpR op_eq (pe_ix ix_list (pv 0) pe_int (fun _ _ => rfl)) (pe_glob (v := .int 2) rfl m2 ⟨_, rfl⟩) (nomark _))
      (pss_one (ps_ret (pe_call o2 hr rfl g2 k2 b2 .nil pass0 (pa_cons (pv 2) pa_nil)))) pss_nil)
    (pss_cons (ps_if (pt_cmpR op_eq (pe_ix ix_list (pv 0) pe_int (fun _ _ => rfl)) (pe_glob (v := .int 3) rfl m3 ⟨_, rfl⟩) (nomark _))
      (pss_one (ps_ret (pe_call oN hr1 rfl gN kN bN .nil pass0 (pa_cons (pe_call oC hr4 rfl gC kC bC .nil pass0 (pa_cons (pv 2) pa_nil)) pa_nil)))) pss_nil)
    (pss_cons (ps_if (pt_cmpR op_eq (pe_ix ix_list (pv 0) pe_int (fun _ _ => rfl)) (pe_glob (v := .int 4) rfl m4 ⟨_, rfl⟩) (nomark _))
      (pss_one (ps_ret (pe_call o4 hr4 rfl g4 k4 b4 .nil pass0 (pa_cons (pv 2) (pa_cons (pe_ix ix_list (pv 0) pe_int (fun _ _ => rfl)) (pa_cons (pe_ix ix_list (pv 0) pe_int (fun _ _ => rfl)) (pa_cons (pe_ix ix_list (pv 0) pe_int (fun _ _ => rfl)) pa_nil))))))) pss_nil)
    (pss_cons (ps_if (pt_cmpR op_eq (pe_ix ix_list (pv 0) pe_int (fun _ _ => rfl)) (pe_glob (v := .int 5) rfl m5 ⟨_, rfl⟩) (nomark _))
      (pss_one (ps_ret (pe_call oN hr1 rfl gN kN bN .nil pass0 (pa_cons (pe_call oG hr3 rfl gG kG bG .nil pass0 (pa_cons (pv 1) pa_nil)) pa_nil)))) pss_nil)
    (pss_cons (ps_if (pt_cmpR op_eq (pe_ix ix_list (pv 0) pe_int (fun _ _ => rfl)) (pe_glob (v := .int 6) rfl m6 ⟨_, rfl⟩) (nomark _))
      (pss_one (ps_ret (pe_call o6 hr4 rfl g6 k6 b6 .nil pass0 (pa_cons (pv 1) (pa_cons (pe_ix ix_list (pv 0) pe_int (fun _ _ => rfl)) (pa_cons (pe_ix ix_list (pv 0) pe_int (fun _ _ => rfl)) (pa_cons (pe_ix ix_list (pv 0) pe_int (fun _ _ => rfl)) pa_nil))))))) pss_nil)
    (pss_cons (ps_if (pt_cmpR op_eq (pe_ix ix_list (pv 0) pe_int (fun _ _ => rfl)) (pe_glob (v := .int 7) rfl m7 ⟨_, rfl⟩) (nomark _))
      (pss_one (ps_ret (pe_call o7 hr4 rfl g7 k7 b7 .nil pass0 (pa_cons (pv 1) (pa_cons (pe_ix ix_list (pv 0) pe_int (fun _ _ => rfl)) (pa_cons (pe_ix ix_list (pv 0) pe_int (fun _ _ => rfl)) (pa_cons (pe_ix ix_list (pv 0) pe_int (fun _ _ => rfl)) pa_nil))))))) pss_nil)
    (pss_one (ps_ret (pe_call o8 hr rfl g8 k8 b8 .nil pass0 (pa_cons (pv 2) pa_nil)))))))))))), ?_⟩
  obtain ⟨x, q, c, s, rfl, hx, okc, hq, gs, hT, k⟩ := h
  obtain ⟨el, e4⟩ := edge_facts gs
  by_cases hs : ∃ n, c = .shape n
  case pos =>
    obtain ⟨n, rfl⟩ := hs
    refine ⟨_, rfl, x, _, 0, _, rfl, rfl, SqL.of hx, atI_nat (j := 0) rfl, rfl, _, rfl, if_true_of (dec_eq rfl) ?_⟩
    refine ⟨_, rfl, _, rfl, x, _, rfl, SqL.of hx, fun y ny => ?_⟩
    have ec : cutV (iv (numsOf (.shape n))) (some 2) none = iv (Ti01.ints n) := cut_lo _ _ 2
    have s1 := same_new (o := .lst (cutV (iv (numsOf (.shape n))) (some 2) none)) ny
    have hn : n.length ≤ 30 := okc
    refine ⟨y, n, rfl, by rw [upd_same, ec, nv_iv], by omega, hT.ext s1, fun H2 p x2 T2 fr hp => ?_⟩
    refine k H2 p ((extN_same s1).trans x2) T2 (fun u hu => fr u (s1 _ _ hu)) ?_
    rw [hp, shape_step]
  have nz : ∃ h0 : Int, (numsOf c)[0]? = some h0 ∧ h0 ≠ 0 := by
    cases c with
    | shape n => exact absurd ⟨n, rfl⟩ hs
    | edge => exact ⟨1, rfl, by decide⟩
    | cut => exact ⟨2, rfl, by decide⟩
    | cuts => exact ⟨3, rfl, by decide⟩
    | moves _ _ _ => exact ⟨4, rfl, by decide⟩
    | grids => exact ⟨5, rfl, by decide⟩
    | on _ _ _ => exact ⟨6, rfl, by decide⟩
    | gridOf _ _ _ => exact ⟨7, rfl, by decide⟩
    | tiles => exact ⟨8, rfl, by decide⟩
  obtain ⟨h0, hh0, hne0⟩ := nz
  refine ⟨_, rfl, x, _, 0, _, rfl, rfl, SqL.of hx, atI_nat (j := 0) (iv_at hh0), rfl, _, rfl, if_false_of (dec_ne hne0) ?_⟩
  refine ⟨_, rfl, q, s, rfl, hq, hT, gs.good, gs.ne, gs.few, fun H1 e x1 T1 he => ?_⟩
  have hx1 : H1 x = some (.lst (iv (numsOf c))) := ext_lst x1 hx
  have hq1 : CellsAt H1 q s := hq.ext x1
  have fin : ∀ H2 p, Same H1 H2 → H1 p = none → H2 p = some (.lst (iv (Ti01.step s c).2)) → Q (.ref p) H2 := fun H2 p s2 n2 hp => k H2 p (x1.trans (extN_same s2)) (T1.ext s2) (ext_free x1 n2) hp
  clear hh0
  cases c with
  | shape n => exact absurd ⟨n, rfl⟩ hs
  | edge =>
    refine ⟨_, rfl, x, _, 0, _, rfl, rfl, SqL.of hx1, atI_nat (j := 0) rfl, rfl, _, rfl, if_true_of (dec_eq rfl) ?_⟩
    refine ⟨_, rfl, e, _, rfl, .inl (SqL.of he), by show 1 ≤ sizeLine; decide, fun p1 n1 => ?_⟩
    have s2 := same_new (o := .lst [V.int ((nv (Ti01.edge s)).length : Int)]) n1
    refine ⟨_, rfl, p1, e, _, _, rfl, rfl, upd_same, s2 _ _ he, ?_, fun p2 n2 => ?_⟩
    · rw [nv_len]
      show 1 + _ ≤ sizeLine
      exact size_ok (by omega)
    · refine fin _ p2 (s2.trans (same_new n2)) (s2.free n2) ?_
      rw [upd_same, nv_len, nv_iv]
      rfl
  | cut =>
    refine ⟨_, rfl, x, _, 0, _, rfl, rfl, SqL.of hx1, atI_nat (j := 0) rfl, rfl, _, rfl, if_false_of (dec_ne (by decide)) ?_⟩
    refine ⟨_, rfl, x, _, 0, _, rfl, rfl, SqL.of hx1, atI_nat (j := 0) rfl, rfl, _, rfl, if_true_of (dec_eq rfl) ?_⟩
    exact ⟨_, rfl, e, _, rfl, he, by omega, fun H2 p s2 n2 hp => fin H2 p s2 n2 hp⟩
  | cuts =>
    refine ⟨_, rfl, x, _, 0, _, rfl, rfl, SqL.of hx1, atI_nat (j := 0) rfl, rfl, _, rfl, if_false_of (dec_ne (by decide)) ?_⟩
    refine ⟨_, rfl, x, _, 0, _, rfl, rfl, SqL.of hx1, atI_nat (j := 0) rfl, rfl, _, rfl, if_false_of (dec_ne (by decide)) ?_⟩
    refine ⟨_, rfl, x, _, 0, _, rfl, rfl, SqL.of hx1, atI_nat (j := 0) rfl, rfl, _, rfl, if_true_of (dec_eq rfl) ?_⟩
    refine ⟨_, rfl, e, _, rfl, he, by omega, fun H2 p xs s2 hp al => ?_⟩
    exact ⟨p, xs, _, H1, rfl, hp, al, cuts_few _ (by omega), fun H3 r s3 n3 hr3 => fin H3 r (s2.trans s3) (s2.free n3) hr3⟩
  | moves i a b =>
    refine ⟨_, rfl, x, _, 0, _, rfl, rfl, SqL.of hx1, atI_nat (j := 0) rfl, rfl, _, rfl, if_false_of (dec_ne (by decide)) ?_⟩
    refine ⟨_, rfl, x, _, 0, _, rfl, rfl, SqL.of hx1, atI_nat (j := 0) rfl, rfl, _, rfl, if_false_of (dec_ne (by decide)) ?_⟩
    refine ⟨_, rfl, x, _, 0, _, rfl, rfl, SqL.of hx1, atI_nat (j := 0) rfl, rfl, _, rfl, if_false_of (dec_ne (by decide)) ?_⟩
    refine ⟨_, rfl, x, _, 0, _, rfl, rfl, SqL.of hx1, atI_nat (j := 0) rfl, rfl, _, rfl, if_true_of (dec_eq rfl) ?_⟩
    refine ⟨_, rfl, _, rfl, x, _, 1, _, rfl, rfl, SqL.of hx1, atI_nat (j := 1) rfl, _, rfl, x, _, 2, _, rfl, rfl, SqL.of hx1, atI_nat (j := 2) rfl, _, rfl, x, _, 3, _, rfl, rfl, SqL.of hx1, atI_nat (j := 3) rfl, ?_⟩
    exact ⟨e, _, i, a, b, rfl, he, by omega, e4, fun H2 p s2 n2 hp => fin H2 p s2 n2 hp⟩
  | grids =>
    refine ⟨_, rfl, x, _, 0, _, rfl, rfl, SqL.of hx1, atI_nat (j := 0) rfl, rfl, _, rfl, if_false_of (dec_ne (by decide)) ?_⟩
    refine ⟨_, rfl, x, _, 0, _, rfl, rfl, SqL.of hx1, atI_nat (j := 0) rfl, rfl, _, rfl, if_false_of (dec_ne (by decide)) ?_⟩
    refine ⟨_, rfl, x, _, 0, _, rfl, rfl, SqL.of hx1, atI_nat (j := 0) rfl, rfl, _, rfl, if_false_of (dec_ne (by decide)) ?_⟩
    refine ⟨_, rfl, x, _, 0, _, rfl, rfl, SqL.of hx1, atI_nat (j := 0) rfl, rfl, _, rfl, if_false_of (dec_ne (by decide)) ?_⟩
    refine ⟨_, rfl, x, _, 0, _, rfl, rfl, SqL.of hx1, atI_nat (j := 0) rfl, rfl, _, rfl, if_true_of (dec_eq rfl) ?_⟩
    refine ⟨_, rfl, q, s, rfl, hq1, gs.few, fun H2 p xs s2 hp al => ?_⟩
    have few := gs.few
    have lg := gr1_len s s.length few
    rw [← grids_gr1] at lg
    refine ⟨p, xs, _, H1, rfl, hp, al, by rw [List.length_map]; omega, fun H3 r s3 n3 hr3 => fin H3 r (s2.trans s3) (s2.free n3) ?_⟩
    rw [hr3]
    unfold aAll
    rw [List.length_map, List.flatMap_map]
    rfl
  | on n u v =>
    refine ⟨_, rfl, x, _, 0, _, rfl, rfl, SqL.of hx1, atI_nat (j := 0) rfl, rfl, _, rfl, if_false_of (dec_ne (by decide)) ?_⟩
    refine ⟨_, rfl, x, _, 0, _, rfl, rfl, SqL.of hx1, atI_nat (j := 0) rfl, rfl, _, rfl, if_false_of (dec_ne (by decide)) ?_⟩
    refine ⟨_, rfl, x, _, 0, _, rfl, rfl, SqL.of hx1, atI_nat (j := 0) rfl, rfl, _, rfl, if_false_of (dec_ne (by decide)) ?_⟩
    refine ⟨_, rfl, x, _, 0, _, rfl, rfl, SqL.of hx1, atI_nat (j := 0) rfl, rfl, _, rfl, if_false_of (dec_ne (by decide)) ?_⟩
    refine ⟨_, rfl, x, _, 0, _, rfl, rfl, SqL.of hx1, atI_nat (j := 0) rfl, rfl, _, rfl, if_false_of (dec_ne (by decide)) ?_⟩
    refine ⟨_, rfl, x, _, 0, _, rfl, rfl, SqL.of hx1, atI_nat (j := 0) rfl, rfl, _, rfl, if_true_of (dec_eq rfl) ?_⟩
    refine ⟨_, rfl, _, rfl, x, _, 1, _, rfl, rfl, SqL.of hx1, atI_nat (j := 1) rfl, _, rfl, x, _, 2, _, rfl, rfl, SqL.of hx1, atI_nat (j := 2) rfl, _, rfl, x, _, 3, _, rfl, rfl, SqL.of hx1, atI_nat (j := 3) rfl, ?_⟩
    exact ⟨q, s, n, u, v, rfl, hq1, gs.ne, gs.few, fun H2 p s2 n2 hp => fin H2 p s2 n2 hp⟩
  | gridOf i a b =>
    refine ⟨_, rfl, x, _, 0, _, rfl, rfl, SqL.of hx1, atI_nat (j := 0) rfl, rfl, _, rfl, if_false_of (dec_ne (by decide)) ?_⟩
    refine ⟨_, rfl, x, _, 0, _, rfl, rfl, SqL.of hx1, atI_nat (j := 0) rfl, rfl, _, rfl, if_false_of (dec_ne (by decide)) ?_⟩
    refine ⟨_, rfl, x, _, 0, _, rfl, rfl, SqL.of hx1, atI_nat (j := 0) rfl, rfl, _, rfl, if_false_of (dec_ne (by decide)) ?_⟩
    refine ⟨_, rfl, x, _, 0, _, rfl, rfl, SqL.of hx1, atI_nat (j := 0) rfl, rfl, _, rfl, if_false_of (dec_ne (by decide)) ?_⟩
    refine ⟨_, rfl, x, _, 0, _, rfl, rfl, SqL.of hx1, atI_nat (j := 0) rfl, rfl, _, rfl, if_false_of (dec_ne (by decide)) ?_⟩
    refine ⟨_, rfl, x, _, 0, _, rfl, rfl, SqL.of hx1, atI_nat (j := 0) rfl, rfl, _, rfl, if_false_of (dec_ne (by decide)) ?_⟩
    refine ⟨_, rfl, x, _, 0, _, rfl, rfl, SqL.of hx1, atI_nat (j := 0) rfl, rfl, _, rfl, if_true_of (dec_eq rfl) ?_⟩
    refine ⟨_, rfl, _, rfl, x, _, 1, _, rfl, rfl, SqL.of hx1, atI_nat (j := 1) rfl, _, rfl, x, _, 2, _, rfl, rfl, SqL.of hx1, atI_nat (j := 2) rfl, _, rfl, x, _, 3, _, rfl, rfl, SqL.of hx1, atI_nat (j := 3) rfl, ?_⟩
    exact ⟨q, s, i, a, b, rfl, hq1, gs, T1, fun H2 p x2 T2 fr hp => k H2 p (x1.trans x2) T2 (fun u hu => by
      apply Classical.byContradiction
      intro hne
      obtain ⟨ps, e⟩ := fr u (x1 _ _ hu (fun ps z => hne ⟨ps, z⟩))
      exact hne ⟨ps, e⟩) hp⟩
  | tiles =>
    refine ⟨_, rfl, x, _, 0, _, rfl, rfl, SqL.of hx1, atI_nat (j := 0) rfl, rfl, _, rfl, if_false_of (dec_ne (by decide)) ?_⟩
    refine ⟨_, rfl, x, _, 0, _, rfl, rfl, SqL.of hx1, atI_nat (j := 0) rfl, rfl, _, rfl, if_false_of (dec_ne (by decide)) ?_⟩
    refine ⟨_, rfl, x, _, 0, _, rfl, rfl, SqL.of hx1, atI_nat (j := 0) rfl, rfl, _, rfl, if_false_of (dec_ne (by decide)) ?_⟩
    refine ⟨_, rfl, x, _, 0, _, rfl, rfl, SqL.of hx1, atI_nat (j := 0) rfl, rfl, _, rfl, if_false_of (dec_ne (by decide)) ?_⟩
    refine ⟨_, rfl, x, _, 0, _, rfl, rfl, SqL.of hx1, atI_nat (j := 0) rfl, rfl, _, rfl, if_false_of (dec_ne (by decide)) ?_⟩
    refine ⟨_, rfl, x, _, 0, _, rfl, rfl, SqL.of hx1, atI_nat (j := 0) rfl, rfl, _, rfl, if_false_of (dec_ne (by decide)) ?_⟩
    refine ⟨_, rfl, x, _, 0, _, rfl, rfl, SqL.of hx1, atI_nat (j := 0) rfl, rfl, _, rfl, if_false_of (dec_ne (by decide)) ?_⟩
    exact ⟨_, rfl, e, _, rfl, he, by omega, fun H2 p s2 n2 hp => fin H2 p s2 n2 hp⟩
end
end Oc
namespace Oc
open PySem PySem.Spec PyProof.Rows L2
section
variable {P : Program} {w : World} {K : PySem.W.Frag} {mg : Str → Option Value} {base : Heap}
/-- a def of the text, as the top leaves it -/
def DefAt (K : PySem.W.Frag) (mg : Str → Option Value) (x : Str) (st : Stmt) : Prop := ∃ f fd, mg x = some (.ref f) ∧ Fun K x x st f fd
theorem def_at {h : Heap} {x : Str} {st : Stmt} {f : Addr} {oc kV dc pm cd ct : Value} {od an : Option Addr} {sl : Array (Option Value)} (X : K.In h) (G : h.Ns mainGlobals mg) (a : PySem.W.nsIn K mainGlobals x = some (some (.ref f)))
    (l : K.lookup f = some ⟨oc, od, .func (PySem.W.fnOf x x (defArgs st) (defBody st) (defScope st) .none kV dc pm an cd ct), sl⟩) (c : PySem.W.codeIn K cd x = true) (k : PySem.W.keepIn K (.ref f) = true) : DefAt K mg x st :=
  ⟨f, _, PySem.W.mg_of X G a, fun_mk l c k⟩
/-- what the top leaves of the whole text -/
structure Txt (K : PySem.W.Frag) (mg : Str → Option Value) : Prop where
  len : mg "len" = none
  range : mg "range" = none
  reversed : mg "reversed" = none
  max : mg "max" = none
  min : mg "min" = none
  set : mg "set" = none
  enumerate : mg "enumerate" = none
  last : ∃ t, mg "LAST_PLACE" = some (.int 11 t)
  most : ∃ t, mg "MOST_SQUARES" = some (.int 12 t)
  asked : ∃ t, mg "LAST_ASKED_PLACE" = some (.int 1000 t)
  abs : mg "abs" = none
  nums : Nums mg
  near : DefAt K mg "neighbours" sNear
  join : DefAt K mg "is_joined" sJoin
  out : DefAt K mg "outside_of" sOut
  sq : DefAt K mg "squares_of" sSq
  well : DefAt K mg "is_well_told" sWell
  ref : DefAt K mg "shape_refusal" sRef
  cor : DefAt K mg "corners" sCor
  steps : DefAt K mg "steps_by_corner" sSteps
  edge : DefAt K mg "edge_of" sEdge
  back : DefAt K mg "gone_back" sBack
  round : DefAt K mg "gone_round_from" sRound
  parts : DefAt K mg "parts_of" sParts
  cut : DefAt K mg "is_cut" sCut
  cuts : DefAt K mg "cuts_of" sCuts
  along : DefAt K mg "move_along" sAlong
  ashape : DefAt K mg "answer_shape" sAShape
  acut : DefAt K mg "answer_cut" sACut
  cnt : DefAt K mg "counted" sCnt
  amoves : DefAt K mg "answer_moves" sAMoves
  mv : DefAt K mg "moves_of" sMv
  home : DefAt K mg "home_in" sHome
  homes : DefAt K mg "homes_in" sHomes
  grids : DefAt K mg "grids_of" sGrids
  gby : DefAt K mg "grid_by" sGby
  on : DefAt K mg "answer_on" sOn
  gof : DefAt K mg "answer_gridof" sGof
  tiles : DefAt K mg "answer_tiles" sTiles
  to : DefAt K mg "answer_to" sTo
  clen : DefAt K mg "call_length" sLen
  ans : DefAt K mg "answers" sAns
theorem cal {x : Str} {st : Stmt} {k : Nat} {ps : List Str} {sp : Sp} (d : DefAt K mg x st)
    (hb : ∀ (kV doc pm : Value) (an : Option Addr) (cdv ct : Value) (us : List Value), us.length = ps.length → bindArgs (PySem.W.fnOf x x (defArgs st) (defBody st) (defScope st) .none kV doc pm an cdv ct) ⟨us, []⟩ = pure (ps.zip us))
    (ok : ∀ f fd, Fun K x x st f fd → FnOk P w K mg base CX0 k f fd ps sp) : Cal P w K mg base x k ps sp := by
  obtain ⟨f, fd, h1, F⟩ := d
  exact ⟨f, fd, h1, F.kp, F.binds hb, ok f fd F⟩
theorem all_ok (T : Txt K mg) {fE c PT : Addr} {fdE : FuncData} (hE : mg "edge_of" = some (.ref fE)) (FE : Fun K "edge_of" "edge_of" sEdge fE fdE) (hcode : fdE.code = .ref c) (TB : LamX.TabB base mg c PT) :
    Cal P w K mg base "squares_of" 1 ["numbers"] spSq ∧ Cal P w K mg base "call_length" 1 ["calls", "start"] (spLen K) ∧ Cal P w K mg base "answer_to" 6 ["call", "squares"] (spTo PT) := by
  obtain ⟨tL, hL⟩ := T.last
  obtain ⟨tM, hM⟩ := T.most
  obtain ⟨tA, hA⟩ := T.asked
  have one : ∀ {x : Str} {us : List Value}, us.length = [x].length → ∃ u, us = [u] := fun {x us} h => match us, h with | [u], _ => ⟨u, rfl⟩
  have cN : Cal P w K mg base "neighbours" 1 ["place"] spNear := cal T.near (fun _ _ _ _ _ _ us hl => match us, hl with | [_], _ => rfl) fun _ _ F => ok_near F
  have cSq : Cal P w K mg base "squares_of" 1 ["numbers"] spSq := cal T.sq (fun _ _ _ _ _ _ us hl => match us, hl with | [_], _ => rfl) fun _ _ F => ok_sq F T.len T.range
  have cJ : Cal P w K mg base "is_joined" 2 ["places"] spJoin := cal T.join (fun _ _ _ _ _ _ us hl => match us, hl with | [_], _ => rfl) fun _ _ F => ok_join F T.len cN
  have cO : Cal P w K mg base "outside_of" 1 ["squares"] spOut := cal T.out (fun _ _ _ _ _ _ us hl => match us, hl with | [_], _ => rfl) fun _ _ F => ok_out F T.range hL
  have cW : Cal P w K mg base "is_well_told" 2 ["numbers"] spWell := cal T.well (fun _ _ _ _ _ _ us hl => match us, hl with | [_], _ => rfl) fun _ _ F => ok_well F T.len T.max T.set hL hM cSq
  have cRf : Cal P w K mg base "shape_refusal" 3 ["numbers"] spRef := cal T.ref (fun _ _ _ _ _ _ us hl => match us, hl with | [_], _ => rfl) fun _ _ F => ok_ref F cW cSq cJ cO
  have cC : Cal P w K mg base "corners" 1 ["square"] spCor := cal T.cor (fun _ _ _ _ _ _ us hl => match us, hl with | [_], _ => rfl) fun _ _ F => ok_cor F
  have cSt : Cal P w K mg base "steps_by_corner" 2 ["squares"] spSteps := cal T.steps (fun _ _ _ _ _ _ us hl => match us, hl with | [_], _ => rfl) fun _ _ F => ok_steps F T.enumerate cN cC
  have cE : Cal P w K mg base "edge_of" 3 ["squares"] (spEdge PT) := ⟨fE, fdE, hE, FE.kp, FE.binds (fun _ _ _ _ _ _ us hl => match us, hl with | [_], _ => rfl), ok_edge FE T.len T.min TB hcode cSt cN⟩
  have cB : Cal P w K mg base "gone_back" 1 ["steps"] spBack := cal T.back (fun _ _ _ _ _ _ us hl => match us, hl with | [_], _ => rfl) fun _ _ F => ok_back F T.reversed
  have cR : Cal P w K mg base "gone_round_from" 1 ["edge", "i"] spRound := cal T.round (fun _ _ _ _ _ _ us hl => match us, hl with | [_, _], _ => rfl) fun _ _ F => ok_round F
  have cP : Cal P w K mg base "parts_of" 2 ["edge", "i", "a", "b"] spParts := cal T.parts (fun _ _ _ _ _ _ us hl => match us, hl with | [_, _, _, _], _ => rfl) fun _ _ F => ok_parts F T.len cR
  have cK : Cal P w K mg base "is_cut" 3 ["edge", "i", "a", "b"] spCut := cal T.cut (fun _ _ _ _ _ _ us hl => match us, hl with | [_, _, _, _], _ => rfl) fun _ _ F => ok_cut F T.len cR cP cB
  have cKs : Cal P w K mg base "cuts_of" 4 ["edge"] spCuts := cal T.cuts (fun _ _ _ _ _ _ us hl => match us, hl with | [_], _ => rfl) fun _ _ F => ok_cuts F T.len T.range cK
  have cA : Cal P w K mg base "move_along" 1 ["steps"] spAlong := cal T.along (fun _ _ _ _ _ _ us hl => match us, hl with | [_], _ => rfl) fun _ _ F => ok_along F
  have c0 : Cal P w K mg base "answer_shape" 4 ["numbers"] (spAShape PT) := cal T.ashape (fun _ _ _ _ _ _ us hl => match us, hl with | [_], _ => rfl) fun _ _ F => ok_ashape F T.len cRf cE cSq
  have c2 : Cal P w K mg base "answer_cut" 5 ["edge"] spACut := cal T.acut (fun _ _ _ _ _ _ us hl => match us, hl with | [_], _ => rfl) fun _ _ F => ok_acut F T.len cKs
  have cNt : Cal P w K mg base "counted" 1 ["rows"] spCnt := cal T.cnt (fun _ _ _ _ _ _ us hl => match us, hl with | [_], _ => rfl) fun _ _ F => ok_cnt F T.len
  have cM : Cal P w K mg base "moves_of" 3 ["edge", "i", "a", "b"] spMv := cal T.mv (fun _ _ _ _ _ _ us hl => match us, hl with | [_, _, _, _], _ => rfl) fun _ _ F => ok_mv F cP cA
  have c4 : Cal P w K mg base "answer_moves" 4 ["edge", "i", "a", "b"] spAMoves := cal T.amoves (fun _ _ _ _ _ _ us hl => match us, hl with | [_, _, _, _], _ => rfl) fun _ _ F => ok_amoves F cK cM
  have cH : Cal P w K mg base "home_in" 1 ["grid", "place"] spHome := cal T.home (fun _ _ _ _ _ _ us hl => match us, hl with | [_, _], _ => rfl) fun _ _ F => ok_home F
  have cHs : Cal P w K mg base "homes_in" 2 ["grid", "squares"] spHomes := cal T.homes (fun _ _ _ _ _ _ us hl => match us, hl with | [_, _], _ => rfl) fun _ _ F => ok_homes F cH
  have cG : Cal P w K mg base "grids_of" 3 ["squares"] spGrids := cal T.grids (fun _ _ _ _ _ _ us hl => match us, hl with | [_], _ => rfl) fun _ _ F => ok_grids F T.len T.range T.set cHs
  have cGb : Cal P w K mg base "grid_by" 1 ["first", "second"] spGby := cal T.gby (fun _ _ _ _ _ _ us hl => match us, hl with | [_, _], _ => rfl) fun _ _ F => ok_gby F T.abs
  have c6 : Cal P w K mg base "answer_on" 4 ["squares", "n", "x", "y"] spOn := cal T.on (fun _ _ _ _ _ _ us hl => match us, hl with | [_, _, _, _], _ => rfl) fun _ _ F => ok_on F T.len hA cG cHs cH
  have c7 : Cal P w K mg base "answer_gridof" 4 ["squares", "i", "a", "b"] (spGof PT) := cal T.gof (fun _ _ _ _ _ _ us hl => match us, hl with | [_, _, _, _], _ => rfl) fun _ _ F => ok_gof F cE cK cM cG cGb
  have c8 : Cal P w K mg base "answer_tiles" 5 ["edge"] spTiles := cal T.tiles (fun _ _ _ _ _ _ us hl => match us, hl with | [_], _ => rfl) fun _ _ F => ok_tiles F T.len cKs
  exact ⟨cSq, cal T.clen (fun _ _ _ _ _ _ us hl => match us, hl with | [_, _], _ => rfl) fun _ _ F => ok_len F T.nums, cal T.to (fun _ _ _ _ _ _ us hl => match us, hl with | [_, _], _ => rfl) fun _ _ F => ok_to F T.len T.nums c0 cE c2 cNt cKs c4 cG c6 c7 c8⟩
/-- all of it, from what is found in the written part -/
theorem end_mk {h : Heap} {q : Program} {l2 : List Str} {mean : ExcName → Option Value} {mb : Str → Option Value} {fa : Addr} {dE : DefRec} {t1 t2 t3 t4 t5 t6 t7 t8 t9 t10 t11 : Tok} (KX : K.In h) (T : Top q l2 mean mg mb h) (hmg : mg "answers" = some (.ref fa))
    (hn : PySem.W.noTabs K = true) (hf : (recsOf q).find? (fun e => e.name == ("edge_of" : Str)) = some dE)
    (b1 : PySem.W.nsIn K mainGlobals "len" = some none) (b2 : PySem.W.nsIn K mainGlobals "range" = some none) (b3 : PySem.W.nsIn K mainGlobals "reversed" = some none) (b4 : PySem.W.nsIn K mainGlobals "max" = some none) (b5 : PySem.W.nsIn K mainGlobals "min" = some none) (b6 : PySem.W.nsIn K mainGlobals "set" = some none) (b7 : PySem.W.nsIn K mainGlobals "enumerate" = some none) (b8 : PySem.W.nsIn K mainGlobals "abs" = some none)
    (k1 : PySem.W.nsIn K mainGlobals "LAST_PLACE" = some (some (.int 11 t1))) (k2 : PySem.W.nsIn K mainGlobals "MOST_SQUARES" = some (some (.int 12 t2))) (k3 : PySem.W.nsIn K mainGlobals "LAST_ASKED_PLACE" = some (some (.int 1000 t3))) (k4 : PySem.W.nsIn K mainGlobals "SHAPE" = some (some (.int 0 t4))) (k5 : PySem.W.nsIn K mainGlobals "EDGE" = some (some (.int 1 t5))) (k6 : PySem.W.nsIn K mainGlobals "CUT" = some (some (.int 2 t6))) (k7 : PySem.W.nsIn K mainGlobals "CUTS" = some (some (.int 3 t7))) (k8 : PySem.W.nsIn K mainGlobals "MOVES" = some (some (.int 4 t8))) (k9 : PySem.W.nsIn K mainGlobals "GRIDS" = some (some (.int 5 t9))) (k10 : PySem.W.nsIn K mainGlobals "ON" = some (some (.int 6 t10))) (k11 : PySem.W.nsIn K mainGlobals "GRIDOF" = some (some (.int 7 t11)))
    (d1 : DefAt K mg "neighbours" sNear) (d2 : DefAt K mg "is_joined" sJoin) (d3 : DefAt K mg "outside_of" sOut) (d4 : DefAt K mg "squares_of" sSq) (d5 : DefAt K mg "is_well_told" sWell) (d6 : DefAt K mg "shape_refusal" sRef) (d7 : DefAt K mg "corners" sCor) (d8 : DefAt K mg "steps_by_corner" sSteps) (d9 : DefAt K mg "edge_of" sEdge) (d10 : DefAt K mg "gone_back" sBack) (d11 : DefAt K mg "gone_round_from" sRound) (d12 : DefAt K mg "parts_of" sParts) (d13 : DefAt K mg "is_cut" sCut) (d14 : DefAt K mg "cuts_of" sCuts) (d15 : DefAt K mg "move_along" sAlong) (d16 : DefAt K mg "answer_shape" sAShape) (d17 : DefAt K mg "answer_cut" sACut) (d18 : DefAt K mg "counted" sCnt) (d19 : DefAt K mg "answer_moves" sAMoves) (d20 : DefAt K mg "moves_of" sMv) (d21 : DefAt K mg "home_in" sHome) (d22 : DefAt K mg "homes_in" sHomes) (d23 : DefAt K mg "grids_of" sGrids) (d24 : DefAt K mg "grid_by" sGby) (d25 : DefAt K mg "answer_on" sOn) (d26 : DefAt K mg "answer_gridof" sGof) (d27 : DefAt K mg "answer_tiles" sTiles) (d28 : DefAt K mg "answer_to" sTo) (d29 : DefAt K mg "call_length" sLen) (d30 : DefAt K mg "answers" sAns) :
    ∃ (fd : FuncData) (c PT : Addr), (∀ (s : Shared) (us : List Value), us.length = (["calls"] : List Str).length → BindsTo s fd ⟨us, []⟩ ((["calls"] : List Str).zip us)) ∧ TabHd h K (c, PT) ∧
      ∀ base : Heap, K.In base → base.Ns mainGlobals mg → LamX.TabB base mg c PT → FnOk P w K mg base CX0 7 fa fd ["calls"] (spAns K PT) := by
  have G := T.g
  have tx : Txt K mg := ⟨PySem.W.mg_none_of KX G b1, PySem.W.mg_none_of KX G b2, PySem.W.mg_none_of KX G b3, PySem.W.mg_none_of KX G b4, PySem.W.mg_none_of KX G b5, PySem.W.mg_none_of KX G b6, PySem.W.mg_none_of KX G b7, ⟨t1, PySem.W.mg_of KX G k1⟩, ⟨t2, PySem.W.mg_of KX G k2⟩, ⟨t3, PySem.W.mg_of KX G k3⟩, PySem.W.mg_none_of KX G b8, ⟨⟨t4, PySem.W.mg_of KX G k4⟩, ⟨t5, PySem.W.mg_of KX G k5⟩, ⟨t6, PySem.W.mg_of KX G k6⟩, ⟨t7, PySem.W.mg_of KX G k7⟩, ⟨t8, PySem.W.mg_of KX G k8⟩, ⟨t9, PySem.W.mg_of KX G k9⟩, ⟨t10, PySem.W.mg_of KX G k10⟩, ⟨t11, PySem.W.mg_of KX G k11⟩⟩, d1, d2, d3, d4, d5, d6, d7, d8, d9, d10, d11, d12, d13, d14, d15, d16, d17, d18, d19, d20, d21, d22, d23, d24, d25, d26, d27, d28, d29, d30⟩
  obtain ⟨fE, fdE, hE, FE⟩ := tx.edge
  obtain ⟨oc, od, kV, doc, pm, an, cdv, ct, osl, eE, lkE, hcdE⟩ := FE.ex
  obtain ⟨c, PT, hcode, hd⟩ := tab_top T KX hn hf hE lkE
  obtain ⟨fA, fdA, hA, FA⟩ := tx.ans
  obtain rfl : fA = fa := by
    have := hA.symm.trans hmg
    cases this
    rfl
  refine ⟨fdA, c, PT, ?_, hd, ?_⟩
  · obtain ⟨oc2, od2, kV2, doc2, pm2, an2, cdv2, ct2, osl2, rfl, lk2, hcd2⟩ := FA.ex
    intro s us hu
    match us, hu with
    | [_], _ => exact .of_eq rfl
  · intro base _ _ TB
    obtain ⟨cSq, cL, cT⟩ := all_ok (P := P) (w := w) (base := base) tx hE FE hcode TB
    exact ok_ans (n := 6) (by decide) FA tx.len (PySem.W.mg_of KX G k4) cL cT cSq
end
end Oc
open PySem PySem.W PyProof.Rows
set_option maxRecDepth 100000 in
set_option maxHeartbeats 8000000 in
theorem PySem.Challenge.cw_onecover_s01_answers_holds : PySem.Challenge.rw_onecover_s01_answers.Holds := by
  w_on; k_headS; (case hw => exact ⟨[.list [.int 1]], by decide +kernel, by decide +kernel⟩)
  k_fillS
  refine Oc.walk_tab (r := PySem.Challenge.rw_onecover_s01_answers) (k := 7) (ps := ["calls"]) (by decide +kernel) rfl rfl ⟨rfl, by decide, by decide⟩ (fun w h Y => PySem.W.kIn_of Y) ?F
  intro w mg mb mean l2 fa h Y KX T hmg
  refine' Exists.elim (Oc.end_mk (P := PySem.Challenge.rw_onecover_s01_answers.prog) (w := w) KX T hmg ?hn ?hf ?b1 ?b2 ?b3 ?b4 ?b5 ?b6 ?b7 ?b8 ?k1 ?k2 ?k3 ?k4 ?k5 ?k6 ?k7 ?k8 ?k9 ?k10 ?k11 ?d1 ?d2 ?d3 ?d4 ?d5 ?d6 ?d7 ?d8 ?d9 ?d10 ?d11 ?d12 ?d13 ?d14 ?d15 ?d16 ?d17 ?d18 ?d19 ?d20 ?d21 ?d22 ?d23 ?d24 ?d25 ?d26 ?d27 ?d28 ?d29 ?d30) ?rest
  (case hn => kernel_rfl)
  (case hf => rfl)
  (case b1 => k_is)
  (case b2 => k_is)
  (case b3 => k_is)
  (case b4 => k_is)
  (case b5 => k_is)
  (case b6 => k_is)
  (case b7 => k_is)
  (case b8 => k_is)
  (case k1 => k_is)
  (case k2 => k_is)
  (case k3 => k_is)
  (case k4 => k_is)
  (case k5 => k_is)
  (case k6 => k_is)
  (case k7 => k_is)
  (case k8 => k_is)
  (case k9 => k_is)
  (case k10 => k_is)
  (case k11 => k_is)
  (case d1 => (refine' Oc.def_at KX T.g ?a ?l ?c ?k; (case a => k_is); (case l => k_is); (case c => k_is); (case k => k_is)))
  (case d2 => (refine' Oc.def_at KX T.g ?a ?l ?c ?k; (case a => k_is); (case l => k_is); (case c => k_is); (case k => k_is)))
  (case d3 => (refine' Oc.def_at KX T.g ?a ?l ?c ?k; (case a => k_is); (case l => k_is); (case c => k_is); (case k => k_is)))
  (case d4 => (refine' Oc.def_at KX T.g ?a ?l ?c ?k; (case a => k_is); (case l => k_is); (case c => k_is); (case k => k_is)))
  (case d5 => (refine' Oc.def_at KX T.g ?a ?l ?c ?k; (case a => k_is); (case l => k_is); (case c => k_is); (case k => k_is)))
  (case d6 => (refine' Oc.def_at KX T.g ?a ?l ?c ?k; (case a => k_is); (case l => k_is); (case c => k_is); (case k => k_is)))
  (case d7 => (refine' Oc.def_at KX T.g ?a ?l ?c ?k; (case a => k_is); (case l => k_is); (case c => k_is); (case k => k_is)))
  (case d8 => (refine' Oc.def_at KX T.g ?a ?l ?c ?k; (case a => k_is); (case l => k_is); (case c => k_is); (case k => k_is)))
  (case d9 => (refine' Oc.def_at KX T.g ?a ?l ?c ?k; (case a => k_is); (case l => k_is); (case c => k_is); (case k => k_is)))
  (case d10 => (refine' Oc.def_at KX T.g ?a ?l ?c ?k; (case a => k_is); (case l => k_is); (case c => k_is); (case k => k_is)))
  (case d11 => (refine' Oc.def_at KX T.g ?a ?l ?c ?k; (case a => k_is); (case l => k_is); (case c => k_is); (case k => k_is)))
  (case d12 => (refine' Oc.def_at KX T.g ?a ?l ?c ?k; (case a => k_is); (case l => k_is); (case c => k_is); (case k => k_is)))
  (case d13 => (refine' Oc.def_at KX T.g ?a ?l ?c ?k; (case a => k_is); (case l => k_is); (case c => k_is); (case k => k_is)))
  (case d14 => (refine' Oc.def_at KX T.g ?a ?l ?c ?k; (case a => k_is); (case l => k_is); (case c => k_is); (case k => k_is)))
  (case d15 => (refine' Oc.def_at KX T.g ?a ?l ?c ?k; (case a => k_is); (case l => k_is); (case c => k_is); (case k => k_is)))
  (case d16 => (refine' Oc.def_at KX T.g ?a ?l ?c ?k; (case a => k_is); (case l => k_is); (case c => k_is); (case k => k_is)))
  (case d17 => (refine' Oc.def_at KX T.g ?a ?l ?c ?k; (case a => k_is); (case l => k_is); (case c => k_is); (case k => k_is)))
  (case d18 => (refine' Oc.def_at KX T.g ?a ?l ?c ?k; (case a => k_is); (case l => k_is); (case c => k_is); (case k => k_is)))
  (case d19 => (refine' Oc.def_at KX T.g ?a ?l ?c ?k; (case a => k_is); (case l => k_is); (case c => k_is); (case k => k_is)))
  (case d20 => (refine' Oc.def_at KX T.g ?a ?l ?c ?k; (case a => k_is); (case l => k_is); (case c => k_is); (case k => k_is)))
  (case d21 => (refine' Oc.def_at KX T.g ?a ?l ?c ?k; (case a => k_is); (case l => k_is); (case c => k_is); (case k => k_is)))
  (case d22 => (refine' Oc.def_at KX T.g ?a ?l ?c ?k; (case a => k_is); (case l => k_is); (case c => k_is); (case k => k_is)))
  (case d23 => (refine' Oc.def_at KX T.g ?a ?l ?c ?k; (case a => k_is); (case l => k_is); (case c => k_is); (case k => k_is)))
  (case d24 => (refine' Oc.def_at KX T.g ?a ?l ?c ?k; (case a => k_is); (case l => k_is); (case c => k_is); (case k => k_is)))
  (case d25 => (refine' Oc.def_at KX T.g ?a ?l ?c ?k; (case a => k_is); (case l => k_is); (case c => k_is); (case k => k_is)))
  (case d26 => (refine' Oc.def_at KX T.g ?a ?l ?c ?k; (case a => k_is); (case l => k_is); (case c => k_is); (case k => k_is)))
  (case d27 => (refine' Oc.def_at KX T.g ?a ?l ?c ?k; (case a => k_is); (case l => k_is); (case c => k_is); (case k => k_is)))
  (case d28 => (refine' Oc.def_at KX T.g ?a ?l ?c ?k; (case a => k_is); (case l => k_is); (case c => k_is); (case k => k_is)))
  (case d29 => (refine' Oc.def_at KX T.g ?a ?l ?c ?k; (case a => k_is); (case l => k_is); (case c => k_is); (case k => k_is)))
  (case d30 => (refine' Oc.def_at KX T.g ?a ?l ?c ?k; (case a => k_is); (case l => k_is); (case c => k_is); (case k => k_is)))
  rintro fd ⟨c, PT, hb, hd, ok⟩
  refine ⟨fd, [(c, PT)], _, hb, ?_, fun base KB GB tB => ok base KB GB (tB (c, PT) (List.mem_singleton.mpr rfl)), ?_⟩
  · intro p hp
    rw [List.mem_singleton] at hp
    subst hp
    exact hd
  · intro H H2 xs a sm ht hwi hask hx
    cases hx with
    | cons h1 h2 =>
      cases h2
      cases h1 with
      | lst hs ha =>
        have e := L2.ints_dw a.1 _ ha
        subst e
        refine ⟨_, a.1, rfl, sm.seq hs, ?_, hask, ?_, fun H' p hp => .lst (L2.SqL.of hp) (L2.dw_ints _)⟩
        · have q : ((Codec.inLen 0 640 a.1 && a.1.all (Codec.inInt 0 4294967295)) && true) = true := hwi
          rw [Bool.and_eq_true, Bool.and_eq_true] at q
          exact (Codec.inNat_iff.mp q.1.1).2
        · intro p hp
          rw [List.mem_singleton] at hp
          subst hp
          exact LamX.TabS.nil (ht (c, PT) (List.mem_singleton.mpr rfl))
#print axioms PySem.Challenge.cw_onecover_s01_answers_holds
