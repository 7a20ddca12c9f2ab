/-
  Part of a claim's texts: contracts of the program's functions and the plain functions that they compute, in build order.
-/
import Derived.Laws.AppendOwnNone
import Derived.Test.YtmhaapghiecfcaaZB01
import Derived.Test.YtmhaapghiecfcaaZB04
import Derived.Test.YtmhaapghiecfcaaZB06
namespace Go.Proofs.Ytmhaapghiecfcaa
open Go.RowKit
namespace M

def Done (s a sd : Int) (x y side : Int) : Prop := x + y < s ∨ (x + y = s ∧ (x < a ∨ (x = a ∧ side < sd)))
def Ends (f : Fm) (x y side : Int) : Prop := (x = f.tie ∧ y = f.tie) ∨ (side = 0 ∧ f.games ≤ x + 1 ∧ y + 2 ≤ x + 1) ∨ (side = 1 ∧ f.games ≤ y + 1 ∧ x + 2 ≤ y + 1)
instance (f : Fm) (x y side : Int) : Decidable (Ends f x y side) := by unfold Ends; infer_instance
def StepTo (f : Fm) (s a sd : Int) (e : Bool) (x y : Int) : Prop :=
  (1 ≤ x ∧ Done s a sd (x - 1) y 0 ∧ Open f (x - 1) y ∧ (Ends f (x - 1) y 0 ↔ e = true)) ∨ (1 ≤ y ∧ Done s a sd x (y - 1) 1 ∧ Open f x (y - 1) ∧ (Ends f x (y - 1) 1 ↔ e = true))
structure Ord (f : Fm) (s a sd : Int) (T O : Nat → Nat → Int) : Prop where
  t : ∀ x y : Nat, x ≤ 44 → y ≤ 44 → (0 < T x y ↔ (x = 0 ∧ y = 0) ∨ StepTo f s a sd false x y)
  o : ∀ x y : Nat, x ≤ 44 → y ≤ 44 → (0 < O x y ↔ StepTo f s a sd true x y)
  tb : ∀ x y : Nat, 0 ≤ T x y ∧ T x y ≤ 1000000000001
  ob : ∀ x y : Nat, 0 ≤ O x y ∧ O x y ≤ 1000000000001
theorem Open.nonneg {f : Fm} {x y : Int} (h : Open f x y) : 0 ≤ x ∧ 0 ≤ y := by
  induction h with
  | zero => omega
  | one => omega
  | two => omega
theorem open_cases {f : Fm} {x y : Int} : Open f x y ↔ (x = 0 ∧ y = 0) ∨ (1 ≤ x ∧ Open f (x - 1) y ∧ ¬ Ends f (x - 1) y 0) ∨ (1 ≤ y ∧ Open f x (y - 1) ∧ ¬ Ends f x (y - 1) 1) := by
  constructor
  · intro h
    cases h with
    | zero => exact .inl ⟨rfl, rfl⟩
    | one a b h1 h2 h3 =>
      have := h1.nonneg
      refine .inr (.inl ⟨by omega, by rw [show a + 1 - 1 = a by omega]; exact h1, ?_⟩)
      unfold Ends
      omega
    | two a b h1 h2 h3 =>
      have := h1.nonneg
      refine .inr (.inr ⟨by omega, by rw [show b + 1 - 1 = b by omega]; exact h1, ?_⟩)
      unfold Ends
      omega
  · rintro (⟨rfl, rfl⟩ | ⟨h0, h1, h2⟩ | ⟨h0, h1, h2⟩)
    · exact .zero
    · have := Open.one (x - 1) y h1 (fun c => h2 (.inl c)) (fun c => h2 (.inr (.inl ⟨rfl, c⟩)))
      rwa [show x - 1 + 1 = x by omega] at this
    · have := Open.two x (y - 1) h1 (fun c => h2 (.inl c)) (fun c => h2 (.inr (.inr ⟨rfl, c⟩)))
      rwa [show y - 1 + 1 = y by omega] at this
def T0 : Nat → Nat → Int := fun x y => if x = 0 ∧ y = 0 then 1 else 0
theorem ord_start (f : Fm) : Ord f 0 0 0 T0 (fun _ _ => 0) := by
  have hno : ∀ (x y : Nat) (e : Bool), ¬ StepTo f 0 0 0 e x y := by
    intro x y e h
    unfold StepTo Done at h
    rcases h with ⟨h1, h2, h3, _⟩ | ⟨h1, h2, h3, _⟩
    · have := h3.nonneg; omega
    · have := h3.nonneg; omega
  refine ⟨fun x y _ _ => ?_, fun x y _ _ => ?_, fun x y => ?_, fun x y => ?_⟩
  · unfold T0
    split
    · rename_i h; exact ⟨fun _ => .inl h, fun _ => by omega⟩
    · rename_i h; exact ⟨fun c => by omega, fun c => by rcases c with c | c; exact absurd c h; exact absurd c (hno x y false)⟩
  · exact ⟨fun c => by omega, fun c => absurd c (hno x y true)⟩
  · unfold T0; split <;> omega
  · omega
theorem stepTo_congr {f : Fm} {s a sd s' a' sd' : Int} {e : Bool} {x y : Int} (h0 : 1 ≤ x → Open f (x - 1) y → (Done s a sd (x - 1) y 0 ↔ Done s' a' sd' (x - 1) y 0)) (h1 : 1 ≤ y → Open f x (y - 1) → (Done s a sd x (y - 1) 1 ↔ Done s' a' sd' x (y - 1) 1)) : StepTo f s a sd e x y ↔ StepTo f s' a' sd' e x y := by
  unfold StepTo
  constructor
  · rintro (⟨p, q, r, t⟩ | ⟨p, q, r, t⟩)
    · exact .inl ⟨p, (h0 p r).1 q, r, t⟩
    · exact .inr ⟨p, (h1 p r).1 q, r, t⟩
  · rintro (⟨p, q, r, t⟩ | ⟨p, q, r, t⟩)
    · exact .inl ⟨p, (h0 p r).2 q, r, t⟩
    · exact .inr ⟨p, (h1 p r).2 q, r, t⟩
theorem Ord.congr {f : Fm} {s a sd s' a' sd' : Int} {T O : Nat → Nat → Int} (h : Ord f s a sd T O) (hc : ∀ (e : Bool) (x y : Nat), x ≤ 44 → y ≤ 44 → (StepTo f s a sd e x y ↔ StepTo f s' a' sd' e x y)) : Ord f s' a' sd' T O :=
  ⟨fun x y hx hy => by rw [h.t x y hx hy, hc false x y hx hy], fun x y hx hy => by rw [h.o x y hx hy, hc true x y hx hy], h.tb, h.ob⟩
theorem Ord.now {f : Fm} {s a sd : Int} {T O : Nat → Nat → Int} (h : Ord f s a sd T O) {x y : Nat} (hx : x ≤ 44) (hy : y ≤ 44) (hs : (x : Int) + y ≤ s) : 0 < T x y ↔ Open f x y := by
  rw [h.t x y hx hy, open_cases]
  unfold StepTo Done
  simp only [Bool.false_eq_true, iff_false]
  constructor
  · rintro (⟨rfl, rfl⟩ | ⟨p, _, r, t⟩ | ⟨p, _, r, t⟩)
    · exact .inl ⟨rfl, rfl⟩
    · exact .inr (.inl ⟨p, r, t⟩)
    · exact .inr (.inr ⟨p, r, t⟩)
  · rintro (⟨p, q⟩ | ⟨p, r, t⟩ | ⟨p, r, t⟩)
    · exact .inl ⟨by omega, by omega⟩
    · exact .inr (.inl ⟨p, .inl (by omega), r, t⟩)
    · exact .inr (.inr ⟨p, .inl (by omega), r, t⟩)
def gx (a : Nat) (sd : Nat) : Nat := if sd = 0 then a + 1 else a
def gy (b : Nat) (sd : Nat) : Nat := if sd = 0 then b else b + 1
def upd (T : Nat → Nat → Int) (x y : Nat) (v : Int) : Nat → Nat → Int := fun i j => if i = x ∧ j = y then v else T i j
def capW (n : Int) : Int := min 1000000000001 n
theorem capW_pos {n m : Int} (hn : 0 ≤ n) (hm : 0 < m) : 0 < capW (n + m) ∧ capW (n + m) ≤ 1000000000001 := by unfold capW; omega
theorem stepTo_more {f : Fm} {s : Int} {a b sd : Nat} {e : Bool} {x y : Nat} (hab : (a : Int) + b = s) (ho : Open f a b) (hsd : sd < 2) (he : Ends f a b sd ↔ e = true) : StepTo f s a ((sd : Int) + 1) e x y ↔ StepTo f s a sd e x y ∨ (x = gx a sd ∧ y = gy b sd) := by
  have h2 : sd = 0 ∨ sd = 1 := by omega
  unfold StepTo Done gx gy
  constructor
  · rintro (⟨p, q, r, t⟩ | ⟨p, q, r, t⟩)
    · by_cases c : (x : Int) - 1 = a ∧ sd = 0
      · obtain ⟨c1, c2⟩ := c
        subst c2
        by_cases c3 : (x : Int) - 1 + y = s
        · right
          simp only [if_true]
          omega
        · left; left
          exact ⟨p, by omega, r, t⟩
      · left; left
        exact ⟨p, by omega, r, t⟩
    · by_cases c : (x : Int) = a ∧ sd = 1
      · obtain ⟨c1, c2⟩ := c
        subst c2
        by_cases c3 : (x : Int) + (y - 1) = s
        · right
          simp only [show ¬ (1 = 0) by omega, if_false]
          omega
        · left; right
          exact ⟨p, by omega, r, t⟩
      · left; right
        exact ⟨p, by omega, r, t⟩
  · rintro ((⟨p, q, r, t⟩ | ⟨p, q, r, t⟩) | ⟨hx, hy⟩)
    · exact .inl ⟨p, by omega, r, t⟩
    · exact .inr ⟨p, by omega, r, t⟩
    · rcases h2 with rfl | rfl
      · simp only [if_true] at hx hy
        subst hx hy
        left
        refine ⟨by omega, by omega, ?_, ?_⟩
        · rw [show ((a + 1 : Nat) : Int) - 1 = a by omega]; exact ho
        · rw [show ((a + 1 : Nat) : Int) - 1 = a by omega]; exact he
      · simp only [show ¬ (1 = 0) by omega, if_false] at hx hy
        subst hx hy
        right
        refine ⟨by omega, by omega, ?_, ?_⟩
        · rw [show ((b + 1 : Nat) : Int) - 1 = b by omega]; exact ho
        · rw [show ((b + 1 : Nat) : Int) - 1 = b by omega]; exact he
theorem stepTo_other {f : Fm} {s : Int} {a b sd : Nat} {e : Bool} {x y : Nat} (hab : (a : Int) + b = s) (hsd : sd < 2) (he : ¬ (Ends f a b sd ↔ e = true)) : StepTo f s a ((sd : Int) + 1) e x y ↔ StepTo f s a sd e x y := by
  have h2 : sd = 0 ∨ sd = 1 := by omega
  unfold StepTo Done
  constructor
  · rintro (⟨p, q, r, t⟩ | ⟨p, q, r, t⟩)
    · left
      refine ⟨p, ?_, r, t⟩
      by_cases c : (x : Int) - 1 = a ∧ sd = 0 ∧ (x : Int) - 1 + y = s
      · exfalso
        obtain ⟨c1, c2, c3⟩ := c
        subst c2
        apply he
        rw [show (a : Int) = (x : Int) - 1 by omega, show (b : Int) = (y : Int) by omega]
        exact t
      · omega
    · right
      refine ⟨p, ?_, r, t⟩
      by_cases c : (x : Int) = a ∧ sd = 1 ∧ (x : Int) + (y - 1) = s
      · exfalso
        obtain ⟨c1, c2, c3⟩ := c
        subst c2
        apply he
        rw [show (a : Int) = (x : Int) by omega, show (b : Int) = (y : Int) - 1 by omega]
        exact t
      · omega
  · rintro (⟨p, q, r, t⟩ | ⟨p, q, r, t⟩)
    · exact .inl ⟨p, by omega, r, t⟩
    · exact .inr ⟨p, by omega, r, t⟩
theorem Ord.over {f : Fm} {s : Int} {a b sd : Nat} {T O : Nat → Nat → Int} (h : Ord f s a sd T O) (hab : (a : Int) + b = s) (ha : a ≤ 44) (hb : b ≤ 44) (hsd : sd < 2) (hp : 0 < T a b) (he : Ends f a b sd) : Ord f s a ((sd : Int) + 1) T (upd O (gx a sd) (gy b sd) (capW (O (gx a sd) (gy b sd) + T a b))) := by
  have ho := (h.now ha hb (by omega)).1 hp
  have hc := capW_pos (h.ob (gx a sd) (gy b sd)).1 hp
  refine ⟨fun x y hx hy => ?_, fun x y hx hy => ?_, h.tb, fun x y => ?_⟩
  · rw [h.t x y hx hy, stepTo_other hab hsd (by simpa using he)]
  · rw [stepTo_more hab ho hsd (by simpa using he), ← h.o x y hx hy]
    unfold upd
    split
    · rename_i c; exact ⟨fun _ => .inr c, fun _ => hc.1⟩
    · rename_i c; exact ⟨fun q => .inl q, fun q => q.elim id (fun q => absurd q c)⟩
  · unfold upd
    split
    · have := hc.1; have := hc.2; omega
    · exact h.ob x y
theorem Ord.open_ {f : Fm} {s : Int} {a b sd : Nat} {T O : Nat → Nat → Int} (h : Ord f s a sd T O) (hab : (a : Int) + b = s) (ha : a ≤ 44) (hb : b ≤ 44) (hsd : sd < 2) (hp : 0 < T a b) (he : ¬ Ends f a b sd) : Ord f s a ((sd : Int) + 1) (upd T (gx a sd) (gy b sd) (capW (T (gx a sd) (gy b sd) + T a b))) O := by
  have ho := (h.now ha hb (by omega)).1 hp
  have hc := capW_pos (h.tb (gx a sd) (gy b sd)).1 hp
  refine ⟨fun x y hx hy => ?_, fun x y hx hy => ?_, fun x y => ?_, h.ob⟩
  · rw [stepTo_more hab ho hsd (by simpa using he)]
    unfold upd
    split
    · rename_i c; exact ⟨fun _ => .inr (.inr c), fun _ => hc.1⟩
    · rename_i c
      rw [h.t x y hx hy]
      exact ⟨fun q => q.imp id .inl, fun q => q.elim .inl (fun q => q.elim .inr (fun q => absurd q c))⟩
  · rw [h.o x y hx hy, stepTo_other hab hsd (by simpa using he)]
  · unfold upd
    split
    · have := hc.1; have := hc.2; omega
    · exact h.tb x y
theorem Ord.beyond {f : Fm} {s : Int} {a b sd : Nat} {T O : Nat → Nat → Int} (h : Ord f s a sd T O) (hab : (a : Int) + b = s) (hsd : sd < 2) (hg : 44 < gx a sd ∨ 44 < gy b sd) : Ord f s a ((sd : Int) + 1) T O := by
  refine h.congr fun e x y hx hy => stepTo_congr (fun p _ => ?_) (fun p _ => ?_)
  · unfold Done
    unfold gx gy at hg
    split at hg <;> omega
  · unfold Done
    unfold gx gy at hg
    split at hg <;> omega
theorem Ord.pair {f : Fm} {s : Int} {a : Nat} {T O : Nat → Nat → Int} (h : Ord f s a 2 T O) : Ord f s ((a : Int) + 1) 0 T O := by
  refine h.congr fun e x y hx hy => stepTo_congr (fun p _ => ?_) (fun p _ => ?_)
  · unfold Done; omega
  · unfold Done; omega
theorem Ord.none_ {f : Fm} {s : Int} {a b sd : Nat} {T O : Nat → Nat → Int} (h : Ord f s a sd T O) (hab : (a : Int) + b = s) (ha : a ≤ 44) (hb : b ≤ 44) (hp : ¬ 0 < T a b) : Ord f s ((a : Int) + 1) 0 T O := by
  have ho : ¬ Open f a b := fun c => hp ((h.now ha hb (by omega)).2 c)
  refine h.congr fun e x y hx hy => stepTo_congr (fun p q => ?_) (fun p q => ?_)
  · unfold Done
    by_cases c : (x : Int) - 1 = a ∧ (x : Int) - 1 + y = s
    · exfalso
      obtain ⟨c1, c2⟩ := c
      apply ho
      rw [show (a : Int) = (x : Int) - 1 by omega, show (b : Int) = (y : Int) by omega]
      exact q
    · omega
  · unfold Done
    by_cases c : (x : Int) = a ∧ (x : Int) + (y - 1) = s
    · exfalso
      obtain ⟨c1, c2⟩ := c
      apply ho
      rw [show (a : Int) = (x : Int) by omega, show (b : Int) = (y : Int) - 1 by omega]
      exact q
    · omega
theorem Ord.sum {f : Fm} {s a a' : Int} {T O : Nat → Nat → Int} (h : Ord f s a 0 T O) (ha : s < a ∨ 44 < a) (ha' : a' = 0 ∨ a' + 44 ≤ s + 1) : Ord f (s + 1) a' 0 T O := by
  refine h.congr fun e x y hx hy => stepTo_congr (fun p q => ?_) (fun p q => ?_)
  · have := q.nonneg
    unfold Done; omega
  · have := q.nonneg
    unfold Done; omega
theorem Ord.fin {f : Fm} {a : Int} {T O : Nat → Nat → Int} (h : Ord f 88 a 0 T O) {x y : Nat} (hx : x ≤ 43) (hy : y ≤ 43) : (0 < T x y ↔ Open f x y) ∧ (0 < O x y ↔ (1 ≤ (x : Int) ∧ Open f ((x : Int) - 1) y ∧ Ends f ((x : Int) - 1) y 0) ∨ (1 ≤ (y : Int) ∧ Open f x ((y : Int) - 1) ∧ Ends f x ((y : Int) - 1) 1)) := by
  refine ⟨h.now (by omega) (by omega) (by omega), ?_⟩
  rw [h.o x y (by omega) (by omega)]
  unfold StepTo Done
  simp only [iff_true]
  constructor
  · rintro (⟨p, _, r, t⟩ | ⟨p, _, r, t⟩)
    · exact .inl ⟨p, r, t⟩
    · exact .inr ⟨p, r, t⟩
  · rintro (⟨p, r, t⟩ | ⟨p, r, t⟩)
    · exact .inl ⟨p, .inl (by omega), r, t⟩
    · exact .inr ⟨p, .inl (by omega), r, t⟩
end M
end Go.Proofs.Ytmhaapghiecfcaa

namespace Go.Proofs.Ytmhaapghiecfcaa
open Go.RowKit
namespace M

theorem ends_open {f : Fm} (hv : Valid f) {x y : Int} (h : Open f x y) {sd : Int} (hs : sd = 0 ∨ sd = 1) : endsSet f ⟨x, y⟩ sd = true ↔ Ends f x y sd := by
  have hp := open_play hv h
  have ht : isTie f ⟨x, y⟩ = true ↔ x = f.tie ∧ y = f.tie := by unfold isTie; simp
  unfold Ends
  rcases hs with rfl | rfl
  · rw [ends_play (g := ⟨x, y⟩) (side := 0) (.inl rfl) hp, ht]
    show _ ∨ (f.games ≤ x + 1 ∧ y + 2 ≤ x + 1) ↔ _
    omega
  · rw [ends_play (g := ⟨x, y⟩) (side := 1) (.inr rfl) hp.swap, ht]
    show _ ∨ (f.games ≤ y + 1 ∧ x + 2 ≤ y + 1) ↔ _
    omega
def overP (f : Fm) (x y : Int) : Prop := (1 ≤ x ∧ Open f (x - 1) y ∧ Ends f (x - 1) y 0) ∨ (1 ≤ y ∧ Open f x (y - 1) ∧ Ends f x (y - 1) 1)
theorem over_set {f : Fm} (hv : Valid f) {g : Pr} (h0 : 0 ≤ g.A) (h1 : 0 ≤ g.B) : overP f g.A g.B ↔ setWinner f g ≠ -1 := by
  rw [over_iff hv h0 h1]
  unfold overP
  constructor
  · rintro (⟨p, q, r⟩ | ⟨p, q, r⟩)
    · exact ⟨0, .inl rfl, by show 0 ≤ g.A - 1; omega, q, (ends_open hv q (.inl rfl)).2 r⟩
    · exact ⟨1, .inr rfl, by show 0 ≤ g.B - 1; omega, q, (ends_open hv q (.inr rfl)).2 r⟩
  · rintro ⟨side, rfl | rfl, p, q, r⟩
    · have p' : 0 ≤ g.A - 1 := p
      exact .inl ⟨by omega, q, (ends_open hv q (.inl rfl)).1 r⟩
    · have p' : 0 ≤ g.B - 1 := p
      exact .inr ⟨by omega, q, (ends_open hv q (.inr rfl)).1 r⟩
theorem won_side {f : Fm} (hv : Valid f) {g won : Pr} (h0 : 0 ≤ g.A) (h1 : 0 ≤ g.B) (h : setWinner f g ≠ -1) : plus won (setWinner f g) = if g.B < g.A then ⟨won.A + 1, won.B⟩ else ⟨won.A, won.B + 1⟩ := by
  unfold setWinner at h ⊢
  by_cases e0 : endsBy f g 0 = true
  · rw [if_pos e0]
    obtain ⟨p, q, r⟩ := (endsBy_iff hv (.inl rfl) h0 h1).1 e0
    have q' : Open f (g.A - 1) g.B := q
    have r' := (ends_open hv q' (.inl rfl)).1 r
    unfold Ends at r'
    rw [if_pos (by omega)]
    rfl
  · rw [if_neg e0] at h ⊢
    by_cases e1 : endsBy f g 1 = true
    · rw [if_pos e1]
      obtain ⟨p, q, r⟩ := (endsBy_iff hv (.inr rfl) h0 h1).1 e1
      have q' : Open f g.A (g.B - 1) := q
      have r' := (ends_open hv q' (.inr rfl)).1 r
      unfold Ends at r'
      rw [if_neg (by omega)]
      rfl
    · rw [if_neg e1] at h
      exact absurd rfl h
theorem wonBy_go {f : Fm} (hv : Valid f) {ps : List Pr} {i : Nat} {g : Pr} (hg : ps[i]? = some g) (h0 : 0 ≤ g.A ∧ 0 ≤ g.B) (hw : winner f (wonR zero (ps.take i)) = -1) (ho : setWinner (ofSet f (wonR zero (ps.take i))) g ≠ -1) :
    wonBy f (wonR zero (ps.take i)) (ps.drop i) = wonBy f (wonR zero (ps.take (i + 1))) (ps.drop (i + 1)) := by
  obtain ⟨h1, h2⟩ := List.getElem?_eq_some_iff.1 hg
  rw [List.drop_eq_getElem_cons h1, h2, wonBy_step hw ho, won_side (hv.ofSet _) h0.1 h0.2 ho, List.take_add_one, hg]
  show _ = wonBy f (wonR zero (ps.take i ++ [g])) _
  rw [wonR_snoc]
theorem wonBy_stop {f : Fm} {ps : List Pr} {i : Nat} {g : Pr} (hg : ps[i]? = some g) (h : winner f (wonR zero (ps.take i)) ≠ -1 ∨ setWinner (ofSet f (wonR zero (ps.take i))) g = -1) : wonBy f (wonR zero (ps.take i)) (ps.drop i) = none := by
  obtain ⟨h1, h2⟩ := List.getElem?_eq_some_iff.1 hg
  rw [List.drop_eq_getElem_cons h1, h2]
  rcases h with h | h
  · exact wonBy_over h
  · exact wonBy_bad h
theorem winner_iff {f : Fm} {won : Pr} : winner f won ≠ -1 ↔ won.A = f.sets ∨ won.B = f.sets := by
  unfold winner
  constructor
  · intro h
    by_cases a : won.A = f.sets
    · exact .inl a
    · rw [if_neg a] at h
      by_cases b : won.B = f.sets
      · exact .inr b
      · rw [if_neg b] at h; exact absurd rfl h
  · rintro (a | b)
    · rw [if_pos a]; decide
    · by_cases a : won.A = f.sets
      · rw [if_pos a]; decide
      · rw [if_neg a, if_pos b]; decide
def areP (s : Fm) (tie : Bool) (p : Pr) : Bool := if tie = false ∧ s.noAd = true then decide (p.A < 4) && decide (p.B < 4) else decide (max p.A p.B < (if tie then s.to else 4)) || decide (max p.A p.B - min p.A p.B ≤ 1)
theorem areP_eq (s : Fm) (tie : Bool) (p : Pr) : areP s tie p = pointsArise s tie p := by
  have hhi : hi p = max p.A p.B := by unfold hi; split <;> omega
  unfold areP pointsArise aimTo aimLead near
  rw [hhi]
  have h12 : ((1 : Int) == 2) = false := by decide
  have h22 : ((2 : Int) == 2) = true := by decide
  cases tie <;> cases s.noAd <;> simp only [Bool.false_eq_true, if_false, if_true, and_false, and_true, and_self, false_and, true_and, Bool.true_eq_false, reduceCtorEq, h12, h22, Bool.true_and, Bool.false_and, Bool.or_false] <;> rw [Bool.eq_iff_iff] <;> simp only [Bool.and_eq_true, Bool.or_eq_true, decide_eq_true_eq] <;> omega
end M
end Go.Proofs.Ytmhaapghiecfcaa

namespace Go.Proofs.Ytmhaapghiecfcaa
open Go.RowKit
namespace M

theorem costF_stable {s : Fm} {far won lost : Int} : ∀ (n : Nat) (a b : Int), 88 ≤ n + a + b → costF s far won lost 44 (n + 1) a b = costF s far won lost 44 n a b
  | 0, a, b, h => by
    unfold costF
    rw [if_pos (by omega)]
  | n + 1, a, b, h => by
    have h1 := costF_stable (s := s) (far := far) (won := won) (lost := lost) n (a + 1) b (by push_cast at h; omega)
    have h2 := costF_stable (s := s) (far := far) (won := won) (lost := lost) n a (b + 1) (by push_cast at h; omega)
    conv => lhs; unfold costF
    conv => rhs; unfold costF
    rw [h1, h2]
def cost (s : Fm) (won lost : Int) (x y : Nat) : Int := costF s 1000000 won lost 44 88 x y
theorem cost_edge {s : Fm} {won lost : Int} {x y : Nat} (h : 44 ≤ x ∨ 44 ≤ y) : cost s won lost x y = 1000000 := by
  unfold cost costF
  rw [if_pos (by omega)]
theorem cost_step {s : Fm} {won lost : Int} {x y : Nat} (hx : x < 44) (hy : y < 44) : cost s won lost x y = min 1000000 ((if (x : Int) = s.tie ∧ (y : Int) = s.tie then max s.to 2 else 4) +
      min (if ((x : Int) = s.tie ∧ (y : Int) = s.tie) ∨ (s.games ≤ (x : Int) + 1 ∧ (y : Int) + 2 ≤ (x : Int) + 1) then won else cost s won lost (x + 1) y)
        (if ((x : Int) = s.tie ∧ (y : Int) = s.tie) ∨ (s.games ≤ (y : Int) + 1 ∧ (x : Int) + 2 ≤ (y : Int) + 1) then lost else cost s won lost x (y + 1))) := by
  have h1 := costF_stable (s := s) (far := 1000000) (won := won) (lost := lost) 87 ((x : Int) + 1) y (by omega)
  have h2 := costF_stable (s := s) (far := 1000000) (won := won) (lost := lost) 87 x ((y : Int) + 1) (by omega)
  unfold cost
  push_cast
  rw [h1, h2]
  conv => lhs; unfold costF
  rw [if_neg (by omega)]
def costAt (s : Fm) (won lost : Int) (sm a : Int) (x y : Nat) : Int := if sm < (x : Int) + y ∨ ((x : Int) + y = sm ∧ (x : Int) < a) then cost s won lost x y else 1000000
theorem costAt_now {s : Fm} {won lost sm a : Int} {x y : Nat} (h : sm < (x : Int) + y) : costAt s won lost sm a x y = cost s won lost x y := by
  unfold costAt
  rw [if_pos (.inl h)]
theorem costAt_set {s : Fm} {won lost sm : Int} {a b : Nat} (hab : (a : Int) + b = sm) (x y : Nat) : upd (costAt s won lost sm a) a b (cost s won lost a b) x y = costAt s won lost sm ((a : Int) + 1) x y := by
  unfold upd costAt
  split
  · rename_i c
    obtain ⟨rfl, rfl⟩ := c
    rw [if_pos (by omega)]
  · rename_i c
    by_cases h : sm < (x : Int) + y ∨ ((x : Int) + y = sm ∧ (x : Int) < a)
    · rw [if_pos h, if_pos (by omega)]
    · rw [if_neg h, if_neg (by omega)]
theorem costAt_next {s : Fm} {won lost sm a a' : Int} (h : sm < a ∨ 43 < a) (h' : a' = 0 ∨ a' + 44 ≤ sm) (x y : Nat) (hx : x ≤ 44) (hy : y ≤ 44) : costAt s won lost sm a x y = costAt s won lost (sm - 1) a' x y := by
  unfold costAt
  by_cases c : 44 ≤ x ∨ 44 ≤ y
  · have := cost_edge (s := s) (won := won) (lost := lost) c
    rw [this]
    split <;> split <;> rfl
  · by_cases h1 : sm < (x : Int) + y ∨ ((x : Int) + y = sm ∧ (x : Int) < a)
    · rw [if_pos h1, if_pos (by omega)]
    · rw [if_neg h1, if_neg (by omega)]
theorem cost_bd (s : Fm) (won lost : Int) (x y : Nat) : cost s won lost x y ≤ 1000000 := costF_far ..
theorem cost_low {s : Fm} (hto : 0 ≤ s.to) {won lost : Int} (h1 : 0 ≤ won) (h2 : 0 ≤ lost) : ∀ (n : Nat) (a b : Int), 0 ≤ costF s 1000000 won lost 44 n a b
  | 0, a, b => by unfold costF; omega
  | n + 1, a, b => by
    have i1 := cost_low hto h1 h2 n (a + 1) b
    have i2 := cost_low hto h1 h2 n a (b + 1)
    unfold costF
    split
    · omega
    · have e1 : 0 ≤ (if (a = s.tie ∧ b = s.tie) ∨ (s.games ≤ a + 1 ∧ b + 2 ≤ a + 1) then won else costF s 1000000 won lost 44 n (a + 1) b) := by split <;> assumption
      have e2 : 0 ≤ (if (a = s.tie ∧ b = s.tie) ∨ (s.games ≤ b + 1 ∧ a + 2 ≤ b + 1) then lost else costF s 1000000 won lost 44 n a (b + 1)) := by split <;> assumption
      have e3 : 0 ≤ (if a = s.tie ∧ b = s.tie then max s.to 2 else 4) := by split <;> omega
      omega
end M
end Go.Proofs.Ytmhaapghiecfcaa

namespace Go.Proofs.Ytmhaapghiecfcaa
open Go.RowKit
attribute [local go_sem ↓] Go.wp_at_zero Go.wp_at_succ

end Go.Proofs.Ytmhaapghiecfcaa

namespace Go.Proofs.Ytmhaapghiecfcaa
open Go.RowKit

end Go.Proofs.Ytmhaapghiecfcaa

namespace Go.Proofs.Ytmhaapghiecfcaa
open Go.ChangeShapes Go.WideShapes Go.ChangeAt Go.RowKit Go.Deep Go.Joins

section
variable {H : Type} {enc : TypeId × Value → H} {w : World} {base : Nat} {held : Bool}
end

end Go.Proofs.Ytmhaapghiecfcaa

namespace Go.Proofs.Ytmhaapghiecfcaa
open Go.RowKit

theorem RdI.none {w : World} {B : Nat} {xs : List Int} (h : RdI w B none xs) : xs = [] := by
  match xs, h with
  | [], _ => rfl
  | x :: r, h => obtain ⟨_, _, e, _⟩ := h 0 x rfl; cases e

def RdG (w : World) (B : Nat) (A : Option Addr) (gs : List M.Gm) : Prop :=
  ∀ (k : Nat) (g : M.Gm), gs[k]? = some g → ∃ b o : Nat, A = some ⟨b, o, none⟩ ∧ b < B ∧ w.cell? ⟨b, o + k * 7, none⟩ = some (.int .i64 g.set) ∧ w.cell? ⟨b, o + k * 7 + 1, none⟩ = some (.bool g.tie) ∧ w.cell? ⟨b, o + k * 7 + 2, none⟩ = some (.int .i64 g.server) ∧ w.cell? ⟨b, o + k * 7 + 3, none⟩ = some (.int .i64 g.winner) ∧ w.cell? ⟨b, o + k * 7 + 4, none⟩ = some (.int .i64 g.pts.A) ∧ w.cell? ⟨b, o + k * 7 + 5, none⟩ = some (.int .i64 g.pts.B) ∧ w.cell? ⟨b, o + k * 7 + 6, none⟩ = some (.bool g.fresh)
theorem RdG.below {w w' : World} {B : Nat} {A : Option Addr} {gs : List M.Gm} (h : RdG w B A gs) (hb : Below B w w') : RdG w' B A gs := fun k g hk => by
  obtain ⟨b, o, e, hB, c0, c1, c2, c3, c4, c5, c6⟩ := h k g hk
  exact ⟨b, o, e, hB, (hb.cell (p := ⟨b, _, none⟩) hB).trans c0, (hb.cell (p := ⟨b, _, none⟩) hB).trans c1, (hb.cell (p := ⟨b, _, none⟩) hB).trans c2, (hb.cell (p := ⟨b, _, none⟩) hB).trans c3, (hb.cell (p := ⟨b, _, none⟩) hB).trans c4, (hb.cell (p := ⟨b, _, none⟩) hB).trans c5, (hb.cell (p := ⟨b, _, none⟩) hB).trans c6⟩
theorem RdG.mono {w : World} {B B' : Nat} {A : Option Addr} {gs : List M.Gm} (h : RdG w B A gs) (hB : B ≤ B') : RdG w B' A gs := fun k p hk => by
  obtain ⟨b, o, e, hb, c⟩ := h k p hk
  exact ⟨b, o, e, by omega, c⟩
theorem blk_lt {w : World} {b : Nat} {o : Obj} (h : w.heap[b]? = some o) : b < w.heap.size := (Array.getElem?_eq_some_iff.1 h).1
namespace M
end M

end Go.Proofs.Ytmhaapghiecfcaa

namespace Go.Proofs.Ytmhaapghiecfcaa
open Go.RowKit

theorem blk_cell {W : World} {g : Nat} {cells : Array Value} {t : TypeId} (h : W.heap[g]? = some (.cells cells t (0, 0))) (i : Nat) : W.cell? ⟨g, i, none⟩ = cells[i]? := by simp [World.cell?, h]
theorem blk_frozen {W : World} {g : Nat} {cells : Array Value} {t : TypeId} (h : W.heap[g]? = some (.cells cells t (0, 0))) (i : Nat) : W.frozen? ⟨g, i, none⟩ = false := by simp [World.frozen?, h]
theorem blk_setC {W : World} {g : Nat} {cells : Array Value} {t : TypeId} (h : W.heap[g]? = some (.cells cells t (0, 0))) (i : Nat) (v : Value) : (W.setCell ⟨g, i, none⟩ v).heap[g]? = some (.cells (cells.setIfInBounds i v) t (0, 0)) := by
  obtain ⟨hlt, hk⟩ := Array.getElem?_eq_some_iff.1 h
  show (W.heap.modify g _)[g]? = _
  rw [Array.getElem?_eq_getElem (by rw [Array.size_modify]; exact hlt), Array.getElem_modify_self, hk]
  rfl
theorem gr_trans {a b c : World} {row : Option Nat} (h : a.grownBy b row) (k : b.grownBy c row) : a.grownBy c row := h.andThen k (fun _ hj => .inr hj)
theorem gr_set (w : World) (g i : Nat) (v : Value) : w.grownBy (w.setCell ⟨g, i, none⟩ v) (some g) :=
  ⟨rfl, rfl, rfl, by simp [World.setCell], fun k _ hk => Below.heap_setCell w ⟨g, i, none⟩ v k (fun e => hk (by rw [e]))⟩

def rowC (F : Nat → Int) : Array Value := ((List.range 45).map (fun j => Value.int .i64 (F j))).toArray
theorem rowC_get (F : Nat → Int) {j : Nat} (h : j < 45) : (rowC F)[j]? = some (.int .i64 (F j)) := by
  unfold rowC
  simp [h]
theorem rowC_congr {F G : Nat → Int} (h : ∀ j, j < 45 → F j = G j) : rowC F = rowC G := by
  unfold rowC
  congr 1
  refine List.map_congr_left fun j hj => ?_
  rw [h j (List.mem_range.1 hj)]
theorem rowC_set (F : Nat → Int) (y : Nat) (v : Int) : (rowC F).setIfInBounds y (.int .i64 v) = rowC (fun j => if j = y then v else F j) := by
  refine Array.ext_getElem? fun i => ?_
  rw [Array.getElem?_setIfInBounds]
  by_cases hi : i < 45
  · rw [rowC_get _ hi]
    split
    · rename_i h
      subst h
      have : y < (rowC F).size := by unfold rowC; simpa using hi
      rw [if_pos this, rowC_get _ hi, if_pos rfl]
    · rename_i h
      rw [rowC_get _ hi, if_neg (fun c => h c.symm)]
  · have h1 : ∀ G : Nat → Int, (rowC G)[i]? = none := fun G => Array.getElem?_eq_none (by unfold rowC; simp; omega)
    rw [h1, h1]
    split
    · rename_i h
      subst h
      rw [if_neg (by unfold rowC; simp; omega)]
    · rfl
def rowV (b : Nat) : Value := .slice (some ⟨b, 0, none⟩) 45 45
structure NRows (w : World) (base : Nat) (blk : Nat → Nat) (n : Nat) (T : Nat → Nat → Int) : Prop where
  row : ∀ i, i < n → w.heap[blk i]? = some (.cells (rowC (T i)) 3 (0, 0))
  rlo : ∀ i, i < n → base ≤ blk i
  inj : ∀ i j, i < n → j < n → blk i = blk j → i = j
theorem NRows.zero (w : World) (base : Nat) (blk : Nat → Nat) (T : Nat → Nat → Int) : NRows w base blk 0 T := ⟨fun i h => by omega, fun i h => by omega, fun i j h => by omega⟩
theorem NRows.at_ {w : World} {base n : Nat} {blk : Nat → Nat} {T : Nat → Nat → Int} (h : NRows w base blk n T) {i j : Nat} (hi : i < n) (hj : j < 45) : w.cell? ⟨blk i, j, none⟩ = some (.int .i64 (T i j)) := by
  rw [blk_cell (h.row i hi), rowC_get _ hj]
theorem NRows.bl {w : World} {base n : Nat} {blk : Nat → Nat} {T : Nat → Nat → Int} (h : NRows w base blk n T) {i : Nat} (hi : i < n) : blk i < w.heap.size := blk_lt (h.row i hi)
theorem NRows.kept {w w' : World} {base n : Nat} {blk : Nat → Nat} {T : Nat → Nat → Int} (h : NRows w base blk n T) (hb : ∀ i, i < n → w'.heap[blk i]? = w.heap[blk i]?) : NRows w' base blk n T :=
  ⟨fun i hi => (hb i hi).trans (h.row i hi), h.rlo, h.inj⟩
theorem NRows.below {w w' : World} {base n : Nat} {blk : Nat → Nat} {T : Nat → Nat → Int} (h : NRows w base blk n T) (hb : Below w.heap.size w w') : NRows w' base blk n T := h.kept (fun i hi => hb.block _ (h.bl hi))
theorem NRows.grown {w w' : World} {base n : Nat} {blk : Nat → Nat} {T : Nat → Nat → Int} (h : NRows w base blk n T) {o : Option Nat} (hg : w.grownBy w' o) (ho : ∀ i, i < n → some (blk i) ≠ o) : NRows w' base blk n T := h.kept (fun i hi => hg.block _ (h.bl hi) (ho i hi))
theorem NRows.congr {w : World} {base n : Nat} {blk : Nat → Nat} {T U : Nat → Nat → Int} (h : NRows w base blk n T) (hc : ∀ i j, i < n → j < 45 → T i j = U i j) : NRows w base blk n U :=
  ⟨fun i hi => by rw [← rowC_congr (hc i · hi)]; exact h.row i hi, h.rlo, h.inj⟩
def consN {α : Type} (f : Nat → α) (n : Nat) (q : α) : Nat → α := fun i => if i = n then q else f i
theorem NRows.push {w : World} {base n q : Nat} {blk : Nat → Nat} {T : Nat → Nat → Int} {F : Nat → Int} (h : NRows w base blk n T) (hq : w.heap[q]? = some (.cells (rowC F) 3 (0, 0))) (hb : base ≤ q) (hne : ∀ i, i < n → blk i ≠ q) : NRows w base (consN blk n q) (n + 1) (consN T n F) := by
  refine ⟨fun i hi => ?_, fun i hi => ?_, fun i j hi hj e => ?_⟩
  · unfold consN
    split
    · exact hq
    · exact h.row i (by omega)
  · unfold consN
    split
    · exact hb
    · exact h.rlo i (by omega)
  · unfold consN at e
    split at e <;> split at e
    · omega
    · rename_i h1 h2
      exact absurd e.symm (hne j (by omega))
    · rename_i h1 h2
      exact absurd e (hne i (by omega))
    · exact h.inj i j (by omega) (by omega) e
theorem NRows.set {w : World} {base n : Nat} {blk : Nat → Nat} {T : Nat → Nat → Int} (h : NRows w base blk n T) {x : Nat} (hx : x < n) (y : Nat) (v : Int) : NRows (w.setCell ⟨blk x, y, none⟩ (.int .i64 v)) base blk n (M.upd T x y v) := by
  refine ⟨fun i hi => ?_, h.rlo, h.inj⟩
  by_cases c : i = x
  · subst c
    have := blk_setC (h.row i hi) y (.int .i64 v)
    rw [rowC_set] at this
    refine this.trans ?_
    congr 2
    refine rowC_congr fun j hj => ?_
    unfold M.upd
    simp
  · refine (Below.heap_setCell w ⟨blk x, y, none⟩ _ (blk i) (fun e => c (h.inj i x hi hx e))).trans ((h.row i hi).trans ?_)
    congr 2
    refine rowC_congr fun j hj => ?_
    unfold M.upd
    rw [if_neg (fun e => c e.1)]
structure Tab (w : World) (base g : Nat) (blk : Nat → Nat) (n : Nat) (T : Nat → Nat → Int) : Prop where
  lo : base ≤ g
  gl : g < w.heap.size
  cell : ∀ i, i < n → w.cell? ⟨g, i, none⟩ = some (rowV (blk i))
  rows : NRows w base blk n T
  ne : ∀ i, i < n → blk i ≠ g
theorem Tab.kept {w w' : World} {base g n : Nat} {blk : Nat → Nat} {T : Nat → Nat → Int} (h : Tab w base g blk n T) (hs : w.heap.size ≤ w'.heap.size) (hg : w'.heap[g]? = w.heap[g]?) (hb : ∀ i, i < n → w'.heap[blk i]? = w.heap[blk i]?) : Tab w' base g blk n T :=
  ⟨h.lo, Nat.lt_of_lt_of_le h.gl hs, fun i hi => by
    have := h.cell i hi
    unfold World.cell? at this ⊢
    rw [hg]
    exact this, h.rows.kept hb, h.ne⟩
theorem Tab.below {w w' : World} {base g n : Nat} {blk : Nat → Nat} {T : Nat → Nat → Int} (h : Tab w base g blk n T) (hb : Below w.heap.size w w') : Tab w' base g blk n T :=
  h.kept hb.size (hb.block _ h.gl) (fun i hi => hb.block _ (h.rows.bl hi))
theorem Tab.congr {w : World} {base g n : Nat} {blk : Nat → Nat} {T U : Nat → Nat → Int} (h : Tab w base g blk n T) (hc : ∀ i j, i < n → j < 45 → T i j = U i j) : Tab w base g blk n U := ⟨h.lo, h.gl, h.cell, h.rows.congr hc, h.ne⟩
theorem Tab.set {w : World} {base g n : Nat} {blk : Nat → Nat} {T : Nat → Nat → Int} (h : Tab w base g blk n T) {x : Nat} (hx : x < n) (y : Nat) (v : Int) : Tab (w.setCell ⟨blk x, y, none⟩ (.int .i64 v)) base g blk n (M.upd T x y v) :=
  ⟨h.lo, by have := h.gl; simpa [World.setCell] using this, fun i hi => by
    have := h.cell i hi
    unfold World.cell? at this ⊢
    rw [Below.heap_setCell w ⟨blk x, y, none⟩ _ g (fun e => h.ne x hx e.symm)]
    exact this, h.rows.set hx y v, h.ne⟩
theorem Tab.other {w : World} {base g n : Nat} {blk : Nat → Nat} {T : Nat → Nat → Int} (h : Tab w base g blk n T) {b : Nat} (hg : b ≠ g) (hb : ∀ i, i < n → b ≠ blk i) (y : Nat) (v : Value) : Tab (w.setCell ⟨b, y, none⟩ v) base g blk n T :=
  h.kept (Nat.le_of_eq (by simp [World.setCell])) (Below.heap_setCell w ⟨b, y, none⟩ v g (fun e => hg e.symm)) (fun i hi => Below.heap_setCell w ⟨b, y, none⟩ v (blk i) (fun e => hb i hi e.symm))

theorem own_ne {w : World} {base b : Nat} {e : TypeId} {n size : Nat} {xs : List Value} {v : Value} {cs : Array Value} {t : TypeId} (h : w.ownsRow base e size v n xs) (hb : w.heap[b]? = some (.cells cs t (0, 0))) (ht : e ≠ t) : v.ownBlock ≠ some b := by
  rcases h.2 with ⟨rfl, _⟩ | ⟨g, cap, cur, rfl, _, hh, _⟩
  · simp [Value.ownBlock]
  · intro he
    have hgb : g = b := by simpa [Value.ownBlock] using he
    subst hgb
    rw [hb] at hh
    simp only [Option.some.injEq, Obj.cells.injEq] at hh
    exact ht hh.2.1.symm
theorem own_fresh {w : World} {base : Nat} {e : TypeId} {n size : Nat} {xs : List Value} {v : Value} (h : w.ownsRow base e size v n xs) : v.ownBlock ≠ some w.heap.size := fun e' => by
  have := (h.lt _ e').2
  omega
def Apart (a b : Value) : Prop := ∀ g, a.ownBlock = some g → b.ownBlock ≠ some g
theorem Apart.symm {a b : Value} (h : Apart a b) : Apart b a := fun g e c => h g c e
theorem Apart.row {a b : Value} (h : Apart a b) : b.ownBlock = none ∨ b.ownBlock ≠ a.ownBlock := by
  rcases hb : b.ownBlock with _ | g
  · exact .inl rfl
  · exact .inr (fun e => h g e.symm hb)
theorem Apart.app {w : World} {base : Nat} {e : TypeId} {n size : Nat} {xs : List Value} {a a' b : Value} (h : Apart a b) (hb : w.ownsRow base e size b n xs) (hl : ∀ g, a'.ownBlock = some g → a.ownBlock = some g ∨ w.heap.size ≤ g) : Apart a' b := fun g hg hc => by
  rcases hl g hg with h1 | h1
  · exact h g h1 hc
  · have := (hb.lt g hc).2
    omega
theorem capN {K : Act → World → Prop} {a : Act} {u : World} {O : Obj} (h : ∀ (W : World) (q : Nat), u.heap.size = q → W.heap[q]? = some O → (∀ (B : Nat) (w0 : World), Below B w0 u → B ≤ u.heap.size → Below B w0 W) → u.grownBy W none → K a W) : K a (u.alloc O) :=
  h _ _ rfl (heap_alloc_new u O) (fun _ _ hb hB => zbA hb hB O) (World.grownBy_alloc _ _ none)
theorem capND {K : Act → World → Prop} {a : Act} {u : World} {O : Obj} (h : ∀ (W : World) (q : Nat), u.heap.size = q → W.heap[q]? = some O → (∀ (B : Nat) (w0 : World), Below B w0 u → B ≤ u.heap.size → Below B w0 W) → u.grownBy W none → K a W) : K a (u.alloc O).drew :=
  h _ _ rfl (heap_alloc_new u O) (fun _ _ hb hB => zbD (zbA hb hB O)) (gr_trans (World.grownBy_alloc u O none) ⟨rfl, rfl, rfl, Nat.le_refl _, fun _ _ _ => rfl⟩)
theorem own_tab {w : World} {base n c : Nat} {A : Option Addr} {blk : Nat → Nat} {T : Nat → Nat → Int} (h : w.ownsRow base 24 1 (.slice A n c) n ((List.range n).map fun i => rowV (blk i))) (hn : 0 < n) (hr : NRows w base blk n T) : ∃ g, A = some ⟨g, 0, none⟩ ∧ Tab w base g blk n T := by
  obtain ⟨g, cap, e, hbg, hh⟩ := h.form hn
  simp only [Value.slice.injEq] at e
  obtain ⟨rfl, _, rfl⟩ := e
  refine ⟨g, rfl, hbg, (h.lt g rfl).2, fun i hi => ?_, hr, fun i hi e => ?_⟩
  · have := h.cellAt i (by omega)
    rw [this]
    simp [hi]
  · exact own_ne h (hr.row i hi) (by decide) (by rw [← e]; rfl)
theorem row_info : (Try.prog.info? 24).map (fun i => (i.zero, i.size, i.bytes)) = some (some (.slice none 0 0), 1, 24) := by kernel_rfl
theorem run_app_row {w : World} (ty : TypeId) (base : Nat) (v : Value) (xs : List Value) (m0 : Nat) (hown : w.ownsRow base 24 1 v m0 xs) (q b : Nat) (hq : w.heap[q]? = some (.cells #[rowV b] 24 (0, 0))) (h0 : m0 ≤ 1000) (hbase : base ≤ w.heap.size) :
    ∃ A' c' w', (Builtin.append_ #[90, 90] ty #[v, .slice (some ⟨q, 0, none⟩) 1 1]).run Try.prog w = .ok (.slice A' (m0 + 1) c') w' ∧ w'.ownsRow base 24 1 (.slice A' (m0 + 1) c') (m0 + 1) (xs ++ [rowV b]) ∧ w.grownBy w' v.ownBlock ∧ (∀ g, (Value.slice A' (m0 + 1) c').ownBlock = some g → v.ownBlock = some g ∨ w.heap.size ≤ g) := by
  obtain ⟨i, hi, hz0, hz1, hz2⟩ := info_parts row_info
  obtain ⟨v', w', hrun, h2, h3, _, h5⟩ := run_append_own_at (P := Try.prog) w base 90 ty 24 i _ 1 24 Try.underlying90 hi hz0 hz1 hz2 (by rfl) (by decide) v m0 xs hown ⟨q, 0, none⟩ 1 1 [rowV b] rfl (by
    intro j u hj
    have hj1 : j = 0 := by have := (List.getElem?_eq_some_iff.1 hj).1; simp at this; omega
    subst hj1
    rw [add_plain, Nat.zero_add, blk_cell hq]
    simpa using hj) (fun u hu => by rw [List.mem_singleton.1 hu]; rfl) (by unfold maxLen; omega) (by omega) hbase
  obtain ⟨A', c', rfl⟩ := own_form h2
  refine ⟨A', c', w', hrun, h2, h3, fun g hg => ?_⟩
  rcases h5 with e | e
  · exact .inl (e ▸ hg)
  · rw [hg] at e
    exact .inr (by have := Option.some.inj e; omega)
theorem step_app_row {w : World} {ops : Array Oper} {o : Oper} {a : Act} {K : Act → World → Prop} {Q : Exit → Act → World → Prop} {E' : Prop} (hgd : o.guard = none) (s x : Operand)
    (ho : o.op = .call { callee := .builtin .append, args := #[s, x], argTypes := #[90, 90] }) (base : Nat) (v : Value) (xs : List Value) (m0 : Nat) (hs : a.eval s = v) (hown : w.ownsRow base 24 1 v m0 xs)
    (q b : Nat) (hx : a.eval x = .slice (some ⟨q, 0, none⟩) 1 1) (hq : w.heap[q]? = some (.cells #[rowV b] 24 (0, 0))) (h0 : m0 ≤ 1000) (hbase : base ≤ w.heap.size)
    (h : ∀ A' c' w', w'.ownsRow base 24 1 (.slice A' (m0 + 1) c') (m0 + 1) (xs ++ [rowV b]) → w.grownBy w' v.ownBlock → (∀ g, (Value.slice A' (m0 + 1) c').ownBlock = some g → v.ownBlock = some g ∨ w.heap.size ≤ g) → K (a.put o.dst (.slice A' (m0 + 1) c')) w') :
    if Region.wanted o (yielded ops a.tmps) = true then Oper.wp Try.prog o a w K Q else E' := by
  have hw : Region.wanted o (yielded ops a.tmps) = true := by simp [Region.wanted, hgd]
  rw [if_pos hw]
  obtain ⟨A', c', w', hr', h2, h3, h4⟩ := run_app_row o.type base v xs m0 hown q b hq h0 hbase
  unfold Oper.wp execOp
  simp only [ho, resolve, invoke, builtin, Sem.run_bind, Sem.run_pure, Result.andThen_ok, List.map_toArray, List.map_cons, List.map_nil, hs, hx, hr']
  exact h A' c' w' h2 h3 h4
end Go.Proofs.Ytmhaapghiecfcaa
