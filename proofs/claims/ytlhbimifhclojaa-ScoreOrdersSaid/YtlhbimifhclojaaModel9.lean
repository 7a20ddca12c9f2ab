/-
  The plain functions, more: orders of sets, Ways, and what ScoreOrders says of them.
-/
import Derived.Test.YtlhbimifhclojaaModel
namespace Go.Proofs.Ytlhbimifhclojaa
open Go.RowKit
namespace M

def nat (a b : Nat) : Pr := ⟨a, b⟩
def good (s : Fm) (e : Pr) (a b : Nat) : Bool := (decide ((a : Int) = e.A) && decide ((b : Int) = e.B)) || (decide (0 < a + b) && gamesArise s (nat a b))
def cell (s : Fm) (e : Pr) (a b l d : Nat) : Nat := if good s e a b then l + d else if a = 0 ∧ b = 0 then 1 else 0
def row (s : Fm) (e : Pr) (a : Nat) (up : Nat → Nat) : Nat → Nat
  | 0 => cell s e a 0 (up 0) 0
  | b + 1 => cell s e a (b + 1) (up (b + 1)) (row s e a up b)
def wy (s : Fm) (e : Pr) : Nat → Nat → Nat
  | 0 => row s e 0 (fun _ => 0)
  | a + 1 => row s e (a + 1) (wy s e a)
def left (s : Fm) (e : Pr) (a b : Nat) : Nat := match a with
  | 0 => 0
  | a + 1 => wy s e a b
def down (s : Fm) (e : Pr) (a b : Nat) : Nat := match b with
  | 0 => 0
  | b + 1 => wy s e a b
theorem wy_eq (s : Fm) (e : Pr) (a b : Nat) : wy s e a b = cell s e a b (left s e a b) (down s e a b) := by
  cases a <;> cases b <;> rfl

/-- what the map holds when all pairs before (a, b) have been looked at -/
def seen (e : Pr) (a b : Nat) (p : Pr) : Bool := decide (0 ≤ p.A ∧ p.A ≤ e.A ∧ 0 ≤ p.B ∧ p.B ≤ e.B ∧ (p.A < a ∨ (p.A = a ∧ p.B < b)))
def hold (s : Fm) (e : Pr) (a b : Nat) (p : Pr) : Int := if seen e a b p then (wy s e p.A.toNat p.B.toNat : Int) else if p = zero then 1 else 0

theorem nat_A (a b : Nat) : (nat a b).A.toNat = a := Int.toNat_natCast a
theorem nat_B (a b : Nat) : (nat a b).B.toNat = b := Int.toNat_natCast b
theorem hold_left {s : Fm} {e : Pr} {a b : Nat} (hb : (b : Int) ≤ e.B) (ha : (a : Int) ≤ e.A) : hold s e a b (minus (nat a b) 0) = left s e a b := by
  unfold hold minus nat
  simp only [if_true]
  cases a with
  | zero =>
    rw [if_neg (by simp [seen]), if_neg (by intro h; simp [zero] at h)]; rfl
  | succ a =>
    rw [if_pos (by simp only [seen, decide_eq_true_eq]; omega)]
    have h1 : ((a + 1 : Nat) : Int) - 1 = (a : Int) := by omega
    simp only [h1, Int.toNat_natCast]; rfl
theorem hold_down {s : Fm} {e : Pr} {a b : Nat} (hb : (b : Int) ≤ e.B) (ha : (a : Int) ≤ e.A) : hold s e a b (minus (nat a b) 1) = down s e a b := by
  unfold hold minus nat
  rw [if_neg (by decide : ¬ (1 : Int) = 0)]
  cases b with
  | zero =>
    rw [if_neg (by simp [seen]), if_neg (by intro h; simp [zero] at h)]; rfl
  | succ b =>
    rw [if_pos (by simp [seen]; omega)]
    have h1 : ((b + 1 : Nat) : Int) - 1 = (b : Int) := by omega
    simp only [h1, Int.toNat_natCast]; rfl
theorem seen_succ {e : Pr} {a b : Nat} (hb : (b : Int) ≤ e.B) (ha : (a : Int) ≤ e.A) (p : Pr) : seen e a (b + 1) p = (seen e a b p || decide (p = nat a b)) := by
  rw [Bool.eq_iff_iff]
  simp only [seen, Bool.or_eq_true, decide_eq_true_eq]
  constructor
  · rintro ⟨h1, h2, h3, h4, h5⟩
    by_cases h : p.A < a ∨ (p.A = a ∧ p.B < b)
    · exact .inl ⟨h1, h2, h3, h4, h⟩
    · right
      obtain ⟨x, y⟩ := p
      simp only [nat, Pr.mk.injEq]
      simp only at h h5
      omega
  · rintro (⟨h1, h2, h3, h4, h5⟩ | h)
    · exact ⟨h1, h2, h3, h4, by omega⟩
    · subst h; dsimp only [nat]; omega
theorem hold_same {s : Fm} {e : Pr} {a b : Nat} (hb : (b : Int) ≤ e.B) (ha : (a : Int) ≤ e.A) (h : good s e a b = false) (p : Pr) : hold s e a (b + 1) p = hold s e a b p := by
  unfold hold
  rw [seen_succ hb ha]
  by_cases hs : seen e a b p = true
  · rw [hs]; rfl
  · have hs' : seen e a b p = false := by simpa using hs
    rw [hs', Bool.false_or]
    by_cases hp : p = nat a b
    · subst hp
      simp only [decide_true, if_true, Bool.false_eq_true, if_false, nat_A, nat_B]
      rw [wy_eq]; unfold cell
      rw [if_neg (by simp [h])]
      by_cases h0 : a = 0 ∧ b = 0
      · rw [if_pos h0, if_pos (show nat a b = zero by rw [h0.1, h0.2]; rfl)]; rfl
      · rw [if_neg h0, if_neg (show ¬ nat a b = zero by simp only [nat, zero, Pr.mk.injEq]; omega)]; rfl
    · simp [hp]
theorem hold_next {s : Fm} {e : Pr} {a b : Nat} (hb : (b : Int) ≤ e.B) (ha : (a : Int) ≤ e.A) (h : good s e a b = true) (p : Pr) :
    hold s e a (b + 1) p = if p = nat a b then ((left s e a b : Int) + down s e a b) else hold s e a b p := by
  unfold hold
  rw [seen_succ hb ha]
  by_cases hp : p = nat a b
  · subst hp
    simp only [decide_true, Bool.or_true, if_true, nat_A, nat_B]
    rw [wy_eq]; unfold cell
    rw [if_pos h]; omega
  · simp [hp]
theorem hold_row {s : Fm} {e : Pr} {a b : Nat} (hb : (b : Int) = e.B + 1) (p : Pr) : hold s e a b p = hold s e (a + 1) 0 p := by
  have : seen e a b p = seen e (a + 1) 0 p := by
    rw [Bool.eq_iff_iff]
    simp only [seen, decide_eq_true_eq]
    constructor <;> (rintro ⟨h1, h2, h3, h4, h5⟩; exact ⟨h1, h2, h3, h4, by omega⟩)
  unfold hold; rw [this]
theorem hold_start (s : Fm) (e : Pr) (p : Pr) : hold s e 0 0 p = if p = zero then 1 else 0 := by
  unfold hold
  rw [if_neg (by simp only [seen, decide_eq_true_eq]; omega)]
def orders (s : Fm) (e : Pr) : Nat := wy s e e.A.toNat e.B.toNat
theorem hold_end {s : Fm} {e : Pr} {a : Nat} (h : 0 ≤ e.A ∧ 0 ≤ e.B) (ha : (a : Int) = e.A + 1) : hold s e a 0 e = orders s e := by
  unfold hold orders
  rw [if_pos (by simp only [seen, decide_eq_true_eq]; omega)]

theorem gamesArise_far {s : Fm} (hv : Valid s) {a b : Nat} (h : gamesArise s (nat a b) = true) : (a ≤ 8 ∧ b ≤ 8) ∨ (a ≤ b + 1 ∧ b ≤ a + 1) := by
  have hg := hv.g1
  unfold gamesArise at h
  rw [Bool.and_eq_true, Bool.or_eq_true] at h
  obtain ⟨_, h | h⟩ := h
  · left
    have h' := of_decide_eq_true h
    unfold hi nat at h'
    dsimp only at h'
    split at h' <;> omega
  · right
    unfold near at h
    rw [Bool.and_eq_true] at h
    have h1 := of_decide_eq_true h.1
    have h2 := of_decide_eq_true h.2
    dsimp only [nat] at h1 h2
    omega
def pot (a b : Nat) : Nat := if a ≤ 8 ∧ b ≤ 8 then a + b else 16 + min a b
theorem wy_bd {s : Fm} (hv : Valid s) (e : Pr) : ∀ n a b : Nat, a + b = n → (a : Int) ≤ e.A → (b : Int) ≤ e.B → ¬ ((a : Int) = e.A ∧ (b : Int) = e.B) → wy s e a b ≤ 2 ^ pot a b := by
  intro n
  induction n using Nat.strongRecOn with
  | _ n ih =>
    intro a b hn ha hb hne
    rw [wy_eq]; unfold cell
    split
    · rename_i hgood
      have hga : gamesArise s (nat a b) = true ∧ 0 < a + b := by
        unfold good at hgood
        simp only [Bool.or_eq_true, Bool.and_eq_true, decide_eq_true_eq] at hgood
        rcases hgood with h | h
        · exact absurd h hne
        · exact ⟨h.2, h.1⟩
      have hfar := gamesArise_far hv hga.1
      -- the neighbours
      have hl : left s e a b ≤ if a = 0 then 0 else 2 ^ pot (a - 1) b := by
        cases a with
        | zero => simp [left]
        | succ a => simp only [left, Nat.add_sub_cancel]; rw [if_neg (by omega)]; exact ih (a + b) (by omega) a b rfl (by omega) hb (by omega)
      have hd : down s e a b ≤ if b = 0 then 0 else 2 ^ pot a (b - 1) := by
        cases b with
        | zero => simp [down]
        | succ b => simp only [down, Nat.add_sub_cancel]; rw [if_neg (by omega)]; exact ih (a + b) (by omega) a b rfl ha (by omega) (by omega)
      -- those that are not near hold nothing
      have hz : ∀ x y : Nat, x + y < n → (x : Int) ≤ e.A → (y : Int) ≤ e.B → ¬ ((x : Int) = e.A ∧ (y : Int) = e.B) → ¬ (x ≤ 8 ∧ y ≤ 8) → ¬ (x ≤ y + 1 ∧ y ≤ x + 1) → wy s e x y = 0 := by
        intro x y _ _ _ h1 h2 h3
        rw [wy_eq]; unfold cell
        rw [if_neg, if_neg (by omega)]
        unfold good
        simp only [Bool.or_eq_true, Bool.and_eq_true, decide_eq_true_eq]
        rintro (h | h)
        · exact h1 h
        · rcases gamesArise_far hv h.2 with h | h
          · exact h2 h
          · exact h3 h
      by_cases hs : a ≤ 8 ∧ b ≤ 8
      · have e0 : pot a b = a + b := if_pos hs
        rw [e0]
        have hl' : a ≠ 0 → left s e a b ≤ 2 ^ (a + b - 1) := fun h => by
          rw [if_neg h] at hl
          have : pot (a - 1) b = a + b - 1 := by unfold pot; rw [if_pos (by omega)]; omega
          rwa [this] at hl
        have hd' : b ≠ 0 → down s e a b ≤ 2 ^ (a + b - 1) := fun h => by
          rw [if_neg h] at hd
          have : pot a (b - 1) = a + b - 1 := by unfold pot; rw [if_pos (by omega)]; omega
          rwa [this] at hd
        have h2 : 2 ^ (a + b) = 2 ^ (a + b - 1) * 2 := by rw [← Nat.pow_succ]; congr 1; omega
        rw [h2]
        by_cases h0 : a = 0
        · rw [if_pos h0] at hl; have := hd' (by omega); omega
        · by_cases h1 : b = 0
          · rw [if_pos h1] at hd; have := hl' h0; omega
          · have := hl' h0; have := hd' h1; omega
      · have hnear : a ≤ b + 1 ∧ b ≤ a + 1 := by
          rcases hfar with h | h
          · exact absurd h hs
          · exact h
        have e0 : pot a b = 16 + min a b := if_neg hs
        rw [e0]
        rcases (show a = b ∨ a = b + 1 ∨ b = a + 1 by omega) with h | h | h
        · subst h
          rw [if_neg (by omega)] at hl hd
          have e1 : pot (a - 1) a = 16 + (a - 1) := by unfold pot; rw [if_neg (by omega)]; omega
          have e2 : pot a (a - 1) = 16 + (a - 1) := by unfold pot; rw [if_neg (by omega)]; omega
          rw [e1] at hl; rw [e2] at hd
          have h2 : 2 ^ (16 + min a a) = 2 ^ (16 + (a - 1)) * 2 := by rw [← Nat.pow_succ]; congr 1; omega
          rw [h2]; omega
        · subst h
          have hd0 : down s e (b + 1) b = 0 := by
            cases b with
            | zero => rfl
            | succ b => exact hz (b + 1 + 1) b (by omega) ha (by omega) (by omega) (by omega) (by omega)
          rw [hd0]
          rw [if_neg (by omega)] at hl
          have e1 : pot (b + 1 - 1) b ≤ 16 + min (b + 1) b := by unfold pot; split <;> omega
          have := Nat.pow_le_pow_right (n := 2) (by decide) e1
          omega
        · subst h
          have hd0 : left s e a (a + 1) = 0 := by
            cases a with
            | zero => rfl
            | succ a => exact hz a (a + 1 + 1) (by omega) (by omega) hb (by omega) (by omega) (by omega)
          rw [hd0]
          rw [if_neg (by omega)] at hd
          have e1 : pot a (a + 1 - 1) ≤ 16 + min a (a + 1) := by unfold pot; split <;> omega
          have := Nat.pow_le_pow_right (n := 2) (by decide) e1
          omega
    · split
      · exact Nat.one_le_two_pow
      · exact Nat.zero_le _
theorem wy_most {s : Fm} (hv : Valid s) {e : Pr} (he : e.A ≤ 40 ∧ e.B ≤ 40) {a b : Nat} (ha : (a : Int) ≤ e.A) (hb : (b : Int) ≤ e.B) (hne : ¬ ((a : Int) = e.A ∧ (b : Int) = e.B)) : wy s e a b ≤ 72057594037927936 := by
  have h := wy_bd hv e _ a b rfl ha hb hne
  have h2 : pot a b ≤ 56 := by unfold pot; split <;> omega
  exact Nat.le_trans h (Nat.le_trans (Nat.pow_le_pow_right (by decide) h2) (by decide))
theorem left_most {s : Fm} (hv : Valid s) {e : Pr} (he : e.A ≤ 40 ∧ e.B ≤ 40) {a b : Nat} (ha : (a : Int) ≤ e.A) (hb : (b : Int) ≤ e.B) : left s e a b ≤ 72057594037927936 := by
  cases a with
  | zero => simp [left]
  | succ a => exact wy_most hv he (by omega) hb (by omega)
theorem down_most {s : Fm} (hv : Valid s) {e : Pr} (he : e.A ≤ 40 ∧ e.B ≤ 40) {a b : Nat} (ha : (a : Int) ≤ e.A) (hb : (b : Int) ≤ e.B) : down s e a b ≤ 72057594037927936 := by
  cases b with
  | zero => simp [down]
  | succ b => exact wy_most hv he ha (by omega) (by omega)

end M
end Go.Proofs.Ytlhbimifhclojaa

namespace Go.Proofs.Ytlhbimifhclojaa
open Go.RowKit
namespace M

theorem nat_eta {p : Pr} (h : 0 ≤ p.A ∧ 0 ≤ p.B) : nat p.A.toNat p.B.toNat = p := by
  obtain ⟨a, b⟩ := p
  simp only [nat, Pr.mk.injEq]
  exact ⟨Int.toNat_of_nonneg h.1, Int.toNat_of_nonneg h.2⟩
theorem gamesArise_iff (s : Fm) (a b : Nat) : gamesArise s (nat a b) = true ↔ (s.tie < 0 ∨ (max a b : Nat) ≤ s.tie) ∧ ((max a b : Nat) < s.games ∨ (a ≤ b + 1 ∧ b ≤ a + 1)) := by
  have hh : hi (nat a b) = ((max a b : Nat) : Int) := by unfold hi nat; dsimp only; split <;> omega
  unfold gamesArise near
  rw [hh]
  simp only [Bool.and_eq_true, Bool.or_eq_true, Bool.not_eq_true', Bool.and_eq_false_iff, decide_eq_false_iff_not, decide_eq_true_eq]
  have hA : (nat a b).A = (a : Int) := rfl
  have hB : (nat a b).B = (b : Int) := rfl
  rw [hA, hB]
  omega
theorem gamesArise_back {s : Fm} {a b : Nat} (h : gamesArise s (nat a b) = true) (h0 : 0 < a + b) : (∃ x, a = x + 1 ∧ gamesArise s (nat x b) = true) ∨ (∃ y, b = y + 1 ∧ gamesArise s (nat a y) = true) := by
  rw [gamesArise_iff] at h
  by_cases hab : b ≤ a
  · left
    refine ⟨a - 1, by omega, ?_⟩
    rw [gamesArise_iff]; omega
  · right
    refine ⟨b - 1, by omega, ?_⟩
    rw [gamesArise_iff]; omega
theorem wy_pos {s : Fm} {e : Pr} (he : e ≠ zero) : ∀ n a b : Nat, a + b = n → gamesArise s (nat a b) = true → 1 ≤ wy s e a b := by
  intro n
  induction n using Nat.strongRecOn with
  | _ n ih =>
    intro a b hn hg
    rw [wy_eq]; unfold cell
    by_cases h0 : a = 0 ∧ b = 0
    · rw [if_neg]
      · rw [if_pos h0]; exact Nat.le_refl _
      · unfold good
        simp only [Bool.or_eq_true, Bool.and_eq_true, decide_eq_true_eq]
        rintro (h | h)
        · apply he
          obtain ⟨x, y⟩ := e
          simp only [zero, Pr.mk.injEq]
          simp only at h
          omega
        · omega
    · rw [if_pos (by unfold good; rw [hg]; simp; omega)]
      rcases gamesArise_back hg (by omega) with ⟨x, hx, hgx⟩ | ⟨y, hy, hgy⟩
      · subst hx
        have := ih (x + b) (by omega) x b rfl hgx
        simp only [left]; omega
      · subst hy
        have := ih (a + y) (by omega) a y rfl hgy
        simp only [down]; omega
theorem orders_pos {s : Fm} {e : Pr} (hf : 0 ≤ e.A ∧ 0 ≤ e.B) (h : setWinner s e ≠ -1) : 1 ≤ orders s e := by
  have hex : ∃ k : Int, (k = 0 ∨ k = 1) ∧ endsBy s e k = true := by
    unfold setWinner at h
    by_cases h1 : endsBy s e 0 = true
    · exact ⟨0, .inl rfl, h1⟩
    · by_cases h2 : endsBy s e 1 = true
      · exact ⟨1, .inr rfl, h2⟩
      · rw [if_neg h1, if_neg h2] at h; exact absurd rfl h
  obtain ⟨k, hk, hb⟩ := hex
  unfold endsBy at hb
  simp only [Bool.and_eq_true, decide_eq_true_eq] at hb
  obtain ⟨h0, hg, _⟩ := hb
  have hne : e ≠ zero := by
    rintro rfl
    rcases hk with rfl | rfl <;> simp [of, minus, zero] at h0
  unfold orders
  rw [wy_eq]; unfold cell
  have hgood : good s e e.A.toNat e.B.toNat = true := by
    unfold good
    rw [decide_eq_true (Int.toNat_of_nonneg hf.1), decide_eq_true (Int.toNat_of_nonneg hf.2)]; rfl
  rw [if_pos hgood]
  rcases hk with rfl | rfl
  · have hA : 1 ≤ e.A := by simp [of, minus] at h0; omega
    obtain ⟨x, hx⟩ : ∃ x, e.A.toNat = x + 1 := ⟨e.A.toNat - 1, by omega⟩
    have hm : minus e 0 = nat x e.B.toNat := by
      obtain ⟨p, q⟩ := e
      simp only [minus, nat, if_true, Pr.mk.injEq]
      simp only at hx hf
      omega
    rw [hm] at hg
    have := wy_pos hne _ x e.B.toNat rfl hg
    rw [hx]; simp only [left]; omega
  · have hB : 1 ≤ e.B := by simp [of, minus] at h0; omega
    obtain ⟨y, hy⟩ : ∃ y, e.B.toNat = y + 1 := ⟨e.B.toNat - 1, by omega⟩
    have hm : minus e 1 = nat e.A.toNat y := by
      obtain ⟨p, q⟩ := e
      simp only [minus, nat]
      rw [if_neg (by decide)]
      simp only [Pr.mk.injEq]
      simp only at hy hf
      omega
    rw [hm] at hg
    have := wy_pos hne _ e.A.toNat y rfl hg
    rw [hy]; simp only [down]; omega
theorem orders_most {s : Fm} (hv : Valid s) {e : Pr} (hf : 0 ≤ e.A ∧ e.A ≤ 40 ∧ 0 ≤ e.B ∧ e.B ≤ 40) : orders s e ≤ 144115188075855872 := by
  unfold orders
  rw [wy_eq]; unfold cell
  have hl := left_most hv (e := e) ⟨hf.2.1, hf.2.2.2⟩ (a := e.A.toNat) (b := e.B.toNat) (by omega) (by omega)
  have hd := down_most hv (e := e) ⟨hf.2.1, hf.2.2.2⟩ (a := e.A.toNat) (b := e.B.toNat) (by omega) (by omega)
  split
  · omega
  · split <;> omega

def swap (p : Pr) : Pr := ⟨p.B, p.A⟩
theorem gamesArise_swap (s : Fm) (a b : Nat) : gamesArise s (nat b a) = gamesArise s (nat a b) := by
  rw [Bool.eq_iff_iff, gamesArise_iff, gamesArise_iff]; omega
theorem good_swap (s : Fm) (e : Pr) (a b : Nat) : good s (swap e) b a = good s e a b := by
  unfold good swap
  rw [gamesArise_swap, Bool.and_comm (decide ((b : Int) = e.B)), Nat.add_comm]
theorem wy_swap (s : Fm) (e : Pr) : ∀ n a b : Nat, a + b = n → wy s (swap e) b a = wy s e a b := by
  intro n
  induction n using Nat.strongRecOn with
  | _ n ih =>
    intro a b hn
    rw [wy_eq, wy_eq]; unfold cell
    rw [good_swap]
    have hl : left s (swap e) b a = down s e a b := by
      cases b with
      | zero => rfl
      | succ b => exact ih (a + b) (by omega) a b rfl
    have hd : down s (swap e) b a = left s e a b := by
      cases a with
      | zero => rfl
      | succ a => exact ih (a + b) (by omega) a b rfl
    rw [hl, hd, Nat.add_comm]
    have : (b = 0 ∧ a = 0) = (a = 0 ∧ b = 0) := by rw [And.comm]
    simp only [this]
theorem orders_swap (s : Fm) (e : Pr) : orders s (swap e) = orders s e := wy_swap s e _ _ _ rfl

def maxWays : Nat := 1000000000000
def waysB (f : Fm) : Pr → Nat → List Pr → Option Nat
  | _, w, [] => some w
  | won, w, g :: r => if maxWays < w * orders (ofSet f won) g then none else waysB f (plus won (setWinner (ofSet f won) g)) (w * orders (ofSet f won) g) r
def waysE (f : Fm) (ps : List Pr) : Int := if swE f ps zero zero ≠ 0 then swE f ps zero zero else match waysB f zero 1 ps with
  | none => 2
  | some _ => 0
def waysV (f : Fm) (ps : List Pr) : Int := if swE f ps zero zero ≠ 0 then 0 else match waysB f zero 1 ps with
  | none => 0
  | some w => w

end M
end Go.Proofs.Ytlhbimifhclojaa

namespace Go.Proofs.Ytlhbimifhclojaa
open Go.RowKit
namespace M

theorem wonBy_nil (f : Fm) (won : Pr) : wonBy f won [] = some won := rfl
theorem wonBy_consE (f : Fm) (won g : Pr) (r : List Pr) : wonBy f won (g :: r) = if winner f won = -1 ∧ setWinner (ofSet f won) g ≠ -1 then wonBy f (plus won (setWinner (ofSet f won) g)) r else none := rfl
theorem waysB_consE (f : Fm) (won g : Pr) (w : Nat) (r : List Pr) : waysB f won w (g :: r) = if maxWays < w * orders (ofSet f won) g then none else waysB f (plus won (setWinner (ofSet f won) g)) (w * orders (ofSet f won) g) r := rfl

theorem wonBy_app (f : Fm) (t : List Pr) : ∀ (l : List Pr) (won : Pr), wonBy f won (l ++ t) = (wonBy f won l).bind fun r => wonBy f r t
  | [], won => rfl
  | g :: l, won => by
    rw [List.cons_append, wonBy_consE, wonBy_consE]
    by_cases h : winner f won = -1 ∧ setWinner (ofSet f won) g ≠ -1
    · rw [if_pos h, if_pos h]; exact wonBy_app f t l _
    · rw [if_neg h, if_neg h]; rfl
theorem waysB_app (f : Fm) (t : List Pr) : ∀ (l : List Pr) (won r : Pr) (u : Nat), wonBy f won l = some r → waysB f won u (l ++ t) = (waysB f won u l).bind fun v => waysB f r v t
  | [], won, r, u, h => by rw [wonBy_nil] at h; injection h with h; subst h; rfl
  | g :: l, won, r, u, h => by
    rw [wonBy_consE] at h
    by_cases hc : winner f won = -1 ∧ setWinner (ofSet f won) g ≠ -1
    · rw [if_pos hc] at h
      rw [List.cons_append, waysB_consE, waysB_consE]
      by_cases hb : maxWays < u * orders (ofSet f won) g
      · rw [if_pos hb, if_pos hb]; rfl
      · rw [if_neg hb, if_neg hb]; exact waysB_app f t l _ r _ h
    · rw [if_neg hc] at h; cases h
theorem fine_nn {p : Pr} (h : fine p = true) : 0 ≤ p.A ∧ 0 ≤ p.B := by
  simp only [fine, Bool.and_eq_true, decide_eq_true_eq] at h
  omega
theorem waysB_dvd (f : Fm) : ∀ (l : List Pr) (won r : Pr) (u v : Nat), 1 ≤ u → l.all fine = true → wonBy f won l = some r → waysB f won u l = some v → u ∣ v ∧ u ≤ v
  | [], won, r, u, v, hu, _, _, hv => by
    have e : some u = some v := hv
    injection e with e; subst e; exact ⟨Nat.dvd_refl _, Nat.le_refl _⟩
  | g :: l, won, r, u, v, hu, hf, h, hv => by
    rw [wonBy_consE] at h
    rw [List.all_cons, Bool.and_eq_true] at hf
    by_cases hc : winner f won = -1 ∧ setWinner (ofSet f won) g ≠ -1
    · rw [if_pos hc] at h
      rw [waysB_consE] at hv
      by_cases hb : maxWays < u * orders (ofSet f won) g
      · rw [if_pos hb] at hv; cases hv
      · rw [if_neg hb] at hv
        have hp := orders_pos (fine_nn hf.1) hc.2
        have h1 : u ≤ u * orders (ofSet f won) g := Nat.le_mul_of_pos_right _ hp
        obtain ⟨h2, h3⟩ := waysB_dvd f l _ r _ v (by omega) hf.2 h hv
        exact ⟨Nat.dvd_trans (Nat.dvd_mul_right _ _) h2, by omega⟩
    · rw [if_neg hc] at h; cases h
theorem waysB_le (f : Fm) : ∀ (l : List Pr) (won : Pr) (u v : Nat), u ≤ maxWays → waysB f won u l = some v → v ≤ maxWays
  | [], won, u, v, hu, hv => by
    have e : some u = some v := hv
    injection e with e; omega
  | g :: l, won, u, v, hu, hv => by
    rw [waysB_consE] at hv
    by_cases hb : maxWays < u * orders (ofSet f won) g
    · rw [if_pos hb] at hv; cases hv
    · rw [if_neg hb] at hv
      exact waysB_le f l _ _ v (by omega) hv

theorem rest_zero {f : Fm} (hv : Valid f) (won : Pr) : rest f won zero zero = true := by
  unfold rest
  by_cases h : winner f won ≠ -1
  · rw [if_pos h]; rfl
  · rw [if_neg h]
    have hs := hv.ofSet won
    have g0 := hs.g0
    have hh : hi zero = 0 := rfl
    have h1 : gamesArise (ofSet f won) zero = true := by
      unfold gamesArise
      rw [hh]
      simp only [Bool.and_eq_true, Bool.or_eq_true, Bool.not_eq_true', Bool.and_eq_false_iff, decide_eq_false_iff_not, decide_eq_true_eq]
      omega
    have h2 : pointsArise (ofSet f won) (isTie (ofSet f won) zero) zero = true := by
      have := aimTo_lo hs (isTie (ofSet f won) zero)
      unfold pointsArise
      rw [hh]
      simp only [Bool.or_eq_true, decide_eq_true_eq]
      exact .inl (by omega)
    rw [h1, h2]; rfl
theorem swE_ok {f : Fm} {ps : List Pr} {r : Pr} (hv : validB f = true) (hl : ps.length ≤ 5) (hf : ps.all fine = true) (h : wonBy f zero ps = some r) : swE f ps zero zero = 0 := by
  unfold swE
  rw [if_pos hv, if_pos (by unfold numbered; rw [decide_eq_true hl, hf]; rfl), if_pos]
  unfold standB
  rw [h]; exact rest_zero ((validB_iff f).1 hv) r
theorem swE_parts {f : Fm} {ps : List Pr} (h : swE f ps zero zero = 0) : validB f = true ∧ ps.length ≤ 5 ∧ ps.all fine = true ∧ ∃ r, wonBy f zero ps = some r := by
  unfold swE at h
  cases hv : validB f
  · rw [hv] at h; simp at h
  · cases hn : numbered ps zero zero
    · rw [hv, hn] at h; simp at h
    · cases hs : standB f ps zero zero
      · rw [hv, hn, hs] at h; simp at h
      · obtain ⟨h1, h2, _, _⟩ := numbered_parts hn
        refine ⟨rfl, h1, h2, ?_⟩
        unfold standB at hs
        cases hw : wonBy f zero ps with
        | none => rw [hw] at hs; cases hs
        | some r => exact ⟨r, rfl⟩
theorem waysE_cases {f : Fm} (hv : validB f = true) (ps : List Pr) : waysE f ps = 0 ∨ waysE f ps = 12 ∨ waysE f ps = 2 := by
  unfold waysE
  by_cases h : swE f ps zero zero ≠ 0
  · rw [if_pos h]
    unfold swE at h ⊢
    rw [if_pos hv] at h ⊢
    cases hn : numbered ps zero zero
    · exact .inr (.inl rfl)
    · rw [if_pos rfl]
      cases hs : standB f ps zero zero
      · exact .inr (.inl rfl)
      · exact .inl rfl
  · rw [if_neg h]
    cases waysB f zero 1 ps with
    | none => exact .inr (.inr rfl)
    | some w => exact .inl rfl
theorem ways_of {f : Fm} {ps : List Pr} {r : Pr} {v : Nat} (hv : validB f = true) (hl : ps.length ≤ 5) (hf : ps.all fine = true) (h : wonBy f zero ps = some r) (hw : waysB f zero 1 ps = some v) : waysV f ps = v ∧ waysE f ps = 0 := by
  have h0 := swE_ok hv hl hf h
  unfold waysV waysE
  rw [h0, hw]
  exact ⟨rfl, rfl⟩
theorem ways_parts {f : Fm} {ps : List Pr} (h : waysE f ps = 0) : validB f = true ∧ ps.length ≤ 5 ∧ ps.all fine = true ∧ (∃ r, wonBy f zero ps = some r) ∧ ∃ v, waysB f zero 1 ps = some v := by
  have h0 : swE f ps zero zero = 0 := by
    unfold waysE at h
    by_cases hs : swE f ps zero zero ≠ 0
    · rw [if_pos hs] at h; exact h
    · exact Decidable.not_not.1 hs
  obtain ⟨h1, h2, h3, h4⟩ := swE_parts h0
  refine ⟨h1, h2, h3, h4, ?_⟩
  unfold waysE at h
  rw [if_neg (by rw [h0]; exact fun x => x rfl)] at h
  cases hw : waysB f zero 1 ps with
  | none => rw [hw] at h; cases h
  | some v => exact ⟨v, rfl⟩

theorem hi_swap (p : Pr) : hi (swap p) = hi p := by unfold hi swap; dsimp only; split <;> split <;> omega
theorem near_swap (p : Pr) : near (swap p) = near p := by
  unfold near swap; dsimp only; rw [Bool.eq_iff_iff]; simp only [Bool.and_eq_true, decide_eq_true_eq]; omega
theorem gamesAriseS (s : Fm) (p : Pr) : M.gamesArise s (swap p) = M.gamesArise s p := by unfold M.gamesArise; rw [hi_swap, near_swap]
theorem isTie_swap (s : Fm) (p : Pr) : isTie s (swap p) = isTie s p := by unfold isTie swap; exact Bool.and_comm _ _
theorem of_swap (p : Pr) {k : Int} (hk : k = 0 ∨ k = 1) : of (swap p) (1 - k) = of p k := by rcases hk with rfl | rfl <;> rfl
theorem plus_swap (p : Pr) {k : Int} (hk : k = 0 ∨ k = 1) : plus (swap p) (1 - k) = swap (plus p k) := by rcases hk with rfl | rfl <;> rfl
theorem minus_swap (p : Pr) {k : Int} (hk : k = 0 ∨ k = 1) : minus (swap p) (1 - k) = swap (minus p k) := by rcases hk with rfl | rfl <;> rfl
theorem endsSet_swap (s : Fm) (p : Pr) {k : Int} (hk : k = 0 ∨ k = 1) : endsSet s (swap p) (1 - k) = endsSet s p k := by
  unfold endsSet
  rw [isTie_swap, plus_swap p hk, of_swap _ hk, near_swap]
theorem endsBy_swap (s : Fm) (p : Pr) {k : Int} (hk : k = 0 ∨ k = 1) : endsBy s (swap p) (1 - k) = endsBy s p k := by
  unfold endsBy
  rw [minus_swap p hk, of_swap _ hk, gamesAriseS, endsSet_swap _ _ hk]
theorem setWinner_ne {s : Fm} {p : Pr} : setWinner s p ≠ -1 ↔ endsBy s p 0 = true ∨ endsBy s p 1 = true := by
  unfold setWinner
  by_cases h0 : endsBy s p 0 = true
  · rw [if_pos h0]; exact ⟨fun _ => .inl h0, fun _ => by decide⟩
  · by_cases h1 : endsBy s p 1 = true
    · rw [if_neg h0, if_pos h1]; exact ⟨fun _ => .inr h1, fun _ => by decide⟩
    · rw [if_neg h0, if_neg h1]; exact ⟨fun h => absurd rfl h, fun h => by rcases h with h | h <;> contradiction⟩
theorem setWinner_swap {s : Fm} {p : Pr} (h : setWinner s p ≠ -1) : setWinner s (swap p) ≠ -1 := by
  rw [setWinner_ne] at h ⊢
  have e0 := endsBy_swap s p (k := 0) (.inl rfl)
  have e1 := endsBy_swap s p (k := 1) (.inr rfl)
  rcases h with h | h
  · right; rw [← h]; exact e0
  · left; rw [← h]; exact e1
theorem fine_swap (p : Pr) : fine (swap p) = fine p := by
  unfold fine swap; dsimp only; rw [Bool.eq_iff_iff]; simp only [Bool.and_eq_true, decide_eq_true_eq]; omega

/-- what ScoreOrders says -/
structure OrdersLaw (f : Fm) (ps : List Pr) (cut : Nat) (g : Pr) (a s l : Nat) : Prop where
  all : waysV f ps = a
  some : waysV f (ps.take (cut + 1)) = s
  someE : waysE f (ps.take (cut + 1)) = 0
  less : waysV f (ps.take cut) = l
  lessE : waysE f (ps.take cut) = 0
  mir : waysV f (ps.take cut ++ [swap g]) = s
  mirE : waysE f (ps.take cut ++ [swap g]) = 0
  l1 : 1 ≤ l
  ls : l ≤ s
  sa : s ≤ a
  amost : a ≤ 1000000000000
  dls : (s : Int) % (l : Int) = 0
  dsa : (a : Int) % (s : Int) = 0

theorem orders_law {f : Fm} {ps : List Pr} {cut : Nat} {g : Pr} (h0 : waysE f ps = 0) (hg : ps[cut]? = some g) : ∃ a s l : Nat, OrdersLaw f ps cut g a s l := by
  obtain ⟨hv, hl, hf, ⟨r, hr⟩, a, ha⟩ := ways_parts h0
  obtain ⟨hc, hge⟩ := List.getElem?_eq_some_iff.1 hg
  have hsplit : ps = ps.take cut ++ (g :: ps.drop (cut + 1)) := by
    rw [← hge, ← List.drop_eq_getElem_cons hc, List.take_append_drop]
  have htake : ps.take (cut + 1) = ps.take cut ++ [g] := by
    rw [List.take_succ_eq_append_getElem hc, hge]
  have hfl : (ps.take cut).all fine = true := List.all_eq_true.2 fun x hx => List.all_eq_true.1 hf x (List.mem_of_mem_take hx)
  have hfg : fine g = true := List.all_eq_true.1 hf g (List.mem_of_getElem? hg)
  have hfd : (ps.drop (cut + 1)).all fine = true := List.all_eq_true.2 fun x hx => List.all_eq_true.1 hf x (List.mem_of_mem_drop hx)
  generalize hp : ps.take cut = p at *
  generalize hd : ps.drop (cut + 1) = d at *
  have hpl : p.length ≤ cut := by rw [← hp]; exact List.length_take_le _ _
  rw [hsplit, wonBy_app] at hr
  cases hwp : wonBy f zero p with
  | none => rw [hwp] at hr; cases hr
  | some rc =>
    rw [hwp] at hr
    have hr1 : wonBy f rc (g :: d) = Option.some r := hr
    rw [hsplit, waysB_app f _ p zero rc 1 hwp] at ha
    cases hwl : waysB f zero 1 p with
    | none => rw [hwl] at ha; cases ha
    | some l =>
      rw [hwl] at ha
      have ha1 : waysB f rc l (g :: d) = Option.some a := ha
      have hone := waysB_dvd f p zero rc 1 l (Nat.le_refl _) hfl hwp hwl
      rw [wonBy_consE] at hr1
      by_cases hcnd : winner f rc = -1 ∧ setWinner (ofSet f rc) g ≠ -1
      · rw [if_pos hcnd] at hr1
        rw [waysB_consE] at ha1
        by_cases hb : maxWays < l * orders (ofSet f rc) g
        · rw [if_pos hb] at ha1; cases ha1
        · rw [if_neg hb] at ha1
          have hp1 := orders_pos (fine_nn hfg) hcnd.2
          have hls : l ≤ l * orders (ofSet f rc) g := Nat.le_mul_of_pos_right _ hp1
          obtain ⟨hd1, hd2⟩ := waysB_dvd f d _ r _ a (by omega) hfd hr1 ha1
          have hall : waysV f ps = a := (ways_of hv hl hf (by rw [hsplit, wonBy_app, hwp]; show wonBy f rc (g :: d) = _; rw [wonBy_consE, if_pos hcnd]; exact hr1) (by rw [hsplit, waysB_app f _ p zero rc 1 hwp, hwl]; show waysB f rc l (g :: d) = _; rw [waysB_consE, if_neg hb]; exact ha1)).1
          have hlg : (p ++ [g]).length ≤ 5 := by rw [List.length_append]; simp only [List.length_cons, List.length_nil]; omega
          have hsome := ways_of (f := f) (ps := p ++ [g]) (r := plus rc (setWinner (ofSet f rc) g)) (v := l * orders (ofSet f rc) g) hv hlg (by rw [List.all_append, hfl, List.all_cons, hfg]; rfl)
            (by rw [wonBy_app, hwp]; show wonBy f rc [g] = _; rw [wonBy_consE, if_pos hcnd]; rfl) (by rw [waysB_app f _ p zero rc 1 hwp, hwl]; show waysB f rc l [g] = _; rw [waysB_consE, if_neg hb]; rfl)
          have hcs : winner f rc = -1 ∧ setWinner (ofSet f rc) (swap g) ≠ -1 := ⟨hcnd.1, setWinner_swap hcnd.2⟩
          have hmir := ways_of (f := f) (ps := p ++ [swap g]) (r := plus rc (setWinner (ofSet f rc) (swap g))) (v := l * orders (ofSet f rc) g) hv (by rw [List.length_append] at hlg ⊢; exact hlg) (by rw [List.all_append, hfl, List.all_cons, fine_swap, hfg]; rfl)
            (by rw [wonBy_app, hwp]; show wonBy f rc [swap g] = _; rw [wonBy_consE, if_pos hcs]; rfl) (by rw [waysB_app f _ p zero rc 1 hwp, hwl]; show waysB f rc l [swap g] = _; rw [waysB_consE, orders_swap, if_neg hb]; rfl)
          have hless := ways_of (f := f) (ps := p) (r := rc) (v := l) hv (by omega) hfl hwp hwl
          have hmost := waysB_le f d _ _ a (by omega) ha1
          refine ⟨a, l * orders (ofSet f rc) g, l, hall, ?_, ?_, ?_, ?_, ?_, ?_, by omega, hls, hd2, hmost, ?_, ?_⟩
          · rw [htake]; exact hsome.1
          · rw [htake]; exact hsome.2
          · rw [hp]; exact hless.1
          · rw [hp]; exact hless.2
          · rw [hp]; exact hmir.1
          · rw [hp]; exact hmir.2
          · exact Int.emod_eq_zero_of_dvd (Int.natCast_dvd_natCast.2 (Nat.dvd_mul_right _ _))
          · exact Int.emod_eq_zero_of_dvd (Int.natCast_dvd_natCast.2 hd1)
      · rw [if_neg hcnd] at hr1; cases hr1

end M
end Go.Proofs.Ytlhbimifhclojaa

