/-
  Part of a claim's texts: contracts of the program's functions and the plain functions that they compute, in build order.
-/
import Derived.BigQuiet
import Derived.Deep.MidRow
import Derived.Test.YtobjahlmjcnfoaaProg
import Derived.StillTail
import Derived.Test.YtobjahlmjcnfoaaZB02
import Derived.Test.YtobjahlmjcnfoaaZB04
import Derived.Test.YtobjahlmjcnfoaaZB05
namespace Go.Proofs.Ytobjahlmjcnfoaa
namespace E

def entQ (f : Fd) (h p : Int) (x : Nt) : Bool := decide (x.player = p) && (decide (x.kind = 1) || decide (x.kind = 2)) && decide (x.hour ≤ h) && decide (x.hour ≤ f.close)
def entStep (f : Fd) (h p : Int) (a x : Nt) : Nt := if entQ f h p x = true ∧ (x.hour < a.hour ∨ x.hour = a.hour ∧ x.id < a.id) then x else a
def entZ : Nt := ⟨0, 10000, 0, 0, 0⟩
def entF (f : Fd) (h p : Int) (l : List Nt) : Nt := l.foldl (entStep f h p) entZ

def tri (p : Pl) : Bool × Bool × Int := (p.ent, p.grd, p.rank)
theorem entF_spec (f : Fd) (h p : Int) : ∀ (l : List Nt) (a : Nt), let r := l.foldl (entStep f h p) a
    (r = a ∨ (r ∈ l ∧ entQ f h p r = true)) ∧ (r.hour < a.hour ∨ r.hour = a.hour ∧ r.id ≤ a.id) ∧ ∀ y ∈ l, entQ f h p y = true → (r.hour < y.hour ∨ r.hour = y.hour ∧ r.id ≤ y.id)
  | [], a => ⟨.inl rfl, .inr ⟨rfl, Int.le_refl _⟩, fun y hy => by cases hy⟩
  | x :: l, a => by
    have ih := entF_spec f h p l (entStep f h p a x)
    dsimp only at ih ⊢
    rw [List.foldl_cons]
    obtain ⟨h1, h2, h3⟩ := ih
    have hs : (entStep f h p a x = x ∧ entQ f h p x = true ∧ (x.hour < a.hour ∨ x.hour = a.hour ∧ x.id < a.id)) ∨ (entStep f h p a x = a ∧ (entQ f h p x = true → a.hour < x.hour ∨ a.hour = x.hour ∧ a.id ≤ x.id)) := by
      unfold entStep
      by_cases e : entQ f h p x = true ∧ (x.hour < a.hour ∨ x.hour = a.hour ∧ x.id < a.id)
      · rw [if_pos e]; exact .inl ⟨rfl, e.1, e.2⟩
      · rw [if_neg e]
        refine .inr ⟨rfl, fun hq => ?_⟩
        have : ¬ (x.hour < a.hour ∨ x.hour = a.hour ∧ x.id < a.id) := fun h => e ⟨hq, h⟩
        omega
    generalize l.foldl (entStep f h p) (entStep f h p a x) = R at h1 h2 h3 ⊢
    refine ⟨?_, ?_, ?_⟩
    · rcases h1 with h1 | h1
      · rcases hs with hs | hs
        · exact .inr ⟨by rw [h1, hs.1]; exact List.mem_cons_self .., by rw [h1, hs.1]; exact hs.2.1⟩
        · exact .inl (h1.trans hs.1)
      · exact .inr ⟨List.mem_cons_of_mem _ h1.1, h1.2⟩
    · rcases hs with hs | hs
      · rw [hs.1] at h2; have := hs.2.2; omega
      · rw [hs.1] at h2; exact h2
    · intro y hy hq
      rcases List.mem_cons.1 hy with e | hy
      · subst e
        rcases hs with hs | hs
        · rw [hs.1] at h2; exact h2
        · rw [hs.1] at h2; have := hs.2 hq; omega
      · exact h3 y hy hq

theorem entF_find {l d : List Nt} (ht : Taken d) (hm : ∀ y, y ∈ d ↔ y ∈ l) (f : Fd) (h p : Int) :
    (d.find? (entQ f h p) = none ∧ entF f h p l = entZ) ∨ ∃ x ∈ l, d.find? (entQ f h p) = some x ∧ entF f h p l = x ∧ entQ f h p x = true := by
  obtain ⟨h1, h2, h3⟩ := entF_spec f h p l entZ
  change (entF f h p l = entZ ∨ (entF f h p l ∈ l ∧ entQ f h p (entF f h p l) = true)) at h1
  change ((entF f h p l).hour < entZ.hour ∨ (entF f h p l).hour = entZ.hour ∧ (entF f h p l).id ≤ entZ.id) at h2
  change (∀ y ∈ l, entQ f h p y = true → ((entF f h p l).hour < y.hour ∨ (entF f h p l).hour = y.hour ∧ (entF f h p l).id ≤ y.id)) at h3
  cases hf : d.find? (entQ f h p) with
  | none =>
    left
    refine ⟨rfl, ?_⟩
    rcases h1 with h1 | h1
    · exact h1
    · have := List.find?_eq_none.1 hf _ ((hm _).2 h1.1)
      exact absurd h1.2 this
  | some x =>
    right
    have hx := List.mem_of_find?_eq_some hf
    have hq := List.find?_some hf
    refine ⟨x, (hm x).1 hx, rfl, ?_, hq⟩
    have hle := h3 x ((hm x).1 hx) hq
    rcases h1 with h1 | h1
    · exfalso
      have := (valid_hour (ht.valid x hx)).2
      rw [h1] at hle
      unfold entZ at hle
      simp only at hle
      omega
    · obtain ⟨a1, b1, hd, hno⟩ := (List.find?_eq_some_iff_append.1 hf).2
      have hr : entF f h p l ∈ d := (hm _).2 h1.1
      have hord : leN x (entF f h p l) = true := by
        have hs := ht.sorted
        have hr' := hr
        rw [hd] at hr' hs
        rcases List.mem_append.1 hr' with h4 | h4
        · have := hno _ h4
          rw [h1.2] at this
          exact absurd this (by decide)
        · rcases List.mem_cons.1 h4 with h4 | h4
          · rw [h4]; exact (leN_iff _ _).2 (.inr ⟨rfl, Int.le_refl _⟩)
          · exact (List.pairwise_cons.1 (List.pairwise_append.1 hs).2.1).1 _ h4
      have := (leN_iff _ _).1 hord
      exact ids_inj ht.ids _ hr _ hx (by omega)

theorem tri_said (s : St) (x : Nt) (p : Int) : tri ((s.said x).pl p) = if x.player = p ∧ (x.kind = 1 ∨ x.kind = 2) ∧ x.hour ≤ s.f.close ∧ (s.pl p).ent = false then (true, decide (x.kind = 2), x.rank) else tri (s.pl p) := by
  have put : ∀ (s0 : St) (q : Pl), (s0.put x.player q).pl p = if p = x.player then q else s0.pl p := fun _ _ => rfl
  unfold St.said
  dsimp only
  by_cases hp : p = x.player
  · subst hp
    split
    · rename_i hk
      split
      · rename_i hc
        rw [put, if_pos rfl, if_pos ⟨rfl, hk, hc.1, hc.2⟩]; rfl
      · rename_i hc
        rw [put, if_pos rfl, if_neg (fun h => hc ⟨h.2.2.1, h.2.2.2⟩)]
    · rename_i hk
      rw [if_neg (c := x.player = x.player ∧ (x.kind = 1 ∨ x.kind = 2) ∧ x.hour ≤ s.f.close ∧ (s.pl x.player).ent = false) (fun h => hk h.2.1)]
      repeat' split
      all_goals (rw [put, if_pos rfl]; try rfl)
  · rw [if_neg (c := x.player = p ∧ _) (fun h => hp h.1.symm)]
    repeat' split
    all_goals rw [put, if_neg hp]

theorem tri_fold (f : Fd) (h p : Int) : ∀ (r : List Nt) (s : St), s.f.close = f.close → (∀ x ∈ r, x.hour ≤ h) → tri ((r.foldl St.take s).pl p) = if (s.pl p).ent then tri (s.pl p) else match r.find? (entQ f h p) with | some x => (true, decide (x.kind = 2), x.rank) | none => tri (s.pl p)
  | [], s, _, _ => by simp
  | x :: r, s, hc, hr => by
    have ih := tri_fold f h p r (s.take x) ((said_fd s x).trans hc) (fun y hy => hr y (List.mem_cons_of_mem _ hy))
    rw [List.foldl_cons, ih]
    have e1 : tri ((s.take x).pl p) = tri ((s.said x).pl p) := rfl
    have e2 : ((s.take x).pl p).ent = (tri ((s.said x).pl p)).1 := rfl
    rw [e1, e2, tri_said]
    have hx := hr x (List.mem_cons_self ..)
    cases he : (s.pl p).ent with
    | true =>
      rw [if_neg (c := x.player = p ∧ _) (fun h => by simp at h)]
      have : (tri (s.pl p)).1 = true := he
      rw [this]; rfl
    | false =>
      by_cases hq : x.player = p ∧ (x.kind = 1 ∨ x.kind = 2) ∧ x.hour ≤ s.f.close
      · rw [if_pos (c := x.player = p ∧ _) ⟨hq.1, hq.2.1, hq.2.2, rfl⟩]
        have : entQ f h p x = true := by
          unfold entQ
          have h1 := hq.2.2
          rw [hc] at h1
          simp [hq.1, hq.2.1, hx, h1]
        rw [List.find?_cons_of_pos this]; rfl
      · rw [if_neg (c := x.player = p ∧ _) (fun h => hq ⟨h.1, h.2.1, h.2.2.1⟩)]
        have : ¬ entQ f h p x = true := by
          unfold entQ
          intro h1
          simp only [Bool.and_eq_true, Bool.or_eq_true, decide_eq_true_eq] at h1
          exact hq ⟨h1.1.1.1, h1.1.1.2, by rw [hc]; exact h1.2⟩
        rw [List.find?_cons_of_neg this]
        have : (tri (s.pl p)).1 = false := he
        rw [this]

theorem find_filter {a : List Nt} (q p : Nt → Bool) (hqp : ∀ x, q x = true → p x = true) : (a.filter p).find? q = a.find? q := by
  induction a with
  | nil => rfl
  | cons x r ih =>
    by_cases hp : p x = true
    · rw [List.filter_cons_of_pos hp, List.find?_cons, List.find?_cons, ih]
    · rw [List.filter_cons_of_neg hp, ih, List.find?_cons_of_neg (fun h => hp (hqp x h))]

theorem entered_eq {l d : List Nt} (hd : diffs l = some d) (f : Fd) (h p : Int) :
    tri ((atL f h d).pl p) = (decide ((entF f h p l).hour ≤ 9999), decide ((entF f h p l).kind = 2), (entF f h p l).rank) := by
  obtain ⟨_, ht, hm⟩ := diffs_spec hd
  have h1 := tri_fold f h p (d.filter (fun x => decide (x.hour ≤ h))) (St.new f) rfl (fun x hx => by have := (List.mem_filter.1 hx).2; simpa using this)
  have e : (d.filter (fun x => decide (x.hour ≤ h))).find? (entQ f h p) = d.find? (entQ f h p) := find_filter _ _ (fun x hx => by
    unfold entQ at hx
    simp only [Bool.and_eq_true] at hx
    exact hx.1.2)
  rw [e] at h1
  have h2 : ((St.new f).pl p).ent = false := rfl
  rw [h2] at h1
  change tri ((atL f h d).pl p) = _ at h1
  rw [h1]
  rcases entF_find ht hm f h p with ⟨h3, h4⟩ | ⟨x, hx, h3, h4, _⟩
  · rw [h3, h4]; rfl
  · have hv := (valid_hour (ht.valid x ((hm x).2 hx))).2
    rw [h3, h4, decide_eq_true hv]; rfl
end E
end Go.Proofs.Ytobjahlmjcnfoaa

namespace Go.Proofs.Ytobjahlmjcnfoaa
namespace E

theorem guardsOf_app (s : St) (l m : List Int) : s.guardsOf (l ++ m) = s.guardsOf l + s.guardsOf m := by
  unfold St.guardsOf
  rw [List.map_append, List.sum_append]
theorem guardsOf_one (s : St) (k : Int) : s.guardsOf [k] = one (s.pl k).grd := by simp [St.guardsOf]
theorem fill_full {s : St} (lt : Bool) : ∀ (l acc : List Int) (g : Int), s.f.places ≤ (acc.length : Int) → s.fill lt l acc g = acc
  | [], _, _, _ => rfl
  | a :: r, acc, g, h => by
    unfold St.fill
    rw [if_neg (fun hc => by have := hc.1; omega)]
    exact fill_full lt r acc g h
theorem fill_guards {s : St} (lt : Bool) : ∀ (l acc : List Int) (g : Int), s.guardsOf acc ≤ s.guardsOf (s.fill lt l acc g)
  | [], _, _ => Int.le_refl _
  | a :: r, acc, g => by
    unfold St.fill
    split
    · have h1 := fill_guards (s := s) lt r (acc ++ [a]) (g + one (s.pl a).grd)
      have h2 := one_bd (s.pl a).grd
      rw [guardsOf_app, guardsOf_one] at h1
      omega
    · exact fill_guards lt r acc g

theorem fill_pass {s : St} (lt : Bool) {o : Int} : ∀ (l acc : List Int) (g : Int), g = s.guardsOf acc → o ∈ l → o ∉ s.fill lt l acc g →
    (s.f.places ≤ ((s.fill lt l acc g).length : Int) ∧ ∃ l1 l2, l = l1 ++ o :: l2 ∧ ∀ k ∈ s.fill lt l acc g, k ∈ acc ∨ k ∈ l1) ∨ (lt = true ∧ (s.pl o).sgn = false) ∨ ((s.pl o).grd = true ∧ s.f.guards ≤ s.guardsOf (s.fill lt l acc g))
  | [], _, _, _, h, _ => by cases h
  | a :: r, acc, g, hg, ho, hn => by
    unfold St.fill at hn ⊢
    by_cases hc : (acc.length : Int) < s.f.places ∧ ((s.pl a).sgn = true ∨ lt = false) ∧ (g < s.f.guards ∨ (s.pl a).grd = false)
    · rw [if_pos hc] at hn ⊢
      have hno : o ≠ a := fun e => hn (fill_keep lt r _ _ (by rw [e]; simp))
      have hor : o ∈ r := (List.mem_cons.1 ho).resolve_left hno
      rcases fill_pass lt r (acc ++ [a]) (g + one (s.pl a).grd) (by rw [guardsOf_app, guardsOf_one, hg]) hor hn with ⟨h1, l1, l2, h2, h3⟩ | h1
      · refine .inl ⟨h1, a :: l1, l2, by rw [h2]; rfl, fun k hk => ?_⟩
        rcases h3 k hk with h4 | h4
        · rcases List.mem_append.1 h4 with h5 | h5
          · exact .inl h5
          · right; simp at h5; rw [h5]; exact List.mem_cons_self ..
        · exact .inr (List.mem_cons_of_mem _ h4)
      · exact .inr h1
    · rw [if_neg hc] at hn ⊢
      by_cases e : o = a
      · subst e
        by_cases h1 : (acc.length : Int) < s.f.places
        · by_cases h2 : (s.pl o).sgn = true ∨ lt = false
          · have h3 : ¬ (g < s.f.guards ∨ (s.pl o).grd = false) := fun h => hc ⟨h1, h2, h⟩
            have h4 : (s.pl o).grd = true := by
              cases h : (s.pl o).grd with
              | true => rfl
              | false => exact absurd (.inr h) h3
            have h5 : ¬ g < s.f.guards := fun h => h3 (.inl h)
            have h6 := fill_guards (s := s) lt r acc g
            exact .inr (.inr ⟨h4, by omega⟩)
          · refine .inr (.inl ⟨?_, ?_⟩)
            · cases h : lt with
              | true => rfl
              | false => exact absurd (.inr h) h2
            · cases h : (s.pl o).sgn with
              | false => rfl
              | true => exact absurd (.inl h) h2
        · rw [fill_full lt r acc g (by omega)]
          exact .inl ⟨by omega, [], r, rfl, fun k hk => .inl hk⟩
      · have hor : o ∈ r := (List.mem_cons.1 ho).resolve_left e
        rcases fill_pass lt r acc g hg hor hn with ⟨h1, l1, l2, h2, h3⟩ | h1
        · refine .inl ⟨h1, a :: l1, l2, by rw [h2]; rfl, fun k hk => ?_⟩
          exact (h3 k hk).imp id (fun h4 => List.mem_cons_of_mem _ h4)
        · exact .inr h1

theorem alts_mem {s : St} {o : Int} : o ∈ s.alts ↔ o ∈ s.order ∧ o ∉ s.main := by
  unfold St.alts
  rw [List.mem_filter]
  simp

theorem right_late {s : St} {x : Nt} (hl : late s.f x.hour = true) {o : Int} (ho : o ∈ (s.take x).alts) (hs : ((s.take x).pl o).sgn = true) :
    (s.take x).f.places ≤ ((s.take x).main.length : Int) ∨ (((s.take x).pl o).grd = true ∧ (s.take x).f.guards ≤ (s.take x).guardsOf (s.take x).main) := by
  obtain ⟨h1, h2⟩ := alts_mem.1 ho
  have key : ∀ (u : St), o ∈ (u.settle true).order → o ∉ (u.settle true).main → ((u.settle true).pl o).sgn = true → (u.settle true).f.places ≤ ((u.settle true).main.length : Int) ∨ (((u.settle true).pl o).grd = true ∧ (u.settle true).f.guards ≤ (u.settle true).guardsOf (u.settle true).main) := by
    intro u h1 h2 hs
    have hm : o ∉ u.main.filter (fun k => true && (u.pl k).entry) := fun h => h2 (fill_keep _ _ _ _ h)
    have hin : o ∈ ({ u with main := u.main.filter (fun k => true && (u.pl k).entry) } : St).alts := alts_mem.2 ⟨h1, hm⟩
    rcases fill_pass (s := u) true _ _ _ rfl hin h2 with h3 | h3 | h3
    · exact .inl h3.1
    · have : (u.pl o).sgn = true := hs
      rw [h3.2] at this; cases this
    · exact .inr h3
  unfold St.take at h1 h2 hs ⊢
  rw [hl] at h1 h2 hs ⊢
  exact key _ h1 h2 hs

theorem right_early {s : St} (hm : s.main = s.greedy) {o : Int} (ho : o ∈ s.alts) :
    (s.f.places ≤ (s.main.length : Int) ∧ ∀ k ∈ s.main, 0 ≤ cmpP (s.pl o) (s.pl k)) ∨ ((s.pl o).grd = true ∧ s.f.guards ≤ s.guardsOf s.main) := by
  obtain ⟨h1, h2⟩ := alts_mem.1 ho
  rw [hm] at h2 ⊢
  unfold St.greedy at h2 ⊢
  rcases fill_pass (s := s) false s.order [] 0 (by simp [St.guardsOf]) h1 h2 with ⟨h3, l1, l2, h4, h5⟩ | h3 | h3
  · refine .inl ⟨h3, fun k hk => ?_⟩
    have hk1 : k ∈ l1 := (h5 k hk).resolve_left (by simp)
    have hs := List.pairwise_mergeSort (le := s.leP) (leP_trans s) (leP_total s) (s.known.filter fun k => (s.pl k).entry)
    change s.order.Pairwise _ at hs
    rw [h4] at hs
    have := (List.pairwise_append.1 hs).2.2 k hk1 o (List.mem_cons_self ..)
    unfold St.leP at this
    exact of_decide_eq_true this
  · cases h3.1
  · exact .inr h3

theorem cmpP_rank {p q : Pl} (h : 0 ≤ cmpP p q) : ¬ (0 < p.rank ∧ (q.rank = 0 ∨ p.rank < q.rank)) := by
  rintro ⟨h1, h2⟩
  unfold cmpP at h
  have e1 : (p.rank == 0) = false := by rw [beq_eq_false_iff_ne]; omega
  rw [e1] at h
  by_cases hq : q.rank = 0
  · have e2 : (q.rank == 0) = true := by rw [hq]; rfl
    rw [e2] at h
    simp [one, orL, cmp] at h
  · have e2 : (q.rank == 0) = false := by rw [beq_eq_false_iff_ne]; exact hq
    rw [e2] at h
    have h3 : p.rank < q.rank := h2.resolve_left hq
    simp [one, orL, cmp, h3] at h

theorem sgn_said (s : St) (x : Nt) (p : Int) : ((s.said x).pl p).sgn = ((s.pl p).sgn || (decide (x.kind = 5) && decide (x.player = p))) := by
  have put : ∀ (s0 : St) (q : Pl), (s0.put x.player q).pl p = if p = x.player then q else s0.pl p := fun _ _ => rfl
  unfold St.said
  dsimp only
  by_cases hp : p = x.player
  · subst hp
    repeat' split
    all_goals (rw [put, if_pos rfl])
    all_goals first
      | (rename_i h _; have h5 : ¬ x.kind = 5 := (by omega); simp [h5]; done)
      | (rename_i h; have h5 : ¬ x.kind = 5 := (by omega); simp [h5]; done)
      | (rename_i h; simp [h]; done)
  · have e : decide (x.player = p) = false := decide_eq_false (fun h => hp h.symm)
    rw [e, Bool.and_false, Bool.or_false]
    repeat' split
    all_goals rw [put, if_neg hp]
theorem sgn_fold (p : Int) : ∀ (r : List Nt) (s : St), ((r.foldl St.take s).pl p).sgn = true ↔ (s.pl p).sgn = true ∨ ∃ x ∈ r, x.kind = 5 ∧ x.player = p
  | [], s => by simp
  | x :: r, s => by
    have e : ((s.take x).pl p).sgn = ((s.said x).pl p).sgn := rfl
    rw [List.foldl_cons, sgn_fold p r, e, sgn_said]
    simp only [Bool.or_eq_true, Bool.and_eq_true, decide_eq_true_eq, List.mem_cons]
    constructor
    · rintro ((h | h) | ⟨y, hy, h⟩)
      · exact .inl h
      · exact .inr ⟨x, .inl rfl, h⟩
      · exact .inr ⟨y, .inr hy, h⟩
    · rintro (h | ⟨y, rfl | hy, h⟩)
      · exact .inl (.inl h)
      · exact .inl (.inr h)
      · exact .inr ⟨y, hy, h⟩
theorem said_guards (s : St) (x : Nt) : (s.said x).f.guards = s.f.guards := by
  unfold St.said
  dsimp only
  repeat' split
  all_goals (first | rfl | (simp only [St.put]; split <;> rfl))
theorem fold_guards : ∀ (r : List Nt) (s : St), (r.foldl St.take s).f.guards = s.f.guards
  | [], _ => rfl
  | x :: r, s => (fold_guards r (s.take x)).trans (said_guards s x)

theorem right {f : Fd} {l d : List Nt} (hd : diffs l = some d) (h : Int) {o : Int} (ho : o ∈ (atL f h d).alts) (hb : ¬ ((entF f h o l).kind = 2 ∧ f.guards ≤ (atL f h d).guardsOf (atL f h d).main)) :
    (h ≤ f.freeze → (atL f h d).f.places ≤ ((atL f h d).main.length : Int) ∧ ∀ k ∈ (atL f h d).main, ¬ (0 < (entF f h o l).rank ∧ ((entF f h k l).rank = 0 ∨ (entF f h o l).rank < (entF f h k l).rank))) ∧
    (f.freeze < h → (∃ x ∈ l, f.freeze < x.hour ∧ x.hour ≤ h) → (∃ x ∈ l, x.kind = 5 ∧ x.player = o ∧ x.hour ≤ h) → (atL f h d).f.places ≤ ((atL f h d).main.length : Int)) := by
  obtain ⟨_, ht, hm⟩ := diffs_spec hd
  have hg : (atL f h d).f.guards = f.guards := fold_guards _ _
  have hgr : ∀ k, ((atL f h d).pl k).grd = decide ((entF f h k l).kind = 2) := fun k => congrArg (fun t => t.2.1) (entered_eq hd f h k)
  have hrk : ∀ k, ((atL f h d).pl k).rank = (entF f h k l).rank := fun k => congrArg (fun t => t.2.2) (entered_eq hd f h k)
  have hnb : ¬ (((atL f h d).pl o).grd = true ∧ (atL f h d).f.guards ≤ (atL f h d).guardsOf (atL f h d).main) := fun hh => hb ⟨by have := hh.1; rw [hgr] at this; exact of_decide_eq_true this, by have := hh.2; rw [hg] at this; exact this⟩
  refine ⟨fun hz => ?_, fun hz ⟨x, hx, hx1, hx2⟩ ⟨y, hy, hy1, hy2, hy3⟩ => ?_⟩
  · have hgreedy : (atL f h d).main = (atL f h d).greedy := fold_greedy f.freeze _ (St.new f) rfl (fun x hx => by have := (List.mem_filter.1 hx).2; simp at this; omega) (greedy_new f)
    rcases right_early hgreedy ho with ⟨h1, h2⟩ | h1
    · refine ⟨h1, fun k hk => ?_⟩
      have := cmpP_rank (h2 k hk)
      rw [hrk, hrk] at this
      exact this
    · exact absurd h1 hnb
  · obtain ⟨r, z, hr⟩ : ∃ r z, d.filter (fun x => decide (x.hour ≤ h)) = r ++ [z] := by
      have hmem : x ∈ d.filter (fun x => decide (x.hour ≤ h)) := List.mem_filter.2 ⟨(hm x).2 hx, by simpa using hx2⟩
      have hne : d.filter (fun x => decide (x.hour ≤ h)) ≠ [] := List.ne_nil_of_mem hmem
      exact ⟨_, _, (List.dropLast_concat_getLast hne).symm⟩
    have hz2 : f.freeze < z.hour := by
      have hmem : x ∈ r ++ [z] := by rw [← hr]; exact List.mem_filter.2 ⟨(hm x).2 hx, by simpa using hx2⟩
      have hs : (r ++ [z]).Pairwise (fun a b => a.hour ≤ b.hour) := by rw [← hr]; exact List.Pairwise.sublist List.filter_sublist (taken_hours ht)
      rcases List.mem_append.1 hmem with h1 | h1
      · have := (List.pairwise_append.1 hs).2.2 x h1 z (by simp)
        omega
      · simp at h1; rw [← h1]; exact hx1
    have hat : atL f h d = (r.foldl St.take (St.new f)).take z := by
      unfold atL
      rw [hr, List.foldl_append]
      rfl
    have hfz := (fold_fd r (St.new f)).2
    have hlate : late (r.foldl St.take (St.new f)).f z.hour = true := by
      unfold late
      rw [hfz]
      exact decide_eq_true hz2
    have hsg : ((atL f h d).pl o).sgn = true := (sgn_fold o _ (St.new f)).2 (.inr ⟨y, List.mem_filter.2 ⟨(hm y).2 hy, by simpa using hy3⟩, hy1, hy2⟩)
    rw [hat] at ho hsg hnb ⊢
    rcases right_late hlate ho hsg with h1 | h1
    · exact h1
    · exact absurd h1 hnb
end E
end Go.Proofs.Ytobjahlmjcnfoaa

namespace Go.Proofs.Ytobjahlmjcnfoaa
namespace E
def sel (g : Int → Bool) : Nat → Nat → List Int → List Int
  | _, _, [] => []
  | P, G, k :: r => if 0 < P ∧ (g k = false ∨ 0 < G) then k :: sel g (P - 1) (if g k then G - 1 else G) r else sel g P G r
def cg (g : Int → Bool) (l : List Int) : Nat := l.countP g
def cu (g : Int → Bool) (l : List Int) : Nat := l.countP (fun k => !g k)
variable {g : Int → Bool}
theorem cg_cons (k : Int) (l : List Int) : cg g (k :: l) = cg g l + if g k then 1 else 0 := by unfold cg; rw [List.countP_cons]
theorem cu_cons (k : Int) (l : List Int) : cu g (k :: l) = cu g l + if g k then 0 else 1 := by
  unfold cu; rw [List.countP_cons]; cases g k <;> rfl
theorem cg_app (l r : List Int) : cg g (l ++ r) = cg g l + cg g r := by unfold cg; rw [List.countP_append]
theorem cu_app (l r : List Int) : cu g (l ++ r) = cu g l + cu g r := by unfold cu; rw [List.countP_append]
theorem cucg (l : List Int) : cu g l + cg g l = l.length := by
  induction l with
  | nil => rfl
  | cons a r ih => rw [cg_cons, cu_cons, List.length_cons]; cases g a <;> simp <;> omega
def crit (g : Int → Bool) (P G : Nat) (B : List Int) (p : Int) : Prop := if g p then cg g B < G ∧ cu g B + cg g B < P else cu g B + min (cg g B) G < P
instance (g : Int → Bool) (P G : Nat) (B : List Int) (p : Int) : Decidable (crit g P G B p) := by unfold crit; infer_instance
theorem sel_sub (P G : Nat) (X : List Int) : (sel g P G X).Sublist X := by
  induction X generalizing P G with
  | nil => exact List.Sublist.refl _
  | cons a r ih =>
    unfold sel
    split
    · exact (ih _ _).cons_cons _
    · exact (ih _ _).cons _
theorem mem_sel : ∀ (B : List Int) (P G : Nat) (p : Int) (R : List Int), (B ++ p :: R).Nodup → (p ∈ sel g P G (B ++ p :: R) ↔ crit g P G B p) := by
  intro B
  induction B with
  | nil =>
    intro P G p R hn
    have hpR : p ∉ R := (List.nodup_cons.1 hn).1
    show p ∈ sel g P G (p :: R) ↔ _
    unfold sel crit
    split
    · rename_i c
      simp only [List.mem_cons, true_or, true_iff]
      split
      · rename_i e; rw [e] at c; simp [cg, cu]; rcases c with ⟨c1, c2 | c2⟩; (cases c2); exact ⟨c2, c1⟩
      · simp [cg, cu]; exact c.1
    · rename_i c
      constructor
      · intro h; exact absurd ((sel_sub P G R).subset h) hpR
      · intro h
        exfalso
        apply c
        split at h
        · simp [cg, cu] at h; exact ⟨h.2, .inr h.1⟩
        · rename_i e; simp [cg, cu] at h; exact ⟨h, .inl (by simpa using e)⟩
  | cons b B ih =>
    intro P G p R hn
    have hn' : (B ++ p :: R).Nodup := (List.nodup_cons.1 hn).2
    have hpb : p ≠ b := fun e => (List.nodup_cons.1 hn).1 (by rw [← e]; simp)
    show p ∈ sel g P G (b :: (B ++ p :: R)) ↔ _
    unfold sel
    split
    · rename_i c
      rw [List.mem_cons, ih _ _ _ _ hn']
      unfold crit
      rw [cg_cons, cu_cons]
      cases hb : g b <;> cases hp : g p <;> simp [hpb] <;> rw [hb] at c <;> simp at c <;> omega
    · rename_i c
      rw [ih _ _ _ _ hn']
      unfold crit
      rw [cg_cons, cu_cons]
      cases hb : g b <;> cases hp : g p <;> rw [hb] at c <;> simp at c ⊢ <;> omega
theorem sel_length (P G : Nat) (X : List Int) : (sel g P G X).length = min P (cu g X + min (cg g X) G) := by
  induction X generalizing P G with
  | nil => simp [sel, cu, cg]
  | cons a r ih =>
    unfold sel
    rw [cg_cons, cu_cons]
    split
    · rename_i c
      rw [List.length_cons, ih]
      cases ha : g a <;> rw [ha] at c <;> simp at c ⊢ <;> omega
    · rename_i c
      rw [ih]
      cases ha : g a <;> rw [ha] at c <;> simp at c ⊢ <;> omega
theorem sel_cg (P G : Nat) (X : List Int) : cg g (sel g P G X) ≤ G := by
  induction X generalizing P G with
  | nil => simp [sel, cg]
  | cons a r ih =>
    unfold sel
    split
    · rename_i c
      rw [cg_cons]
      cases ha : g a <;> rw [ha] at c <;> simp at c ⊢
      · exact ih _ _
      · have := ih (P - 1) (G - 1); omega
    · exact ih _ _
theorem sel_cons (P G : Nat) (k : Int) (r : List Int) : sel g P G (k :: r) = if 0 < P ∧ (g k = false ∨ 0 < G) then k :: sel g (P - 1) (if g k then G - 1 else G) r else sel g P G r := rfl
theorem sel_app (P G : Nat) (B R : List Int) : sel g P G (B ++ R) = sel g P G B ++ sel g (P - (sel g P G B).length) (G - cg g (sel g P G B)) R := by
  induction B generalizing P G with
  | nil => simp [sel, cg]
  | cons a r ih =>
    rw [List.cons_append, sel_cons, sel_cons]
    split
    · rename_i c
      rw [ih, List.length_cons, cg_cons, List.cons_append]
      congr 2
      cases ha : g a <;> rw [ha] at c <;> simp at c ⊢ <;> (congr 1 <;> omega)
    · exact ih _ _

def need (g : Int → Bool) (P G : Nat) (B : List Int) (p : Int) : Nat :=
  if g p then max (cg g B + 1 - G) (cu g B + cg g B + 1 - P) else if P ≤ G then cu g B + cg g B + 1 - P else cu g B + min (cg g B) G + 1 - P
theorem need_zero (P G : Nat) (B : List Int) (p : Int) : need g P G B p = 0 ↔ crit g P G B p := by
  unfold need crit
  cases g p <;> simp
  · split <;> omega
  · omega
theorem need_erase (P G : Nat) (B : List Int) (p k : Int) : need g P G B p ≤ need g P G (B.erase k) p + 1 := by
  by_cases h : k ∈ B
  · have h1 := (List.perm_cons_erase h).countP_eq (fun k => g k)
    have h2 := (List.perm_cons_erase h).countP_eq (fun k => !g k)
    have e1 : cg g B = cg g (B.erase k) + if g k then 1 else 0 := by rw [← cg_cons]; exact h1
    have e2 : cu g B = cu g (B.erase k) + if g k then 0 else 1 := by rw [← cu_cons]; exact h2
    unfold need
    rw [e1, e2]
    cases g p <;> cases g k <;> simp <;> (try split) <;> omega
  · rw [List.erase_of_not_mem h]; omega
theorem two_cut {X : List Int} {B R C S : List Int} {p k : Int} (h1 : X = B ++ p :: R) (h2 : X = C ++ k :: S) (hne : k ≠ p) : k ∈ B ∨ ∃ D, C = B ++ p :: D := by
  by_cases hk : k ∈ B
  · exact .inl hk
  · right
    rw [h1] at h2
    rcases List.append_eq_append_iff.1 h2 with ⟨D, e1, e2⟩ | ⟨D, e1, e2⟩
    · cases D with
      | nil => simp at e2; exact absurd e2.1.symm hne
      | cons d D => simp at e2; obtain ⟨rfl, e2⟩ := e2; exact ⟨D, e1⟩
    · cases D with
      | nil => simp at e2; exact absurd e2.1 hne
      | cons d D =>
        simp at e2
        obtain ⟨rfl, e2⟩ := e2
        exact absurd (by rw [e1]; simp) hk
theorem mem_sel_iff {P G : Nat} {X B R : List Int} {p : Int} (hn : X.Nodup) (h : X = B ++ p :: R) : p ∈ sel g P G X ↔ crit g P G B p := by
  subst h; exact mem_sel B P G p R hn
theorem first_of {q : Int → Bool} {l : List Int} (h : 0 < l.countP q) : ∃ C k S, l = C ++ k :: S ∧ q k = true ∧ C.countP q = 0 := by
  induction l with
  | nil => simp at h
  | cons a r ih =>
    cases ha : q a with
    | true => exact ⟨[], a, r, rfl, ha, rfl⟩
    | false =>
      rw [List.countP_cons_of_neg (by rw [ha]; decide)] at h
      obtain ⟨C, k, S, e, hk, hc⟩ := ih h
      exact ⟨a :: C, k, S, by rw [e]; rfl, hk, by rw [List.countP_cons_of_neg (by rw [ha]; decide)]; exact hc⟩
theorem need_drop {P G : Nat} {X B R : List Int} {p k : Int} (hn : X.Nodup) (h : X = B ++ p :: R) (hp : 0 < need g P G B p) (hg : g p = true → 0 < G) (hk : k ∈ sel g P G X) (ha : g k = g p ∨ ∀ j ∈ sel g P G X, g j ≠ g p) : k ∈ B ∧ need g P G (B.erase k) p + 1 = need g P G B p := by
  have hnc : ¬ crit g P G B p := fun c => by rw [(need_zero P G B p).2 c] at hp; omega
  have hkX := (sel_sub P G X).subset hk
  obtain ⟨C, S, hC⟩ := List.append_of_mem hkX
  have hck := (mem_sel_iff hn hC).1 hk
  have hne : k ≠ p := fun e => hnc ((mem_sel_iff hn h).1 (e ▸ hk))
  have key : ∀ {C : List Int} {z : Int} {D : List Int}, C = B ++ p :: D → crit g P G C z → (if g p then (if g z then cg g B + 1 < G ∧ cu g B + cg g B + 1 < P else cu g B + min (cg g B + 1) G < P) else (if g z then cg g B < G ∧ cu g B + 1 + cg g B < P else cu g B + 1 + min (cg g B) G < P)) := by
    intro C z D e hc
    subst e
    unfold crit at hc
    rw [cg_app, cu_app, cg_cons, cu_cons] at hc
    cases hgp : g p <;> cases hgz : g z <;> rw [hgp, hgz] at hc <;> simp at hc ⊢ <;> omega
  have hsel : ∀ {C S : List Int} {z : Int}, X = C ++ z :: S → crit g P G C z → z ∈ sel g P G X := fun e c => (mem_sel_iff hn e).2 c
  have hpart : ∀ {C S : List Int} {z : Int}, B = C ++ z :: S → X = C ++ z :: (S ++ p :: R) := fun e => by rw [h, e]; simp
  have e12 : k ∈ B → cg g B = cg g (B.erase k) + (if g k then 1 else 0) ∧ cu g B = cu g (B.erase k) + if g k then 0 else 1 := fun hkB => by
    have h1 := (List.perm_cons_erase hkB).countP_eq (fun k => g k)
    have h2 := (List.perm_cons_erase hkB).countP_eq (fun k => !g k)
    exact ⟨by rw [← cg_cons]; exact h1, by rw [← cu_cons]; exact h2⟩
  have hB : k ∈ B → (k ∈ B ∧ ∀ a b, cg g B = a + (if g k then 1 else 0) → cu g B = b + (if g k then 0 else 1) → need g P G (B.erase k) p = (if g p then max (a + 1 - G) (b + a + 1 - P) else if P ≤ G then b + a + 1 - P else b + min a G + 1 - P)) := fun hkB => ⟨hkB, fun a b ea eb => by
    obtain ⟨h1, h2⟩ := e12 hkB
    have : cg g (B.erase k) = a := by omega
    have h3 : cu g (B.erase k) = b := by omega
    unfold need
    rw [this, h3]⟩
  have hin := two_cut h hC hne
  cases hgp : g p with
  | false =>
    have hnc' : P ≤ cu g B + min (cg g B) G := by
      unfold crit at hnc; rw [hgp] at hnc; simp at hnc; exact hnc
    have hkB : k ∈ B := by
      rcases hin with h1 | ⟨D, h1⟩
      · exact h1
      · have := key h1 hck; rw [hgp] at this; cases hgk : g k <;> rw [hgk] at this <;> simp at this <;> omega
    refine ⟨hkB, ?_⟩
    obtain ⟨h1, h2⟩ := e12 hkB
    have hpos := hp
    unfold need at hp ⊢
    rw [hgp] at hp ⊢
    simp only [Bool.false_eq_true, if_false] at hp ⊢
    cases hgk : g k with
    | false => rw [hgk] at h1 h2; simp at h1 h2; rw [h1, h2] at hp ⊢; split <;> rename_i c <;> simp [c] at hp <;> omega
    | true =>
      rw [hgk] at h1 h2; simp at h1 h2
      by_cases c : P ≤ G
      · rw [if_pos c] at hp ⊢; rw [if_pos c]; omega
      · -- one who is not protected would be in
        exfalso
        rw [hgp, hgk] at ha
        rcases ha with h3 | h3
        · cases h3
        · have hu : 0 < B.countP (fun k => !g k) := by show 0 < cu g B; omega
          obtain ⟨C', z, S', e, hz, hc0⟩ := first_of hu
          have hz' : g z = false := by simpa using hz
          refine h3 z (hsel (hpart e) ?_) hz'
          unfold crit
          rw [hz']
          have : cu g C' = 0 := hc0
          simp only [Bool.false_eq_true, if_false, this]
          omega
  | true =>
    have hG := hg hgp
    have hnc' : G ≤ cg g B ∨ P ≤ cu g B + cg g B := by
      unfold crit at hnc; rw [hgp] at hnc; simp at hnc
      by_cases c : cg g B < G
      · exact .inr (hnc c)
      · exact .inl (by omega)
    cases hgk : g k with
    | true =>
      have hkB : k ∈ B := by
        rcases hin with h1 | ⟨D, h1⟩
        · exact h1
        · have := key h1 hck; rw [hgp, hgk] at this; simp at this; omega
      refine ⟨hkB, ?_⟩
      obtain ⟨h1, h2⟩ := e12 hkB
      rw [hgk] at h1 h2; simp at h1 h2
      unfold need at hp ⊢
      rw [hgp] at hp ⊢
      simp only [if_true] at hp ⊢
      omega
    | false =>
      rw [hgp, hgk] at ha
      have h3 : ∀ j ∈ sel g P G X, g j = false := by
        rcases ha with h3 | h3
        · cases h3
        · exact fun j hj => by simpa using h3 j hj
      have huB : P ≤ cu g B := by
        by_cases c0 : 0 < cg g B
        · obtain ⟨C', z, S', e, hz, hc0⟩ := first_of (q := g) c0
          have hcz : cg g C' = 0 := hc0
          have hnz : ¬ crit g P G C' z := fun c => by have := h3 z (hsel (hpart e) c); rw [hz] at this; cases this
          unfold crit at hnz
          rw [hz, hcz] at hnz
          simp at hnz
          have : cu g B = cu g C' + cu g (z :: S') := by rw [e, cu_app]
          have := hnz hG
          omega
        · omega
      have hkB : k ∈ B := by
        rcases hin with h1 | ⟨D, h1⟩
        · exact h1
        · have := key h1 hck; rw [hgp, hgk] at this; simp at this; omega
      refine ⟨hkB, ?_⟩
      obtain ⟨h1, h2⟩ := e12 hkB
      rw [hgk] at h1 h2; simp at h1 h2
      unfold need at hp ⊢
      rw [hgp] at hp ⊢
      simp only [if_true] at hp ⊢
      omega
theorem countP_split (q m : Int → Bool) (l : List Int) : l.countP q = (l.filter m).countP q + (l.filter (fun k => !m k)).countP q := by
  induction l with
  | nil => rfl
  | cons a r ih =>
    rw [List.countP_cons, ih]
    cases ha : m a <;> simp [ha, List.countP_cons] <;> omega
theorem sel_full {P G : Nat} {X : List Int} : (sel g P G X).length ≤ P := by rw [sel_length]; omega
theorem mem_split {X : List Int} {y : Int} (h : y ∈ X) : ∃ B R, X = B ++ y :: R := List.append_of_mem h
theorem erase_append' {B R : List Int} {y k : Int} (hne : k ≠ y) : (B ++ y :: R).erase k = B.erase k ++ y :: (if k ∈ B then R else R.erase k) := by
  by_cases h : k ∈ B
  · rw [List.erase_append_left _ h, if_pos h]
  · rw [List.erase_append_right _ h, List.erase_of_not_mem h, if_neg h, List.erase_cons_tail (by simpa using fun e => hne e.symm)]
theorem countP_erase' (q : Int → Bool) {l : List Int} {k : Int} (h : k ∈ l) : l.countP q = (l.erase k).countP q + if q k then 1 else 0 := by
  rw [(List.perm_cons_erase h).countP_eq, List.countP_cons]
theorem sel_front {P G : Nat} {X S : List Int} {k : Int} (hX : X.Nodup) (hS : S.Nodup) (hSX : ∀ y, y ∈ S ↔ y ∈ sel g P G X) (hk : k ∈ S) (y : Int) :
    y ∈ sel g P G (S.erase k ++ X.filter (fun z => !S.contains z)) ↔ y ∈ sel g P G (X.erase k) := by
  have hsub : ∀ z ∈ S, z ∈ X := fun z hz => (sel_sub P G X).subset ((hSX z).1 hz)
  have hselN : (sel g P G X).Nodup := hX.sublist (sel_sub P G X)
  have hperm : S.Perm (sel g P G X) := (List.perm_ext_iff_of_nodup hS hselN).2 hSX
  have hSP : S.length ≤ P := by rw [hperm.length_eq]; exact sel_full
  have hSG : cg g S ≤ G := by show S.countP g ≤ G; rw [hperm.countP_eq]; exact sel_cg P G X
  have hZ : (S.erase k ++ X.filter (fun z => !S.contains z)).Nodup := by
    rw [List.nodup_append]
    refine ⟨hS.erase k, hX.filter _, fun a ha b hb e => ?_⟩
    have h1 := List.mem_of_mem_erase ha
    have h2 := (List.mem_filter.1 hb).2
    rw [e] at h1
    simp [h1] at h2
  have hXk : (X.erase k).Nodup := hX.erase k
  by_cases hyX : y ∈ X
  · by_cases hyk : y = k
    · subst hyk
      constructor
      · intro h
        exfalso
        rcases List.mem_append.1 ((sel_sub _ _ _).subset h) with h1 | h1
        · exact ((List.Nodup.mem_erase_iff hS).1 h1).1 rfl
        · have := (List.mem_filter.1 h1).2; simp [hk] at this
      · intro h
        exact absurd rfl ((List.Nodup.mem_erase_iff hX).1 ((sel_sub _ _ _).subset h)).1
    · obtain ⟨B, R, hBR⟩ := mem_split hyX
      have hyB : y ∉ B := fun h => by rw [hBR, List.nodup_append] at hX; exact hX.2.2 y h y (by simp) rfl
      have e2 : X.erase k = B.erase k ++ y :: (if k ∈ B then R else R.erase k) := by rw [hBR]; exact erase_append' (fun e => hyk e.symm)
      rw [mem_sel_iff hXk e2]
      by_cases hyS : y ∈ S
      · have h1 : crit g P G (B.erase k) y := by
          have h2 := (mem_sel_iff hX hBR).1 ((hSX y).1 hyS)
          by_cases hkB : k ∈ B
          · have c1 := countP_erase' (fun k => g k) hkB
            have c2 := countP_erase' (fun k => !g k) hkB
            unfold crit at h2 ⊢
            have c1' : cg g B = cg g (B.erase k) + _ := c1
            have c2' : cu g B = cu g (B.erase k) + _ := c2
            rw [c1', c2'] at h2
            cases hgy : g y <;> rw [hgy] at h2 <;> simp at h2 ⊢ <;> omega
          · rw [List.erase_of_not_mem hkB]; exact h2
        simp only [h1, iff_true]
        have hyE : y ∈ S.erase k := (List.Nodup.mem_erase_iff hS).2 ⟨hyk, hyS⟩
        obtain ⟨C, D, hCD⟩ := mem_split hyE
        refine (mem_sel_iff hZ (B := C) (R := D ++ X.filter (fun z => !S.contains z)) (by rw [hCD]; simp)).2 ?_
        have l1 := cucg (g := g) S
        have c1 := countP_erase' (fun k => g k) hk
        have c2 := countP_erase' (fun k => !g k) hk
        have c1' : cg g S = cg g (S.erase k) + _ := c1
        have c2' : cu g S = cu g (S.erase k) + _ := c2
        rw [hCD, cg_app, cg_cons] at c1'
        rw [hCD, cu_app, cu_cons] at c2'
        unfold crit
        cases hgy : g y <;> rw [hgy] at c1' c2' <;> simp at c1' c2' ⊢ <;> omega
      · have e1 : S.erase k ++ X.filter (fun z => !S.contains z) = (S.erase k ++ B.filter (fun z => !S.contains z)) ++ y :: R.filter (fun z => !S.contains z) := by
          rw [hBR, List.filter_append, List.filter_cons_of_pos (by simp [hyS])]; simp
        rw [mem_sel_iff hZ e1]
        have hnc : ¬ crit g P G B y := fun c => hyS ((hSX y).2 ((mem_sel_iff hX hBR).2 c))
        have hsel : ∀ {C D : List Int} {z : Int}, X = C ++ z :: D → (z ∈ S ↔ crit g P G C z) := fun {C D z} e => (hSX z).trans (mem_sel_iff hX e)
      
        have hperm2 : ∀ q : Int → Bool, S.countP q = (B.filter (fun z => S.contains z)).countP q + (R.filter (fun z => S.contains z)).countP q := fun q => by
          have : S.Perm (X.filter (fun z => S.contains z)) := (List.perm_ext_iff_of_nodup hS (hX.filter _)).2 fun z => by
            rw [List.mem_filter]; simp; exact fun h => hsub z h
          rw [this.countP_eq, hBR, List.filter_append, List.filter_cons_of_neg (by simpa using hyS), List.countP_append]
        have hBs : ∀ q : Int → Bool, B.countP q = (B.filter (fun z => S.contains z)).countP q + (B.filter (fun z => !S.contains z)).countP q := fun q => countP_split q _ B
        have hafter : ∀ z ∈ R, z ∈ S → ∃ C D, X = C ++ z :: D ∧ cg g B + (if g y then 1 else 0) ≤ cg g C ∧ cu g B + (if g y then 0 else 1) ≤ cu g C := fun z hzR hzS => by
          obtain ⟨C, D, e⟩ := mem_split hzR
          refine ⟨B ++ y :: C, D, by rw [hBR, e]; simp, ?_, ?_⟩
          · rw [cg_app, cg_cons]; omega
          · rw [cu_app, cu_cons]; omega
        have ck1 := countP_erase' (fun k => g k) hk
        have ck2 := countP_erase' (fun k => !g k) hk
        have ck1' : cg g S = cg g (S.erase k) + _ := ck1
        have ck2' : cu g S = cu g (S.erase k) + _ := ck2
        have p1 : cg g S = _ := hperm2 (fun k => g k)
        have p2 : cu g S = _ := hperm2 (fun k => !g k)
        have b1 : cg g B = _ := hBs (fun k => g k)
        have b2 : cu g B = _ := hBs (fun k => !g k)
        have eB : k ∈ B → cg g B = cg g (B.erase k) + (if g k then 1 else 0) ∧ cu g B = cu g (B.erase k) + (if (!g k) then 1 else 0) := fun h => ⟨countP_erase' (fun k => g k) h, countP_erase' (fun k => !g k) h⟩
        have kin : k ∈ B ∨ k ∈ R := by
          have := hsub k hk
          rw [hBR] at this
          rcases List.mem_append.1 this with h | h
          · exact .inl h
          · rcases List.mem_cons.1 h with h | h
            · exact absurd h.symm hyk
            · exact .inr h
        by_cases hA : P ≤ cu g B + min (cg g B) G
        · -- nobody behind it is in
          have hR0 : R.filter (fun z => S.contains z) = [] := by
            rw [List.filter_eq_nil_iff]
            intro z hzR hzS
            have hzS' : z ∈ S := by simpa using hzS
            obtain ⟨C, D, e, g1, g2⟩ := hafter z hzR hzS'
            have := (hsel e).1 hzS'
            unfold crit at this
            cases hgz : g z <;> rw [hgz] at this <;> simp at this <;> omega
          have hkB : k ∈ B := by
            rcases kin with h | h
            · exact h
            · exfalso
              have : k ∈ R.filter (fun z => S.contains z) := List.mem_filter.2 ⟨h, by simpa using hk⟩
              rw [hR0] at this; cases this
          obtain ⟨eb1, eb2⟩ := eB hkB
          rw [hR0] at p1 p2
          simp only [List.countP_nil, Nat.add_zero] at p1 p2
          have q1 : cg g (S.erase k ++ B.filter (fun z => !S.contains z)) = cg g (B.erase k) := by
            rw [cg_app]
            show _ + (B.filter (fun z => !S.contains z)).countP (fun k => g k) = _
            omega
          have q2 : cu g (S.erase k ++ B.filter (fun z => !S.contains z)) = cu g (B.erase k) := by
            rw [cu_app]
            show _ + (B.filter (fun z => !S.contains z)).countP (fun k => !g k) = _
            omega
          unfold crit
          rw [q1, q2]
        · -- it is protected, and there is no room for such ones
          have hgy : g y = true := by
            cases e : g y with
            | true => rfl
            | false => exfalso; apply hnc; unfold crit; rw [e]; simp; omega
          have hcB : G ≤ cg g B := by
            unfold crit at hnc; rw [hgy] at hnc; simp at hnc; omega
          have hRg : (R.filter (fun z => S.contains z)).countP (fun k => g k) = 0 := by
            rw [List.countP_eq_zero]
            intro z hz hgz
            obtain ⟨hzR, hzS⟩ := List.mem_filter.1 hz
            have hzS' : z ∈ S := by simpa using hzS
            obtain ⟨C, D, e, g1, g2⟩ := hafter z hzR hzS'
            have := (hsel e).1 hzS'
            unfold crit at this
            rw [hgz] at this
            simp at this
            omega
          have hBu : (B.filter (fun z => !S.contains z)).countP (fun k => !g k) = 0 := by
            rw [List.countP_eq_zero]
            intro z hz hgz
            obtain ⟨hzB, hzS⟩ := List.mem_filter.1 hz
            have hgz' : g z = false := by simpa using hgz
            obtain ⟨C, D, e⟩ := mem_split hzB
            have : z ∈ S := (hsel (show X = C ++ z :: (D ++ y :: R) by rw [hBR, e]; simp)).2 (by
              unfold crit
              rw [hgz']
              simp only [Bool.false_eq_true, if_false]
              have h1 : cg g B = cg g C + cg g (z :: D) := by rw [e, cg_app]
              have h2 : cu g B = cu g C + cu g (z :: D) := by rw [e, cu_app]
              rw [cu_cons, hgz'] at h2
              simp at h2
              omega)
            simp [this] at hzS
          rw [hRg] at p1
          rw [hBu] at b2
          have q1 : cg g (S.erase k ++ B.filter (fun z => !S.contains z)) + (if g k then 1 else 0) = cg g B := by
            rw [cg_app]
            show _ + (B.filter (fun z => !S.contains z)).countP (fun k => g k) + _ = _
            omega
          have q2 : cu g (S.erase k ++ B.filter (fun z => !S.contains z)) = cu g (S.erase k) := by
            rw [cu_app]
            show _ + (B.filter (fun z => !S.contains z)).countP (fun k => !g k) = _
            omega
          unfold crit
          rw [hgy, q2]
          simp only [if_true]
          cases hgk : g k with
          | false =>
            rw [hgk] at q1
            have q3 : cg g (B.erase k) = cg g B := by
              by_cases hkB : k ∈ B
              · have := (eB hkB).1; rw [hgk] at this; simp at this; exact this.symm
              · rw [List.erase_of_not_mem hkB]
            rw [if_neg (by decide), Nat.add_zero] at q1
            rw [q1, q3]
            constructor <;> (intro h; omega)
          | true =>
            have hkB : k ∈ B := by
              rcases kin with h | h
              · exact h
              · exfalso
                have h1 : k ∈ R.filter (fun z => S.contains z) := List.mem_filter.2 ⟨h, by simpa using hk⟩
                have := List.countP_eq_zero.1 hRg k h1
                exact this hgk
            obtain ⟨eb1, eb2⟩ := eB hkB
            rw [hgk] at q1 eb1 eb2 ck1' ck2'
            rw [if_pos rfl] at q1
            simp at eb1 eb2 ck1' ck2'
          
            have hu : cu g S + G ≤ P := by
              have e3 := sel_app (g := g) P G B (y :: R)
              rw [← hBR] at e3
              have l1 := sel_length (g := g) P G B
              have l2 := cucg (g := g) (sel g P G B)
              have l3 := sel_cg (g := g) P G B
              have l4 : cu g (sel g P G B) ≤ cu g B := (sel_sub P G B).countP_le
              have l5 : cg g S = cg g (sel g P G X) := hperm.countP_eq _
              have l6 : cg g (sel g P G X) = cg g (sel g P G B) + cg g (sel g (P - (sel g P G B).length) (G - cg g (sel g P G B)) (y :: R)) := by rw [e3, cg_app]
              have l7 := cucg (g := g) S
              omega
            constructor <;> (intro h; omega)
  · constructor
    · intro h
      exfalso
      rcases List.mem_append.1 ((sel_sub _ _ _).subset h) with h1 | h1
      · exact hyX (hsub y (List.mem_of_mem_erase h1))
      · exact hyX (List.mem_filter.1 h1).1
    · intro h
      exact absurd (List.mem_of_mem_erase ((sel_sub _ _ _).subset h)) hyX

theorem sel_some {P G : Nat} {X B R : List Int} {p : Int} (h : X = B ++ p :: R) (hg : g p = true → 0 < G) (hP : 0 < P) : sel g P G X ≠ [] := by
  intro e
  have hl := sel_length (g := g) P G X
  rw [e, h, cg_app, cu_app, cg_cons, cu_cons] at hl
  cases hp : g p <;> rw [hp] at hl <;> simp at hl
  · omega
  · have := hg hp; omega
end E
end Go.Proofs.Ytobjahlmjcnfoaa

namespace Go.Proofs.Ytobjahlmjcnfoaa
namespace E

theorem fill_nodup {s : St} (lt : Bool) : ∀ (l acc : List Int) (g : Int), (acc ++ l).Nodup → (s.fill lt l acc g).Nodup
  | [], acc, _, h => by simpa [St.fill] using h
  | a :: r, acc, g, h => by
    unfold St.fill
    split
    · exact fill_nodup lt r (acc ++ [a]) _ (by simpa using h)
    · exact fill_nodup lt r acc g (List.Nodup.sublist (List.Sublist.append_left (List.sublist_cons_self a r) acc) h)
theorem fill_grd {s : St} (lt : Bool) : ∀ (l acc : List Int) (g : Int), g = s.guardsOf acc → s.guardsOf acc ≤ s.f.guards → s.guardsOf (s.fill lt l acc g) ≤ s.f.guards
  | [], acc, _, _, h => h
  | a :: r, acc, g, hg, h => by
    unfold St.fill
    split
    · rename_i hc
      refine fill_grd lt r (acc ++ [a]) _ (by rw [guardsOf_app, guardsOf_one, hg]) ?_
      rw [guardsOf_app, guardsOf_one]
      rcases hc.2.2 with h1 | h1
      · have := one_bd (s.pl a).grd; omega
      · rw [h1]; show _ + (0 : Int) ≤ _; omega
    · exact fill_grd lt r acc g hg h
theorem fill_room {s : St} (lt : Bool) : ∀ (l acc : List Int) (g : Int), (acc.length : Int) ≤ s.f.places → ((s.fill lt l acc g).length : Int) ≤ s.f.places
  | [], acc, _, h => h
  | a :: r, acc, g, h => by
    unfold St.fill
    split
    · rename_i hc
      exact fill_room lt r (acc ++ [a]) _ (by rw [List.length_append, List.length_singleton]; push_cast; omega)
    · exact fill_room lt r acc g h
theorem guardsOf_filter (s : St) (p : Int → Bool) : ∀ (l : List Int), s.guardsOf (l.filter p) ≤ s.guardsOf l
  | [] => Int.le_refl _
  | a :: r => by
    have ih := guardsOf_filter s p r
    have h1 := one_bd (s.pl a).grd
    have e : s.guardsOf (a :: r) = one (s.pl a).grd + s.guardsOf r := by simp [St.guardsOf]
    by_cases h : p a = true
    · rw [List.filter_cons_of_pos h]
      have e2 : s.guardsOf (a :: r.filter p) = one (s.pl a).grd + s.guardsOf (r.filter p) := by simp [St.guardsOf]
      omega
    · rw [List.filter_cons_of_neg h]; omega
theorem guardsOf_congr {s u : St} : ∀ (l : List Int), (∀ k ∈ l, (u.pl k).grd = (s.pl k).grd) → u.guardsOf l = s.guardsOf l := by
  intro l h
  unfold St.guardsOf
  congr 1
  exact List.map_congr_left (fun k hk => by rw [h k hk])

structure Plc (s : St) : Prop where
  room : (s.main.length : Int) ≤ s.f.places
  wilds : (s.cards.length : Int) ≤ s.f.wilds
  mnd : s.main.Nodup
  cnd : s.cards.Nodup
  cards : CardsOk s
  ment : ∀ k ∈ s.main, (s.pl k).entry = true
  guards : s.guardsOf s.main ≤ s.f.guards
  g0 : 0 ≤ s.f.guards
  cf : s.f.close ≤ s.f.freeze

theorem said_wilds (s : St) (x : Nt) : (s.said x).f.wilds = s.f.wilds := by
  unfold St.said
  dsimp only
  repeat' split
  all_goals (first | rfl | (simp only [St.put]; split <;> rfl))
theorem said_main (s : St) (x : Nt) : (s.said x).main = s.main := by
  unfold St.said
  dsimp only
  repeat' split
  all_goals rfl
theorem said_places (s : St) (x : Nt) : s.f.places ≤ (s.said x).f.places := by
  unfold St.said
  dsimp only
  repeat' split
  all_goals first
    | exact Int.le_refl _
    | (show _ ≤ s.f.places + 1; omega)
theorem said_cards {s : St} (h : CardsOk s) (x : Nt) (hn : s.cards.Nodup) (hl : (s.cards.length : Int) ≤ s.f.wilds) : (s.said x).cards.Nodup ∧ ((s.said x).cards.length : Int) ≤ s.f.wilds := by
  unfold St.said
  dsimp only
  repeat' split
  all_goals first
    | exact ⟨hn, hl⟩
    | (rename_i hc
       refine ⟨?_, ?_⟩
       · show (s.cards ++ [x.player]).Nodup
         rw [List.nodup_append]
         refine ⟨hn, by simp, fun a ha b hb e => ?_⟩
         simp only [List.mem_singleton] at hb
         rw [e, hb] at ha
         have := ((h x.player).1 ha).1
         rw [hc.2.1] at this; cases this
       · show (((s.cards ++ [x.player]).length : Nat) : Int) ≤ _
         rw [List.length_append, List.length_singleton]; push_cast; have := hc.2.2.2; omega)
    | exact ⟨List.Nodup.sublist List.filter_sublist hn, Int.le_trans (by show (((s.cards.filter _).length : Nat) : Int) ≤ _; exact Int.ofNat_le.2 (List.length_filter_le _ _)) hl⟩

theorem plc_new {f : Fd} (h : validField f = true) : Plc (St.new f) := by
  have := valid_places h
  unfold validField at h
  simp only [Bool.and_eq_true] at h
  unfold within at h
  simp only [Bool.and_eq_true, decide_eq_true_eq] at h
  refine ⟨?_, ?_, List.nodup_nil, List.nodup_nil, cards_new f, (fun k hk => by cases hk), ?_, ?_, ?_⟩
  · show ((0 : Nat) : Int) ≤ f.places; omega
  · show ((0 : Nat) : Int) ≤ f.wilds; omega
  · show (0 : Int) ≤ f.guards; omega
  · show (0 : Int) ≤ f.guards; omega
  · show f.close ≤ f.freeze; omega
theorem plc_take {s : St} (hs : StOk s) (hT : 0 ≤ s.turns) (h : Plc s) (x : Nt) (hx : 0 ≤ x.player ∧ x.player ≤ 999) : Plc (s.take x) := by
  have hu := said_ok hs x hx hT
  have hm := said_main s x
  have hp := said_places s x
  have hg := said_guards s x
  have hw := said_wilds s x
  have hc := said_cards h.cards x h.cnd h.wilds
  have hce := said_fd s x
  have hfe := said_freeze s x
  have hment := main_entry s x
  have hlate : late s.f x.hour = true → ∀ k, ((s.said x).pl k).grd = (s.pl k).grd := fun hl k => by
    have h1 : s.f.freeze < x.hour := of_decide_eq_true hl
    have h2 := h.cf
    exact (said_lateS s x (by omega)).grd k
  obtain ⟨lt, hlt⟩ : ∃ b, late s.f x.hour = b := ⟨_, rfl⟩
  have et : s.take x = (s.said x).settle lt := by rw [← hlt]; rfl
  have hgr : (s.said x).guardsOf ((s.said x).main.filter (fun k => lt && ((s.said x).pl k).entry)) ≤ (s.said x).f.guards := by
    cases lt with
    | false =>
      have e : (s.said x).main.filter (fun k => false && ((s.said x).pl k).entry) = [] := by simp
      rw [e, hg]; exact h.g0
    | true =>
      refine Int.le_trans (guardsOf_filter _ _ _) ?_
      rw [hm, hg, guardsOf_congr (s := s) (u := s.said x) s.main (fun k _ => hlate hlt k)]
      exact h.guards
  rw [et] at hment ⊢
  refine ⟨?_, ?_, ?_, hc.1, (cards_take h.cards x), hment, ?_, ?_, ?_⟩
  · show ((St.fill (s.said x) lt _ _ _).length : Int) ≤ (s.said x).f.places
    refine fill_room lt _ _ _ (Int.le_trans (Int.ofNat_le.2 (List.length_filter_le _ _)) ?_)
    rw [hm]
    exact Int.le_trans h.room hp
  · show ((s.said x).cards.length : Int) ≤ (s.said x).f.wilds
    rw [hw]; exact hc.2
  · show (St.fill (s.said x) lt _ _ _).Nodup
    refine fill_nodup lt _ _ _ ?_
    rw [List.nodup_append]
    refine ⟨List.Nodup.sublist List.filter_sublist (by rw [hm]; exact h.mnd), List.Nodup.sublist List.filter_sublist (order_nodup (s := { s.said x with main := (s.said x).main.filter (fun k => lt && ((s.said x).pl k).entry) }) ⟨hu.1.known, hu.1.range, hu.1.zero, hu.1.turn, hu.1.apart, fun k hk => hu.1.main k (List.mem_filter.1 hk).1, hu.1.cards⟩), fun a ha b hb e => ?_⟩
    have := (alts_mem.1 hb).2
    rw [e] at ha
    exact this ha
  · exact fill_grd lt _ _ _ rfl hgr
  · show 0 ≤ (s.said x).f.guards
    rw [hg]; exact h.g0
  · show (s.said x).f.close ≤ (s.said x).f.freeze
    rw [hce, hfe]; exact h.cf
theorem plc_fold : ∀ (r : List Nt) (s : St), StOk s → 0 ≤ s.turns → Plc s → (∀ x ∈ r, 0 ≤ x.player ∧ x.player ≤ 999) → Plc (r.foldl St.take s)
  | [], _, _, _, h, _ => h
  | x :: r, s, hs, hT, h, hp => by
    have hx := hp x (List.mem_cons_self ..)
    have h1 := E.take_ok hs x hx hT
    exact plc_fold r (s.take x) h1.1 h1.2 (plc_take hs hT h x hx) (fun y hy => hp y (List.mem_cons_of_mem _ hy))

theorem quit_said (s : St) (x : Nt) (p : Int) : ((s.said x).pl p).quit = ((s.pl p).quit || (decide (x.kind = 4) && decide (x.player = p))) := by
  have put : ∀ (s0 : St) (q : Pl), (s0.put x.player q).pl p = if p = x.player then q else s0.pl p := fun _ _ => rfl
  unfold St.said
  dsimp only
  by_cases hp : p = x.player
  · subst hp
    repeat' split
    all_goals (rw [put, if_pos rfl])
    all_goals first
      | (rename_i h _; have h5 : ¬ x.kind = 4 := (by omega); simp [h5]; done)
      | (rename_i h; have h5 : ¬ x.kind = 4 := (by omega); simp [h5]; done)
      | (rename_i h; simp [h]; done)
      | (rename_i h _; simp [h]; done)
  · have e : decide (x.player = p) = false := decide_eq_false (fun h => hp h.symm)
    rw [e, Bool.and_false, Bool.or_false]
    repeat' split
    all_goals rw [put, if_neg hp]
theorem quit_fold (p : Int) : ∀ (r : List Nt) (s : St), ((r.foldl St.take s).pl p).quit = true ↔ (s.pl p).quit = true ∨ ∃ x ∈ r, x.kind = 4 ∧ x.player = p
  | [], s => by simp
  | x :: r, s => by
    have e : ((s.take x).pl p).quit = ((s.said x).pl p).quit := rfl
    rw [List.foldl_cons, quit_fold p r, e, quit_said]
    simp only [Bool.or_eq_true, Bool.and_eq_true, decide_eq_true_eq, List.mem_cons]
    constructor
    · rintro ((h | h) | ⟨y, hy, h⟩)
      · exact .inl h
      · exact .inr ⟨x, .inl rfl, h⟩
      · exact .inr ⟨y, .inr hy, h⟩
    · rintro (h | ⟨y, rfl | hy, h⟩)
      · exact .inl (.inl h)
      · exact .inl (.inr h)
      · exact .inr ⟨y, hy, h⟩

theorem late_count {s : St} (h : CardsOk s) (hn : s.cards.Nodup) (x : Nt) (hl : late s.f x.hour = true) : (s.take x).f.places + ((s.take x).cards.length : Int) = s.f.places + (s.cards.length : Int) ∧ (s.take x).cards.Sublist s.cards := by
  show (s.said x).f.places + ((s.said x).cards.length : Int) = _ ∧ (s.said x).cards.Sublist s.cards
  unfold St.said
  dsimp only
  rw [hl]
  by_cases k12 : x.kind = 1 ∨ x.kind = 2
  · rw [if_pos k12]
    split
    · exact ⟨rfl, List.Sublist.refl _⟩
    · exact ⟨rfl, List.Sublist.refl _⟩
  · rw [if_neg k12]
    by_cases k3 : x.kind = 3
    · rw [if_pos k3, if_neg (fun hh => by cases hh.1)]
      exact ⟨rfl, List.Sublist.refl _⟩
    · rw [if_neg k3]
      by_cases k4 : x.kind = 4
      · rw [if_pos k4]
        refine ⟨?_, List.filter_sublist⟩
        by_cases hc : x.player ∈ s.cards
        · have h1 := (h x.player).1 hc
          rw [if_pos ⟨rfl, h1⟩]
          show s.f.places + 1 + ((s.cards.filter (fun k => k != x.player)).length : Int) = _
          have e : s.cards.filter (fun k => k != x.player) = s.cards.erase x.player := (List.Nodup.erase_eq_filter hn x.player).symm
          rw [e, List.length_erase_of_mem hc]
          have := List.length_pos_of_mem hc
          omega
        · have h1 : ¬ (True ∧ (s.pl x.player).card = true ∧ (s.pl x.player).quit = false) := fun hh => hc ((h x.player).2 hh.2)
          rw [if_neg (fun hh => h1 ⟨trivial, hh.2⟩)]
          show s.f.places + ((s.cards.filter (fun k => k != x.player)).length : Int) = _
          rw [List.filter_eq_self.2 (fun k hk => by simp only [bne_iff_ne, ne_eq]; exact fun e => hc (e ▸ hk))]
      · rw [if_neg k4]
        split
        · exact ⟨rfl, List.Sublist.refl _⟩
        · exact ⟨rfl, List.Sublist.refl _⟩
theorem late_fold (z : Int) : ∀ (r : List Nt) (s : St), StOk s → 0 ≤ s.turns → Plc s → (∀ x ∈ r, 0 ≤ x.player ∧ x.player ≤ 999) → s.f.freeze = z → (∀ x ∈ r, z < x.hour) → (r.foldl St.take s).f.places + ((r.foldl St.take s).cards.length : Int) = s.f.places + (s.cards.length : Int) ∧ (r.foldl St.take s).cards.Sublist s.cards
  | [], _, _, _, _, _, _, _ => ⟨rfl, List.Sublist.refl _⟩
  | x :: r, s, hs, hT, h, hp, hz, hr => by
    have hx := hp x (List.mem_cons_self ..)
    have h1 := E.take_ok hs x hx hT
    have hl : late s.f x.hour = true := by unfold late; rw [hz]; exact decide_eq_true (hr x (List.mem_cons_self ..))
    obtain ⟨h2, h3⟩ := late_count h.cards h.cnd x hl
    obtain ⟨h4, h5⟩ := late_fold z r (s.take x) h1.1 h1.2 (plc_take hs hT h x hx) (fun y hy => hp y (List.mem_cons_of_mem _ hy)) ((said_freeze s x).trans hz) (fun y hy => hr y (List.mem_cons_of_mem _ hy))
    exact ⟨h4.trans h2, h5.trans h3⟩
theorem early_places (s : St) (x : Nt) (hl : late s.f x.hour = false) : (s.take x).f.places = s.f.places := by
  show (s.said x).f.places = _
  unfold St.said
  dsimp only
  rw [hl]
  repeat' split
  all_goals first
    | rfl
    | (rename_i hh; cases hh.1)
theorem early_fold (z : Int) : ∀ (r : List Nt) (s : St), s.f.freeze = z → (∀ x ∈ r, x.hour ≤ z) → (r.foldl St.take s).f.places = s.f.places
  | [], _, _, _ => rfl
  | x :: r, s, hz, hr => by
    have hl : late s.f x.hour = false := by unfold late; rw [hz]; have := hr x (List.mem_cons_self ..); exact decide_eq_false (by omega)
    exact (early_fold z r (s.take x) ((said_freeze s x).trans hz) (fun y hy => hr y (List.mem_cons_of_mem _ hy))).trans (early_places s x hl)

theorem sub_count : ∀ {a b : List Int}, a.Sublist b → b.Nodup → ((b.filter (fun k => !a.contains k)).length : Int) = (b.length : Int) - (a.length : Int) := by
  intro a b h hn
  have h1 : (b.filter (fun k => a.contains k)) = a := by
    induction h with
    | slnil => rfl
    | @cons l1 l2 c h ih =>
      have hc := List.nodup_cons.1 hn
      rw [List.filter_cons_of_neg (by simp only [List.contains_eq_mem, decide_eq_true_eq]; exact fun e => hc.1 (h.subset e)), ih hc.2]
    | @cons_cons l1 l2 c h ih =>
      have hc := List.nodup_cons.1 hn
      rw [List.filter_cons_of_pos (by simp)]
      congr 1
      refine Eq.trans (List.filter_congr (fun k hk => ?_)) (ih hc.2)
      have : k ≠ c := fun e => hc.1 (e ▸ hk)
      simp [this]
  have h2 := List.length_eq_countP_add_countP (fun k => a.contains k) (l := b)
  rw [List.countP_eq_length_filter, List.countP_eq_length_filter, h1] at h2
  have e : (b.filter (fun k => !a.contains k)) = (b.filter (fun k => decide (¬ (a.contains k = true)))) := List.filter_congr (fun k _ => by cases a.contains k <;> rfl)
  rw [e]
  omega

theorem idx_at {l : List Int} (hn : l.Nodup) {i : Nat} {k : Int} (h : l[i]? = some k) : idx l k = (i : Int) := by
  unfold idx
  have hi := (List.getElem?_eq_some_iff.1 h).1
  have : l.findIdx? (· == k) = some i := by
    rw [List.findIdx?_eq_some_iff_getElem]
    refine ⟨hi, by have := (List.getElem?_eq_some_iff.1 h).2; simp [this], fun j hj => ?_⟩
    simp only [beq_iff_eq]
    intro e
    have h2 := (List.getElem?_eq_some_iff.1 h).2
    exact List.pairwise_iff_getElem.1 hn j i (by omega) hi hj (e.trans h2.symm)
  rw [this]
theorem idx_no {l : List Int} {k : Int} (h : k ∉ l) : idx l k = -1 := by
  unfold idx
  have : l.findIdx? (· == k) = none := by
    rw [List.findIdx?_eq_none_iff]
    intro y hy
    simp only [beq_eq_false_iff_ne, ne_eq]
    exact fun e => h (e ▸ hy)
  rw [this]

structure PlcAt (f : Fd) (h : Int) (l d : List Nt) (i : Nat) (k : Int) (S : St) : Prop where
  stand : S.where_ k = if i < S.main.length then (1, (i : Int) + 1) else if i < S.main.length + S.cards.length then (2, (i : Int) + 1 - S.main.length) else (3, (i : Int) + 1 - S.main.length - S.cards.length)
  quit : ∀ x ∈ l, ¬ (x.player = k ∧ x.kind = 4 ∧ x.hour ≤ h)
  ent : (i < S.main.length ∨ S.main.length + S.cards.length ≤ i) → (entF f h k l).hour ≤ 9999

theorem places {f : Fd} {l d : List Nt} (hd : diffs l = some d) (hv : validField f = true) (h : Int) (S : St) (hS : atL f h d = S) :
    (S.main.length : Int) ≤ S.f.places ∧ (S.cards.length : Int) ≤ f.wilds ∧ (S.main ++ S.cards ++ S.alts).Nodup ∧ (∀ (i : Nat) (k : Int), (S.main ++ S.cards ++ S.alts)[i]? = some k → PlcAt f h l d i k S) ∧
    S.guardsOf S.main ≤ f.guards ∧ (h ≤ f.freeze → S.f.places = f.places) ∧ (f.freeze < h → S.f.places = f.places + (((atL f f.freeze d).cards.filter (fun k => !S.cards.contains k)).length : Int)) := by
  obtain ⟨_, ht, hm⟩ := diffs_spec hd
  have hp : ∀ x ∈ d, 0 ≤ x.player ∧ x.player ≤ 999 := fun x hx => valid_player (ht.valid x hx)
  have hs := taken_hours ht
  have hpl : ∀ u, Plc (atL f u d) := fun u => plc_fold _ _ (new_ok f) (Int.le_refl _) (plc_new hv) (fun x hx => hp x (List.mem_filter.1 hx).1)
  have hok : ∀ u, StOk (atL f u d) ∧ 0 ≤ (atL f u d).turns := fun u => atL_ok f u hp
  have hfw : ∀ u, (atL f u d).f.wilds = f.wilds := fun u => by
    have : ∀ (r : List Nt) (s : St), (r.foldl St.take s).f.wilds = s.f.wilds := by
      intro r
      induction r with
      | nil => intro s; rfl
      | cons x r ih => intro s; exact (ih (s.take x)).trans (said_wilds s x)
    exact this _ _
  have hfg : ∀ u, (atL f u d).f.guards = f.guards := fun u => fold_guards _ _
  have P := hpl h
  have O := hok h
  have hent := fun k => entered_eq hd f h k
  have hquit : ∀ k, ((atL f h d).pl k).quit = true ↔ ∃ x ∈ l, x.player = k ∧ x.kind = 4 ∧ x.hour ≤ h := fun k => by
    have := quit_fold k (d.filter (fun x => decide (x.hour ≤ h))) (St.new f)
    change ((atL f h d).pl k).quit = true ↔ _ at this
    rw [this]
    constructor
    · rintro (h1 | ⟨x, hx, h1, h2⟩)
      · cases h1
      · obtain ⟨h3, h4⟩ := List.mem_filter.1 hx
        exact ⟨x, (hm x).1 h3, h2, h1, of_decide_eq_true h4⟩
    · rintro ⟨x, hx, h1, h2, h3⟩
      exact .inr ⟨x, List.mem_filter.2 ⟨(hm x).2 hx, decide_eq_true h3⟩, h2, h1⟩
  have hearly : ∀ u, u ≤ f.freeze → (atL f u d).f.places = f.places := fun u hu => early_fold f.freeze _ (St.new f) rfl (fun x hx => by have := of_decide_eq_true (List.mem_filter.1 hx).2; omega)
  have hlate : f.freeze < h → (atL f h d).f.places + ((atL f h d).cards.length : Int) = (atL f f.freeze d).f.places + ((atL f f.freeze d).cards.length : Int) ∧ (atL f h d).cards.Sublist (atL f f.freeze d).cards := fun hz => by
    have e2 : atL f h d = (d.filter (fun x => decide (f.freeze < x.hour) && decide (x.hour ≤ h))).foldl St.take (atL f f.freeze d) := by
      unfold atL
      rw [filter_split (h1 := f.freeze) (by omega) d hs, List.foldl_append]
    rw [e2]
    exact late_fold f.freeze _ _ (hok f.freeze).1 (hok f.freeze).2 (hpl f.freeze) (fun x hx => hp x (List.mem_filter.1 hx).1) (fold_fd _ _).2 (fun x hx => by have := (List.mem_filter.1 hx).2; simp at this; omega)
  rw [hS] at P O hent hquit hlate
  have hfw' := hfw h
  have hfg' := hfg h
  have hea := hearly h
  rw [hS] at hfw' hfg' hea

  have hment : ∀ k ∈ S.main, (S.pl k).entry = true := P.ment
  have haent : ∀ k ∈ S.alts, (S.pl k).entry = true := fun k hk => (order_mem.1 (alts_mem.1 hk).1).2
  have hcnot : ∀ k, (S.pl k).entry = true → k ∉ S.cards := fun k he hk => by
    have := ((P.cards k).1 hk).1
    unfold Pl.entry at he
    rw [this] at he
    simp at he
  have hnda : S.alts.Nodup := List.Nodup.sublist List.filter_sublist (order_nodup O.1)
  have hnd : (S.main ++ S.cards ++ S.alts).Nodup := by
    rw [List.nodup_append, List.nodup_append]
    refine ⟨⟨P.mnd, P.cnd, fun a ha b hb e => hcnot a (hment a ha) (e ▸ hb)⟩, hnda, fun a ha b hb e => ?_⟩
    subst e
    rcases List.mem_append.1 ha with h1 | h1
    · exact (alts_mem.1 hb).2 h1
    · exact hcnot a (haent a hb) h1
  refine ⟨P.room, by rw [← hfw']; exact P.wilds, hnd, fun i k hik => ?_, by rw [← hfg']; exact P.guards, hea, fun hz => ?_⟩
  · have hquitEnt : (S.pl k).entry = true → (S.pl k).quit = false := fun he => by
      unfold Pl.entry at he
      simp only [Bool.and_eq_true, Bool.not_eq_true'] at he
      exact he.1.2
    have entEnt : (S.pl k).entry = true → (entF f h k l).hour ≤ 9999 := fun he => by
      have h1 := congrArg (fun t => t.1) (hent k)
      have h2 : (tri (S.pl k)).1 = true := entry_ent he
      have h3 : decide ((entF f h k l).hour ≤ 9999) = true := h1.symm.trans h2
      exact of_decide_eq_true h3
    have noquit : (S.pl k).quit = false → ∀ x ∈ l, ¬ (x.player = k ∧ x.kind = 4 ∧ x.hour ≤ h) := fun hq x hx hh => by
      have := (hquit k).2 ⟨x, hx, hh⟩
      rw [hq] at this; cases this
    by_cases c1 : i < S.main.length
    · have hk : S.main[i]? = some k := by rw [List.append_assoc, List.getElem?_append_left c1] at hik; exact hik
      have hmem := List.mem_of_getElem? hk
      have he := hment k hmem
      refine ⟨?_, noquit (hquitEnt he), fun _ => entEnt he⟩
      rw [if_pos c1]
      unfold St.where_
      rw [idx_at P.mnd hk, if_pos (by omega)]
    · by_cases c2 : i < S.main.length + S.cards.length
      · have hk : S.cards[i - S.main.length]? = some k := by
          rw [List.append_assoc, List.getElem?_append_right (by omega), List.getElem?_append_left (by omega)] at hik; exact hik
        have hmem := List.mem_of_getElem? hk
        have hq := ((P.cards k).1 hmem).2
        have hnm : k ∉ S.main := fun hh => hcnot k (hment k hh) hmem
        refine ⟨?_, noquit hq, fun hh => by omega⟩
        rw [if_neg c1, if_pos c2]
        unfold St.where_
        rw [idx_no hnm, if_neg (by decide), idx_at P.cnd hk, if_pos (by omega)]
        congr 1
        omega
      · have hk : S.alts[i - (S.main.length + S.cards.length)]? = some k := by
          rw [List.getElem?_append_right (by rw [List.length_append]; omega), List.length_append] at hik; exact hik
        have hmem := List.mem_of_getElem? hk
        have he := haent k hmem
        have hnm : k ∉ S.main := (alts_mem.1 hmem).2
        have hnc : k ∉ S.cards := hcnot k he
        refine ⟨?_, noquit (hquitEnt he), fun _ => entEnt he⟩
        rw [if_neg c1, if_neg c2]
        unfold St.where_
        rw [idx_no hnm, if_neg (by decide), idx_no hnc, if_neg (by decide), idx_at hnda hk, if_pos (by omega)]
        congr 1
        omega
  · obtain ⟨h1, h2⟩ := hlate hz
    have h3 := hearly f.freeze (Int.le_refl _)
    have h4 := sub_count h2 (hpl f.freeze).cnd
    omega
end E
end Go.Proofs.Ytobjahlmjcnfoaa

namespace Go.Proofs.Ytobjahlmjcnfoaa
namespace E

theorem fill_sel (s : St) (lt : Bool) (P G : Nat) (hP : s.f.places = (P : Int)) (hG : s.f.guards = (G : Int)) : ∀ (l m : List Int) (gc : Nat), s.fill lt l m (gc : Int) = m ++ sel (fun k => (s.pl k).grd) (P - m.length) (G - gc) (l.filter (fun k => (s.pl k).sgn || !lt))
  | [], m, gc => by simp [St.fill, sel]
  | k :: r, m, gc => by
    unfold St.fill
    rw [hP, hG]
    by_cases hq : ((s.pl k).sgn || !lt) = true
    · have hq' : (s.pl k).sgn = true ∨ lt = false := by
        cases h1 : (s.pl k).sgn with
        | true => exact .inl rfl
        | false => rw [h1] at hq; exact .inr (by simpa using hq)
      rw [List.filter_cons_of_pos (p := fun k => (s.pl k).sgn || !lt) (a := k) hq, sel_cons]
      by_cases hc : (m.length : Int) < (P : Int) ∧ ((gc : Int) < (G : Int) ∨ (s.pl k).grd = false)
      · rw [if_pos ⟨hc.1, hq', hc.2⟩, if_pos (by
          refine ⟨by omega, ?_⟩
          rcases hc.2 with h | h
          · exact .inr (by omega)
          · exact .inl h)]
        have e1 : (gc : Int) + one (s.pl k).grd = ((gc + (if (s.pl k).grd then 1 else 0) : Nat) : Int) := by
          cases (s.pl k).grd <;> simp [one]
        rw [e1, fill_sel s lt P G hP hG r (m ++ [k])]
        rw [List.length_append, List.append_assoc]
        congr 1
        show [k] ++ _ = k :: _
        rw [List.singleton_append]
        congr 1
        cases hg : (s.pl k).grd <;> simp <;> congr 1
      · rw [if_neg (fun h => hc ⟨h.1, h.2.2⟩), if_neg (fun h => hc ⟨by omega, by
          rcases h.2 with h1 | h1
          · exact .inr h1
          · exact .inl (by omega)⟩)]
        exact fill_sel s lt P G hP hG r m gc
    · rw [List.filter_cons_of_neg (p := fun k => (s.pl k).sgn || !lt) (a := k) hq, if_neg (fun h => hq (by
        rcases h.2.1 with h1 | h1
        · rw [h1]; rfl
        · rw [h1]; simp))]
      exact fill_sel s lt P G hP hG r m gc

def quitN (h k : Int) : Nt := ⟨0, h, 4, k, 0⟩
theorem quit_late (s : St) (h k : Int) : Late s (s.said (quitN h k)) (quitN h k) := by
  unfold St.said
  dsimp only
  have k12 : ¬ ((quitN h k).kind = 1 ∨ (quitN h k).kind = 2) := by show ¬ ((4 : Int) = 1 ∨ (4 : Int) = 2); decide
  have k3 : ¬ (quitN h k).kind = 3 := by show ¬ (4 : Int) = 3; decide
  have k4 : (quitN h k).kind = 4 := rfl
  rw [if_neg k12, if_neg k3, if_pos k4]
  by_cases hcond : late s.f (quitN h k).hour = true ∧ (s.pl (quitN h k).player).card = true ∧ (s.pl (quitN h k).player).quit = false
  · rw [if_pos hcond]
    exact put_late rfl rfl rfl rfl rfl rfl rfl (by rw [k4]; simp) id rfl rfl rfl (fun h => by rw [hcond.1] at h; cases h)
  · rw [if_neg hcond]
    exact put_late rfl rfl rfl rfl rfl rfl rfl (by rw [k4]; simp) id rfl rfl rfl (fun _ => rfl)
theorem quit_places {s : St} {h k : Int} (he : (s.pl k).entry = true) : (s.said (quitN h k)).f.places = s.f.places := by
  unfold St.said
  dsimp only
  have k12 : ¬ ((quitN h k).kind = 1 ∨ (quitN h k).kind = 2) := by show ¬ ((4 : Int) = 1 ∨ (4 : Int) = 2); decide
  have k3 : ¬ (quitN h k).kind = 3 := by show ¬ (4 : Int) = 3; decide
  have k4 : (quitN h k).kind = 4 := rfl
  rw [if_neg k12, if_neg k3, if_pos k4, if_neg (fun hc => by
    have h1 : (s.pl k).card = true := hc.2.1
    unfold Pl.entry at he
    rw [h1] at he
    simp at he)]
  rfl
structure Tr (h : Int) (s : St) (X : List Int) : Prop where
  ok : StOk s
  turns : 0 ≤ s.turns
  mnd : s.main.Nodup
  ment : ∀ k ∈ s.main, (s.pl k).entry = true
  p0 : 0 ≤ s.f.places
  g0 : 0 ≤ s.f.guards
  nd : X.Nodup
  sel : ∀ y, y ∈ s.main ↔ y ∈ sel (fun k => (s.pl k).grd) s.f.places.toNat s.f.guards.toNat X
  early : late s.f h = false → X = s.order ∧ s.main = s.greedy
  rest : late s.f h = true → s.order.filter (fun k => !s.main.contains k && (s.pl k).sgn) = X.filter (fun k => !s.main.contains k)
theorem greedy_sel {s : St} (hp : 0 ≤ s.f.places) (hg : 0 ≤ s.f.guards) : s.greedy = E.sel (fun k => (s.pl k).grd) s.f.places.toNat s.f.guards.toNat s.order := by
  unfold St.greedy
  have := fill_sel s false s.f.places.toNat s.f.guards.toNat (by omega) (by omega) s.order [] 0
  rw [List.filter_eq_self.2 (fun k _ => by simp)] at this
  simpa using this
theorem guardsOf_cg (s : St) (l : List Int) : s.guardsOf l = ((cg (fun k => (s.pl k).grd) l : Nat) : Int) := by
  induction l with
  | nil => rfl
  | cons a r ih =>
    rw [cg_cons]
    have : s.guardsOf (a :: r) = one (s.pl a).grd + s.guardsOf r := by simp [St.guardsOf]
    rw [this, ih]
    cases (s.pl a).grd <;> simp [one] <;> omega
theorem sel_fit {g : Int → Bool} : ∀ (P G : Nat) (l : List Int), l.length ≤ P → cg g l ≤ G → E.sel g P G l = l
  | _, _, [], _, _ => rfl
  | P, G, k :: r, h1, h2 => by
    rw [sel_cons]
    rw [List.length_cons] at h1
    rw [cg_cons] at h2
    rw [if_pos (by
      refine ⟨by omega, ?_⟩
      cases hk : g k with
      | false => exact .inl rfl
      | true => rw [hk] at h2; simp at h2; exact .inr (by omega))]
    rw [sel_fit (P - 1) _ r (by omega) (by cases hk : g k <;> rw [hk] at h2 <;> simp at h2 ⊢ <;> omega)]
theorem sel_none {g : Int → Bool} : ∀ (P G : Nat) (l : List Int), (∀ k ∈ l, P = 0 ∨ g k = true ∧ G = 0) → E.sel g P G l = []
  | _, _, [], _ => rfl
  | P, G, k :: r, h => by
    have h1 := h k (List.mem_cons_self ..)
    rw [sel_cons, if_neg (by
      rintro ⟨c1, c2⟩
      rcases h1 with h2 | ⟨h2, h3⟩
      · omega
      · rw [h2] at c2; rcases c2 with c2 | c2
        · cases c2
        · omega)]
    exact sel_none P G r (fun j hj => h j (List.mem_cons_of_mem _ hj))
theorem sel_congr {g g' : Int → Bool} (h : ∀ k, g' k = g k) (P G : Nat) (l : List Int) : E.sel g' P G l = E.sel g P G l := by
  have : g' = g := funext h
  rw [this]
theorem Tr.quit {h : Int} {s : St} {X : List Int} (t : Tr h s X) {k : Int} (hk : k ∈ s.main) : Tr h (s.take (quitN h k)) (X.erase k) := by
  have hke := t.ment k hk
  have hkn := t.ok.main k hk
  have hkr := t.ok.range k hkn
  have hL := quit_late s h k
  have hpl := quit_places (h := h) hke
  have hu := said_ok t.ok (quitN h k) hkr t.turns
  have hts := take_ok t.ok (quitN h k) hkr t.turns
  have hkX : k ∈ X := (sel_sub _ _ _).subset ((t.sel k).1 hk)
  have hent : ∀ j ∈ s.order, ((s.said (quitN h k)).pl j).entry = (j != k) := fun j hj => by
    by_cases e : j = k
    · subst e
      have h1 := hL.quit j
      have : ((s.said (quitN h j)).pl j).quit = true := by rw [h1]; simp [quitN]
      unfold Pl.entry
      rw [this]; simp
    · rw [hL.other j e, (order_mem.1 hj).2]; simp [e]
  have hord : (s.said (quitN h k)).order = s.order.erase k := by
    rw [late_order t.ok hu.1 hL, (order_nodup t.ok).erase_eq_filter]
    exact List.filter_congr hent
  have hgrd : ∀ j, ((s.take (quitN h k)).pl j).grd = (s.pl j).grd := fun j => hL.grd j
  have hpl2 : (s.take (quitN h k)).f.places = s.f.places := hpl
  have hgd2 : (s.take (quitN h k)).f.guards = s.f.guards := hL.guards
  have hlt : ∀ z, late (s.take (quitN h k)).f z = late s.f z := fun z => said_late s (quitN h k) z
  have hordT : (s.take (quitN h k)).order = s.order.erase k := hord
  have hselc : ∀ Y, E.sel (fun j => ((s.take (quitN h k)).pl j).grd) (s.take (quitN h k)).f.places.toNat (s.take (quitN h k)).f.guards.toNat Y = E.sel (fun j => (s.pl j).grd) s.f.places.toNat s.f.guards.toNat Y := fun Y => by
    rw [hpl2, hgd2]; exact sel_congr hgrd _ _ _
  cases hl : late s.f h with
  | false =>
    obtain ⟨hX, hm⟩ := t.early hl
    have hgreedy : (s.take (quitN h k)).main = (s.take (quitN h k)).greedy := by
      rw [greedy_take]
      unfold St.take
      rw [show late s.f (quitN h k).hour = false from hl, settle_early]
    have hm2 : (s.take (quitN h k)).main = E.sel (fun j => (s.pl j).grd) s.f.places.toNat s.f.guards.toNat (X.erase k) := by
      rw [hgreedy, greedy_sel (by rw [hpl2]; exact t.p0) (by rw [hgd2]; exact t.g0), hselc, hordT, hX]
    refine ⟨hts.1, hts.2, ?_, main_entry s _, by rw [hpl2]; exact t.p0, by rw [hgd2]; exact t.g0, t.nd.erase k, fun y => by rw [hselc, hm2], fun _ => ⟨by rw [hordT, hX], hgreedy⟩, fun hc => by rw [hlt, hl] at hc; cases hc⟩
    rw [hm2]
    exact (t.nd.erase k).sublist (sel_sub _ _ _)
  | true =>
    have hrest := t.rest hl
  
    have hm1 : s.main.filter (fun j => true && ((s.said (quitN h k)).pl j).entry) = s.main.erase k := by
      rw [t.mnd.erase_eq_filter]
      refine List.filter_congr fun j hj => ?_
      rw [Bool.true_and]
      by_cases e : j = k
      · subst e
        have := hent j (order_mem.2 ⟨hkn, hke⟩)
        rw [this]
      · rw [hL.other j e, t.ment j hj]; simp [e]
    have hW : ((s.order.erase k).filter (fun j => !(s.main.erase k).contains j)).filter (fun j => ((s.said (quitN h k)).pl j).sgn || !true) = X.filter (fun j => !s.main.contains j) := by
      rw [← hrest, (order_nodup t.ok).erase_eq_filter, List.filter_filter, List.filter_filter]
      refine List.filter_congr fun j hj => ?_
      by_cases e : j = k
      · subst e; simp [hk]
      · rw [hL.other j e]
        have e2 : (s.main.erase k).contains j = s.main.contains j := by
          rw [Bool.eq_iff_iff]
          simp only [List.contains_iff_mem]
          rw [List.Nodup.mem_erase_iff t.mnd]
          exact ⟨fun h => h.2, fun h => ⟨e, h⟩⟩
        rw [e2]
        cases (s.pl j).sgn <;> cases s.main.contains j <;> simp [e]
    have hmain : (s.take (quitN h k)).main = (s.said (quitN h k)).fill true ((s.order.erase k).filter (fun j => !(s.main.erase k).contains j)) (s.main.erase k) ((s.said (quitN h k)).guardsOf (s.main.erase k)) := by
      unfold St.take
      rw [show late s.f (quitN h k).hour = true from hl]
      unfold St.settle
      dsimp only
      rw [hL.main, hm1]
      unfold St.alts
      have e3 : ({ (s.said (quitN h k)) with main := s.main.erase k } : St).order = s.order.erase k := hord
      rw [e3]
    have hcg : (s.said (quitN h k)).guardsOf (s.main.erase k) = ((cg (fun j => (s.pl j).grd) (s.main.erase k) : Nat) : Int) := by
      rw [guardsOf_cg]
      have : (fun j => ((s.said (quitN h k)).pl j).grd) = (fun j => (s.pl j).grd) := funext hL.grd
      rw [this]
    have hfull : s.main.length ≤ s.f.places.toNat ∧ cg (fun j => (s.pl j).grd) s.main ≤ s.f.guards.toNat := by
      have hp : s.main.Perm (E.sel (fun k => (s.pl k).grd) s.f.places.toNat s.f.guards.toNat X) := (List.perm_ext_iff_of_nodup t.mnd (t.nd.sublist (sel_sub _ _ _))).2 t.sel
      exact ⟨by rw [hp.length_eq]; exact sel_full, by show s.main.countP _ ≤ _; rw [hp.countP_eq]; exact sel_cg _ _ _⟩
    have hfit : E.sel (fun j => (s.pl j).grd) s.f.places.toNat s.f.guards.toNat (s.main.erase k) = s.main.erase k := by
      refine sel_fit _ _ _ (Nat.le_trans (List.length_erase_le ..) hfull.1) (Nat.le_trans ?_ hfull.2)
      exact (List.erase_sublist).countP_le
    have hmsel : (s.take (quitN h k)).main = E.sel (fun j => (s.pl j).grd) s.f.places.toNat s.f.guards.toNat (s.main.erase k ++ X.filter (fun j => !s.main.contains j)) := by
      rw [hmain, hcg, fill_sel (s.said (quitN h k)) true s.f.places.toNat s.f.guards.toNat (by rw [hpl]; have := t.p0; omega) (by rw [hL.guards]; have := t.g0; omega), hW, sel_app, hfit]
      congr 1
      exact sel_congr hL.grd _ _ _
    have hsel2 : ∀ y, y ∈ (s.take (quitN h k)).main ↔ y ∈ E.sel (fun j => (s.pl j).grd) s.f.places.toNat s.f.guards.toNat (X.erase k) := fun y => by
      rw [hmsel]
      exact sel_front t.nd t.mnd t.sel hk y
    have hsub : ∀ j ∈ s.main, j ≠ k → j ∈ (s.take (quitN h k)).main := fun j hj hne => by
      rw [hmain]
      exact fill_keep _ _ _ _ ((List.Nodup.mem_erase_iff t.mnd).2 ⟨hne, hj⟩)
    have hmnd : (s.take (quitN h k)).main.Nodup := by
      rw [hmsel]
      refine List.Nodup.sublist (sel_sub _ _ _) ?_
      rw [List.nodup_append]
      refine ⟨t.mnd.erase k, t.nd.filter _, fun a ha b hb e => ?_⟩
      have h1 := List.mem_of_mem_erase ha
      have h2 := (List.mem_filter.1 hb).2
      rw [e] at h1
      simp [h1] at h2
    have hknot : k ∉ (s.take (quitN h k)).main := fun hc => by
      have := main_entry s (quitN h k) k hc
      have h1 : ((s.take (quitN h k)).pl k).entry = _ := hent k (order_mem.2 ⟨hkn, hke⟩)
      rw [h1] at this
      simp at this
    refine ⟨hts.1, hts.2, hmnd, main_entry s _, by rw [hpl2]; exact t.p0, by rw [hgd2]; exact t.g0, t.nd.erase k, fun y => (by rw [hselc]; exact hsel2 y), fun hc => (by rw [hlt, hl] at hc; cases hc), fun _ => ?_⟩
    rw [hordT, (order_nodup t.ok).erase_eq_filter, t.nd.erase_eq_filter, List.filter_filter, List.filter_filter]
  
    have e5 : ∀ (L : List Int) (q : Int → Bool), L.filter (fun j => (!(s.take (quitN h k)).main.contains j && q j) && (j != k)) = (L.filter (fun j => !s.main.contains j && q j)).filter (fun j => !(s.take (quitN h k)).main.contains j) := fun L q => by
      rw [List.filter_filter]
      refine List.filter_congr fun j _ => ?_
      by_cases e : j = k
      · subst e; simp [hk]
      · by_cases hjm : j ∈ s.main
        · have := hsub j hjm e
          simp [hjm, this]
        · simp [hjm, e]
    have e6 := e5 s.order (fun j => ((s.take (quitN h k)).pl j).sgn)
    have e7 := e5 X (fun _ => true)
    have e8 : s.order.filter (fun j => !s.main.contains j && ((s.take (quitN h k)).pl j).sgn) = s.order.filter (fun j => !s.main.contains j && (s.pl j).sgn) := by
      refine List.filter_congr fun j _ => ?_
      by_cases e : j = k
      · subst e; simp [hk]
      · have : (s.take (quitN h k)).pl j = s.pl j := hL.other j e
        rw [this]
    rw [e8, hrest] at e6
    simp only [Bool.and_true] at e7
    rw [e6, e7]
end E
end Go.Proofs.Ytobjahlmjcnfoaa

namespace Go.Proofs.Ytobjahlmjcnfoaa
open Go.RowKit
attribute [local go_sem ↓] Go.wp_at_zero Go.wp_at_succ

def E.farB (n : Nat) : Bool := (decide (20 < n) && decide (n ≤ 60)) || decide (100 < n)
theorem Far_any (A : Option Addr) (n c : Nat) (w : World) (hm : n ≤ 1000000) :
    Calls Try.prog 10 #[.slice A n c] w fun e w' => e = .returned (.bool (E.farB n)) ∧ w = w' := by
  by_cases h1 : 20 < n
  · by_cases h2 : n ≤ 60
    · have e : E.farB n = true := by unfold E.farB; rw [decide_eq_true h1, decide_eq_true h2]; rfl
      have i1 : (20 : Int) < (n : Int) := by omega
      have i2 : (n : Int) ≤ 60 := by omega
      rw [e]
      clear h1 h2 e
      go_enter Try.func10, Try.ntmps10
      go_wp2
      go_ret
      exact ⟨rfl, rfl⟩
    · have i1 : (20 : Int) < (n : Int) := by omega
      have i2 : ¬ (n : Int) ≤ 60 := by omega
      by_cases h3 : 100 < n
      · have e : E.farB n = true := by unfold E.farB; rw [decide_eq_true h3]; simp
        have i3 : (100 : Int) < (n : Int) := by omega
        rw [e]
        clear h1 h2 h3 e
        go_enter Try.func10, Try.ntmps10
        go_wp2
        go_ret
        exact ⟨rfl, rfl⟩
      · have e : E.farB n = false := by unfold E.farB; rw [decide_eq_false h3, decide_eq_false h2]; simp
        have i3 : ¬ (100 : Int) < (n : Int) := by omega
        rw [e]
        clear h1 h2 h3 e
        go_enter Try.func10, Try.ntmps10
        go_wp2
        go_ret
        exact ⟨rfl, rfl⟩
  · have e : E.farB n = false := by unfold E.farB; rw [decide_eq_false h1, decide_eq_false (by omega : ¬ 100 < n)]; rfl
    have i1 : ¬ (20 : Int) < (n : Int) := by omega
    have i3 : ¬ (100 : Int) < (n : Int) := by omega
    rw [e]
    clear h1 e
    go_enter Try.func10, Try.ntmps10
    go_wp2
    go_ret
    exact ⟨rfl, rfl⟩
theorem isHour_any (h : Int) (w : World) :
    Calls Try.prog 20 #[.int .i64 h] w fun e w' => e = .returned (.bool (E.within h 0 9999)) ∧ w = w' := by
  by_cases h1 : 0 ≤ h <;> by_cases h2 : h ≤ 9999 <;>
    (go_enter Try.func20, Try.ntmps20
     go_wp2
     go_ret
     exact ⟨by simp [E.within, h1, h2], rfl⟩)
def E.readyB (f : E.Fd) (l : List E.Nt) (n : Nat) : Bool := !E.farB n && (E.checkE f l == 0)
set_option maxHeartbeats 1600000 in
set_option maxRecDepth 100000 in
theorem ready_any (f : E.Fd) (A : Option Addr) (n c : Nat) (l : List E.Nt) (w : World) (hn : l.length = n) (hr : RdN w w.heap.size A l) (hm : n ≤ 1000000) :
    Calls Try.prog 19 #[.agg #[.int .i64 f.places, .int .i64 f.wilds, .int .i64 f.guards, .int .i64 f.close, .int .i64 f.freeze], .slice A n c] w fun e w' => e = .returned (.bool (E.readyB f l n)) ∧ Below w.heap.size w w' := by
  have HN := hide hn
  have HR := hide hr
  have HM := hide hm
  have HF := fun W => hide (Far_any A n c W hm)
  obtain ⟨fb, hfb⟩ : ∃ fb, E.farB n = fb := ⟨_, rfl⟩
  have HFB := hide hfb
  rw [hfb] at HF
  obtain ⟨ce, hce⟩ : ∃ ce, E.checkE f l = ce := ⟨_, rfl⟩
  have HCE := hide hce
  clear hn hr hm hfb hce
  cases fb
  · go_enter Try.func19, Try.ntmps19
    go_wp2_with (first | (go_at_call 10; refine (HF _).out.mono ?_; rintro e w' ⟨rfl, rfl⟩) | (go_at_call 13; refine (refCheck_any f A n c l _ HN.out ((HR.out.below (by (repeat' first | exact zbR _ _ | assumption | refine zbD ?_ | refine zbA ?_ ?_ _ | refine zbS ?_ ?_ _ | refine zbT ?_ (by assumption) ?_ | (simp; done) | (simp; omega) | omega))).mono (by simp)) HM.out).mono ?_; rintro e w2 ⟨rfl, hb2⟩; rw [HCE.out]; have HB2 := hide (zbT (show Below w.heap.size w _ by (repeat' first | exact zbR _ _ | assumption | refine zbD ?_ | refine zbA ?_ ?_ _ | refine zbS ?_ ?_ _ | refine zbT ?_ (by assumption) ?_ | (simp; done) | (simp; omega) | omega)) hb2 (by simp)); clear hb2))
    go_ret
    exact ⟨by unfold E.readyB; rw [HFB.out, HCE.out]; rfl, HB2.out⟩
  · go_enter Try.func19, Try.ntmps19
    go_wp2_with (go_at_call 10; refine (HF _).out.mono ?_; rintro e w' ⟨rfl, rfl⟩)
    go_ret
    exact ⟨by unfold E.readyB; rw [HFB.out]; rfl, by (repeat' first | exact zbR _ _ | assumption | refine zbD ?_ | refine zbA ?_ ?_ _ | refine zbS ?_ ?_ _ | refine zbT ?_ (by assumption) ?_ | (simp; done) | (simp; omega) | omega)⟩

end Go.Proofs.Ytobjahlmjcnfoaa

namespace Go.Proofs.Ytobjahlmjcnfoaa
open Go.RowKit
attribute [local go_sem ↓] Go.wp_at_zero Go.wp_at_succ

end Go.Proofs.Ytobjahlmjcnfoaa

namespace Go.Proofs.Ytobjahlmjcnfoaa
open Go.RowKit
attribute [local go_sem ↓] Go.wp_at_zero Go.wp_at_succ

namespace E
end E
set_option maxHeartbeats 1600000 in
theorem has_any (A : Option Addr) (n c : Nat) (xs : List Int) (y : Int) (w : World) (hn : xs.length = n) (hr : RdI w w.heap.size A xs) (hm : n ≤ 1000000) :
    Calls Try.prog 21 #[.slice A n c, .int .i64 y] w fun e w' => e = .returned (.bool (xs.contains y)) ∧ w = w' := by
  have HN := hide hn
  have HR := hide hr
  obtain ⟨q, hq⟩ : ∃ q, xs.contains y = q := ⟨_, rfl⟩
  rw [hq]
  have HQ := hide hq
  clear hn hr hq
  go_enter Try.func21, Try.ntmps21
  go_wp2_with fail
  go_loop [5] (fun i => ∃ k : Nat, k ≤ n ∧ i = .int .i64 k ∧ Hid (∀ j, j < k → xs[j]? ≠ some y)) (fun i => n - (intOf i).toNat)
  case atStart => exact ⟨0, by omega, rfl, hide (fun j hj => by omega)⟩
  case round =>
    obtain ⟨k, hk, rfl, HZ⟩ := hrel
    by_cases hlt : k < n
    · obtain ⟨x, hx⟩ : ∃ q, xs[k]? = some q := ⟨_, List.getElem?_eq_getElem (by have := HN.out; omega)⟩
      obtain ⟨b, o, hA, hbB, c0⟩ := HR.out k x hx
      subst hA
      have HX := hide hx
      clear hx
      have hlt' : (k : Int) < (n : Int) := by omega
      have hk0 : (0 : Int) ≤ (k : Int) := by omega
      cases h0 : (x == y)
      · have HX0 := hide (show x ≠ y by simpa using h0)
        go_wp2_with fail
        go_round
        case rel => exact ⟨k + 1, by omega, by go_num, hide (fun j hj => by
          rcases Nat.lt_or_ge j k with h | h
          · exact HZ.out j h
          · have : j = k := by omega
            rw [this, HX.out]
            intro e
            exact HX0.out (Option.some.inj e))⟩
        case measure => simp [intOf]; omega
      · have HX0 := hide (show x = y by simpa using h0)
        go_wp2_with fail
        go_ret
        have hq : q = true := HQ.out.symm.trans (by rw [List.contains_eq_mem, decide_eq_true_eq, ← HX0.out]; exact List.mem_of_getElem? HX.out)
        subst hq
        exact ⟨rfl, rfl⟩
    · have hkn : k = n := by omega
      subst hkn
      go_wp2_with fail
      go_ret
      have hq : q = false := HQ.out.symm.trans (by
        rw [List.contains_eq_mem, decide_eq_false_iff_not]
        intro hmem
        obtain ⟨j, hj⟩ := List.mem_iff_getElem?.1 hmem
        exact HZ.out j (by have := (List.getElem?_eq_some_iff.1 hj).1; have := HN.out; omega) hj)
      subst hq
      exact ⟨rfl, rfl⟩

end Go.Proofs.Ytobjahlmjcnfoaa

namespace Go.Proofs.Ytobjahlmjcnfoaa
open Go.RowKit

namespace E
def cntG (f : Fd) (h : Int) (l : List Nt) (xs : List Int) : Int := (xs.map fun k => one (decide ((entF f h k l).kind = 2))).sum
theorem known_said (s : St) (x : Nt) : (s.said x).known.length ≤ s.known.length + 1 := by
  have hp : ∀ k : Int, (if k ∈ s.known then s.known else s.known ++ [k]).length ≤ s.known.length + 1 := fun k => by split <;> simp
  unfold St.said
  dsimp only
  repeat' split
  all_goals exact hp _
end E

end Go.Proofs.Ytobjahlmjcnfoaa

namespace Go.Proofs.Ytobjahlmjcnfoaa
namespace E

def bef (X : List Int) (y : Int) : List Int := X.take (X.findIdx (· == y))
theorem bef_split {X : List Int} {y : Int} (h : y ∈ X) : X = bef X y ++ y :: X.drop (X.findIdx (· == y) + 1) := by
  have hlt : X.findIdx (· == y) < X.length := List.findIdx_lt_length_of_exists ⟨y, h, by simp⟩
  have he := List.findIdx_getElem (w := hlt) (p := (· == y))
  have e1 := List.drop_eq_getElem_cons hlt
  have e2 := List.take_append_drop (X.findIdx (· == y)) X
  rw [e1, beq_iff_eq.1 he] at e2
  exact e2.symm
theorem bef_of {X B R : List Int} {y : Int} (hn : X.Nodup) (h : X = B ++ y :: R) : bef X y = B := by
  have hy : y ∉ B := fun hb => by
    rw [h, List.nodup_append] at hn
    exact hn.2.2 y hb y (by simp) rfl
  unfold bef
  rw [h, List.findIdx_append]
  have h1 : B.findIdx (· == y) = B.length := List.findIdx_eq_length.2 (fun z hz => by
    simp only [beq_eq_false_iff_ne]
    rintro rfl
    exact hy hz)
  rw [h1, if_neg (by omega), List.findIdx_cons]
  simp
def needX (h : Int) (s : St) (X : List Int) (y : Int) : Option Nat :=
  if y ∈ X ∧ ((s.pl y).grd = true → 0 < s.f.guards.toNat) then some (need (fun k => (s.pl k).grd) s.f.places.toNat s.f.guards.toNat (bef X y) y) else none
theorem needX_zero {h : Int} {s : St} {X : List Int} (t : Tr h s X) (y : Int) : needX h s X y = some 0 ↔ y ∈ s.main := by
  unfold needX
  constructor
  · intro hh
    split at hh
    · rename_i c
      have h0 := (need_zero _ _ _ _).1 (Option.some.inj hh)
      exact (t.sel y).2 ((mem_sel_iff t.nd (bef_split c.1)).2 h0)
    · cases hh
  · intro hm
    have hs := (t.sel y).1 hm
    have hX := (sel_sub _ _ _).subset hs
    have hc := (mem_sel_iff t.nd (bef_split hX)).1 hs
    have hg : (s.pl y).grd = true → 0 < s.f.guards.toNat := fun hg => by
      unfold crit at hc
      rw [if_pos (show (fun k => (s.pl k).grd) y = true from hg)] at hc
      omega
    rw [if_pos ⟨hX, hg⟩, (need_zero _ _ _ _).2 hc]
theorem erase_bef {X : List Int} {y k : Int} (hn : X.Nodup) (hy : y ∈ X) (hne : k ≠ y) : bef (X.erase k) y = (bef X y).erase k := by
  have e := bef_split hy
  have hn' : (X.erase k).Nodup := hn.erase k
  refine bef_of hn' (R := if k ∈ bef X y then X.drop (X.findIdx (· == y) + 1) else (X.drop (X.findIdx (· == y) + 1)).erase k) ?_
  conv => lhs; rw [e]
  exact erase_append' hne
theorem quit_kept {h k : Int} {s : St} (he : (s.pl k).entry = true) : (s.take (quitN h k)).f.places = s.f.places ∧ (s.take (quitN h k)).f.guards = s.f.guards ∧ ∀ j, ((s.take (quitN h k)).pl j).grd = (s.pl j).grd :=
  ⟨quit_places he, (quit_late s h k).guards, fun j => (quit_late s h k).grd j⟩
theorem needX_quit {h : Int} {s : St} {X : List Int} (t : Tr h s X) {k y : Int} (hk : k ∈ s.main) (hy : y ∉ s.main) : needX h (s.take (quitN h k)) (X.erase k) y = (if y ∈ X ∧ ((s.pl y).grd = true → 0 < s.f.guards.toNat) then some (need (fun k => (s.pl k).grd) s.f.places.toNat s.f.guards.toNat ((bef X y).erase k) y) else none) := by
  obtain ⟨q1, q2, q3⟩ := quit_kept (h := h) (t.ment k hk)
  have hne : k ≠ y := fun e => hy (e ▸ hk)
  unfold needX
  rw [q1, q2, q3]
  have e1 : (fun j => ((s.take (quitN h k)).pl j).grd) = (fun j => (s.pl j).grd) := funext q3
  rw [e1]
  have e2 : y ∈ X.erase k ↔ y ∈ X := by
    rw [List.Nodup.mem_erase_iff t.nd]
    exact ⟨fun h => h.2, fun h => ⟨fun e => hne e.symm, h⟩⟩
  by_cases c : y ∈ X ∧ ((s.pl y).grd = true → 0 < s.f.guards.toNat)
  · rw [if_pos c, if_pos ⟨e2.2 c.1, c.2⟩, erase_bef t.nd c.1 hne]
  · rw [if_neg c, if_neg (fun h => c ⟨e2.1 h.1, h.2⟩)]
theorem needX_less {h : Int} {s : St} {X : List Int} (t : Tr h s X) {k y : Int} (hk : k ∈ s.main) (hy : y ∉ s.main) {n : Nat} (hn : needX h s X y = some n) : ∃ m, needX h (s.take (quitN h k)) (X.erase k) y = some m ∧ n ≤ m + 1 := by
  rw [needX_quit t hk hy]
  unfold needX at hn
  split at hn
  · rename_i c
    rw [if_pos c]
    refine ⟨_, rfl, ?_⟩
    rw [← Option.some.inj hn]
    exact need_erase _ _ _ _ _
  · cases hn
theorem quitter_spec {s : St} (hm : s.main ≠ []) (y : Int) : s.quitter y ∈ s.main ∧ ((s.pl (s.quitter y)).grd = (s.pl y).grd ∨ ∀ j ∈ s.main, (s.pl j).grd ≠ (s.pl y).grd) := by
  unfold St.quitter
  cases e : s.main.findIdx? (fun o => (s.pl o).grd == (s.pl y).grd) with
  | some i =>
    dsimp only
    obtain ⟨h1, h2, _⟩ := List.findIdx?_eq_some_iff_getElem.1 e
    rw [List.getD_eq_getElem?_getD, List.getElem?_eq_getElem h1]
    exact ⟨List.getElem_mem h1, .inl (beq_iff_eq.1 h2)⟩
  | none =>
    dsimp only
    rw [List.findIdx?_eq_none_iff] at e
    refine ⟨?_, .inr fun j hj => by simpa using e j hj⟩
    cases hc : s.main with
    | nil => exact absurd hc hm
    | cons a r => exact List.mem_cons_self ..
theorem needX_best {h : Int} {s : St} {X : List Int} (t : Tr h s X) {y : Int} (hy : y ∉ s.main) {n : Nat} (hn : needX h s X y = some n) (hP : 0 < s.f.places) : s.main ≠ [] ∧ needX h (s.take (quitN h (s.quitter y))) (X.erase (s.quitter y)) y = some (n - 1) ∧ 0 < n := by
  have hn0 : n ≠ 0 := fun e => hy ((needX_zero t y).1 (e ▸ hn))
  have hn' := hn
  unfold needX at hn'
  split at hn'
  · rename_i c
    have hnn := Option.some.inj hn'
    have e := bef_split c.1
    have hsome : s.main ≠ [] := fun hm => by
      have h1 := sel_some (g := fun k => (s.pl k).grd) (P := s.f.places.toNat) (G := s.f.guards.toNat) e c.2 (by omega)
      cases hs : sel (fun k => (s.pl k).grd) s.f.places.toNat s.f.guards.toNat X with
      | nil => exact h1 hs
      | cons a r =>
        have := (t.sel a).2 (by rw [hs]; exact List.mem_cons_self ..)
        rw [hm] at this
        cases this
    obtain ⟨q1, q2⟩ := quitter_spec hsome y
    refine ⟨hsome, ?_, by omega⟩
    rw [needX_quit t q1 hy, if_pos c]
    have := need_drop (g := fun k => (s.pl k).grd) t.nd e (by rw [hnn]; omega) c.2 ((t.sel _).1 q1) (q2.imp id (fun h j hj => h j ((t.sel j).2 hj)))
    rw [hnn] at this
    congr 1
    omega
  · cases hn'
theorem needs_some {h y : Int} : ∀ (fuel : Nat) (q : Int) (s : St) (X : List Int) (n : Nat), Tr h s X → 0 < s.f.places → needX h s X y = some n → n < fuel → St.needs h y fuel q s = some (q + (n : Int))
  | 0, _, _, _, _, _, _, _, hlt => by omega
  | fuel + 1, q, s, X, n, t, hP, hn, hlt => by
    unfold St.needs
    by_cases hy : y ∈ s.main
    · have h0 := (needX_zero t y).2 hy
      rw [h0] at hn
      have : 0 = n := Option.some.inj hn
      subst this
      rw [if_pos (by simpa using hy)]
      simp
    · obtain ⟨hne, hb, hpos⟩ := needX_best t hy hn hP
      rw [if_neg (by simpa using hy), if_neg hne]
      have hq := (quitter_spec hne y).1
      have t2 := t.quit hq
      have hP2 : 0 < (s.take (quitN h (s.quitter y))).f.places := by rw [(quit_kept (t.ment _ hq)).1]; exact hP
      have ih := needs_some fuel (q + 1) (s.take (quitN h (s.quitter y))) (X.erase (s.quitter y)) (n - 1) t2 hP2 hb (by omega)
      have e : s.take ⟨0, h, 4, s.quitter y, 0⟩ = s.take (quitN h (s.quitter y)) := rfl
      rw [e, ih]
      congr 1
      omega
theorem needs_none {h y : Int} : ∀ (fuel : Nat) (q : Int) (s : St) (X : List Int), Tr h s X → needX h s X y = none → St.needs h y fuel q s = none
  | 0, _, _, _, _, _ => rfl
  | fuel + 1, q, s, X, t, hn => by
    unfold St.needs
    have hy : y ∉ s.main := fun hm => by rw [(needX_zero t y).2 hm] at hn; cases hn
    rw [if_neg (by simpa using hy)]
    by_cases hne : s.main = []
    · rw [if_pos hne]
    · rw [if_neg hne]
      have hq := (quitter_spec hne y).1
      have e : s.take ⟨0, h, 4, s.quitter y, 0⟩ = s.take (quitN h (s.quitter y)) := rfl
      rw [e]
      refine needs_none fuel (q + 1) _ (X.erase (s.quitter y)) (t.quit hq) ?_
      rw [needX_quit t hq hy]
      unfold needX at hn
      split at hn
      · cases hn
      · rename_i c; rw [if_neg c]
theorem need_le {g : Int → Bool} {P G : Nat} {B : List Int} {p : Int} (hP : 0 < P) (hg : g p = true → 0 < G) : need g P G B p ≤ B.length := by
  have := cucg (g := g) B
  unfold need
  split
  · have := hg (by assumption); omega
  · split <;> omega
theorem needs_eq {h y : Int} {s : St} {X : List Int} (t : Tr h s X) (hP : 0 < s.f.places) (hX : X.length ≤ 60) : St.needs h y 61 0 s = (needX h s X y).map (fun n => (n : Int)) := by
  cases e : needX h s X y with
  | none => rw [needs_none 61 0 s X t e]; rfl
  | some n =>
    have hlt : n < 61 := by
      have e2 := e
      unfold needX at e2
      split at e2
      · rename_i c
        have h1 := need_le (g := fun k => (s.pl k).grd) (P := s.f.places.toNat) (G := s.f.guards.toNat) (B := bef X y) (p := y) (by omega) c.2
        rw [Option.some.inj e2] at h1
        have h2 : (bef X y).length ≤ X.length := by unfold bef; exact List.length_take_le' _ _
        omega
      · cases e2
    rw [needs_some 61 0 s X n t hP e hlt]
    simp
def queue (h : Int) (s : St) : List Int := if late s.f h = true then s.main ++ s.order.filter (fun k => !s.main.contains k && (s.pl k).sgn) else s.order
theorem tr_of {h : Int} {s : St} (ok : StOk s) (hT : 0 ≤ s.turns) (hp : Plc s) (hp0 : 0 ≤ s.f.places) (he : late s.f h = false → s.main = s.greedy) (hw : late s.f h = true → ∀ o ∈ s.alts, (s.pl o).sgn = true → s.f.places ≤ (s.main.length : Int) ∨ ((s.pl o).grd = true ∧ s.f.guards ≤ s.guardsOf s.main)) : Tr h s (queue h s) := by
  unfold queue
  cases hl : late s.f h with
  | false =>
    rw [if_neg (by decide)]
    exact ⟨ok, hT, hp.mnd, hp.ment, hp0, hp.g0, order_nodup ok, fun y => (by rw [he hl, greedy_sel hp0 hp.g0]), fun _ => ⟨rfl, he hl⟩, fun hc => (by rw [hl] at hc; cases hc)⟩
  | true =>
    rw [if_pos rfl]
    have hroom := hp.room
    have hgu := hp.guards
    rw [guardsOf_cg] at hgu
    have hg0 := hp.g0
    have hsel : sel (fun k => (s.pl k).grd) s.f.places.toNat s.f.guards.toNat (s.main ++ s.order.filter (fun k => !s.main.contains k && (s.pl k).sgn)) = s.main := by
      have hfit := sel_fit (g := fun k => (s.pl k).grd) s.f.places.toNat s.f.guards.toNat s.main (by omega) (by omega)
      rw [sel_app, hfit, sel_none, List.append_nil]
      intro o ho
      obtain ⟨h1, h2⟩ := List.mem_filter.1 ho
      simp only [Bool.and_eq_true, Bool.not_eq_true', List.contains_eq_mem, decide_eq_false_iff_not] at h2
      rcases hw hl o (alts_mem.2 ⟨h1, h2.1⟩) h2.2 with h3 | ⟨h3, h4⟩
      · left; omega
      · right
        rw [guardsOf_cg] at h4
        exact ⟨h3, by omega⟩
    refine ⟨ok, hT, hp.mnd, hp.ment, hp0, hp.g0, ?_, fun y => (by rw [hsel]), fun hc => (by rw [hl] at hc; cases hc), fun _ => ?_⟩
    · rw [List.nodup_append]
      refine ⟨hp.mnd, (order_nodup ok).filter _, fun a ha b hb e => ?_⟩
      have := (List.mem_filter.1 hb).2
      rw [← e] at this
      simp [ha] at this
    · rw [List.filter_append]
      have e1 : s.main.filter (fun k => !s.main.contains k) = [] := by
        rw [List.filter_eq_nil_iff]
        intro a ha
        simp [ha]
      rw [e1, List.nil_append, List.filter_filter]
      refine List.filter_congr fun k _ => ?_
      cases s.main.contains k <;> simp
theorem tr_at {f : Fd} {l d : List Nt} (hd : diffs l = some d) (hv : validField f = true) (h : Int) : Tr h (atL f h d) (queue h (atL f h d)) ∧ (queue h (atL f h d)).length ≤ 60 ∧ 0 < (atL f h d).f.places := by
  obtain ⟨_, ht, _⟩ := diffs_spec hd
  have hp : ∀ x ∈ d, 0 ≤ x.player ∧ x.player ≤ 999 := fun x hx => valid_player (ht.valid x hx)
  obtain ⟨hok, hT⟩ := atL_ok f h hp
  have hs := taken_hours ht
  have hplc : Plc (atL f h d) := plc_fold _ _ (new_ok f) (Int.le_refl _) (plc_new hv) (fun x hx => hp x (List.mem_filter.1 hx).1)
  have hpl0 : f.places ≤ (atL f h d).f.places := by
    have : ∀ (r : List Nt) (s : St), s.f.places ≤ (r.foldl St.take s).f.places := by
      intro r
      induction r with
      | nil => intro s; exact Int.le_refl _
      | cons x r ih => intro s; exact Int.le_trans (said_places s x) (ih (s.take x))
    exact this _ (St.new f)
  have hvp := valid_places hv
  have hfz : (atL f h d).f.freeze = f.freeze := (fold_fd _ (St.new f)).2
  have hlate : ∀ z, late (atL f h d).f z = decide (f.freeze < z) := fun z => by unfold late; rw [hfz]
  refine ⟨tr_of hok hT hplc (by omega) (fun hl => ?_) (fun hl o ho hsg => ?_), ?_, by omega⟩
  · rw [hlate] at hl
    have hl' := of_decide_eq_false hl
    exact fold_greedy f.freeze _ (St.new f) rfl (fun x hx => by have := (List.mem_filter.1 hx).2; simp at this; omega) (greedy_new f)
  · by_cases hz : ∃ z ∈ d, f.freeze < z.hour ∧ z.hour ≤ h
    · obtain ⟨x, hx, hx1, hx2⟩ := hz
      obtain ⟨r, z, hr⟩ : ∃ r z, d.filter (fun x => decide (x.hour ≤ h)) = r ++ [z] := by
        have hmem : x ∈ d.filter (fun x => decide (x.hour ≤ h)) := List.mem_filter.2 ⟨hx, by simpa using hx2⟩
        have hne : d.filter (fun x => decide (x.hour ≤ h)) ≠ [] := List.ne_nil_of_mem hmem
        exact ⟨_, _, (List.dropLast_concat_getLast hne).symm⟩
      have hz2 : f.freeze < z.hour := by
        have hmem : x ∈ r ++ [z] := by rw [← hr]; exact List.mem_filter.2 ⟨hx, by simpa using hx2⟩
        have hs' : (r ++ [z]).Pairwise (fun a b => a.hour ≤ b.hour) := by rw [← hr]; exact List.Pairwise.sublist List.filter_sublist hs
        rcases List.mem_append.1 hmem with h1 | h1
        · have := (List.pairwise_append.1 hs').2.2 x h1 z (by simp)
          omega
        · simp at h1; rw [← h1]; exact hx1
      have hat : atL f h d = (r.foldl St.take (St.new f)).take z := by
        unfold atL
        rw [hr, List.foldl_append]
        rfl
      have hl2 : late (r.foldl St.take (St.new f)).f z.hour = true := by
        unfold late
        rw [(fold_fd r (St.new f)).2]
        exact decide_eq_true hz2
      rw [hat] at ho hsg ⊢
      exact right_late hl2 ho hsg
    · have hgreedy : (atL f h d).main = (atL f h d).greedy := fold_greedy f.freeze _ (St.new f) rfl (fun x hx => by
        obtain ⟨h1, h2⟩ := List.mem_filter.1 hx
        have h3 := of_decide_eq_true h2
        have : ¬ f.freeze < x.hour := fun c => hz ⟨x, h1, c, h3⟩
        omega) (greedy_new f)
      rcases right_early hgreedy ho with h1 | h1
      · exact .inl h1.1
      · exact .inr h1
  · have hkn : (atL f h d).known.length ≤ 60 := by
      have : ∀ (r : List Nt) (s : St), (r.foldl St.take s).known.length ≤ s.known.length + r.length := by
        intro r
        induction r with
        | nil => intro s; simp
        | cons x r ih =>
          intro s
          have h1 := ih (s.take x)
          have h2 : (s.take x).known.length ≤ s.known.length + 1 := known_said s x
          rw [List.foldl_cons, List.length_cons]; omega
      have h1 := this (d.filter fun x => decide (x.hour ≤ h)) (St.new f)
      have h2 := List.length_filter_le (fun x : Nt => decide (x.hour ≤ h)) d
      have h3 := diffs_len hd
      have h4 : (St.new f).known.length = 0 := rfl
      have h5 : (atL f h d).known.length ≤ (St.new f).known.length + (d.filter fun x => decide (x.hour ≤ h)).length := h1
      omega
    have hnd : (queue h (atL f h d)).Nodup := by
      unfold queue
      split
      · rw [List.nodup_append]
        refine ⟨hplc.mnd, (order_nodup hok).filter _, fun a ha b hb e => ?_⟩
        have := (List.mem_filter.1 hb).2
        rw [← e] at this
        simp [ha] at this
      · exact order_nodup hok
    have hsub : ∀ k ∈ queue h (atL f h d), k ∈ (atL f h d).known := by
      intro k hk
      unfold queue at hk
      split at hk
      · rcases List.mem_append.1 hk with h1 | h1
        · exact hok.main k h1
        · exact (order_mem.1 (List.mem_filter.1 h1).1).1
      · exact (order_mem.1 hk).1
    exact Nat.le_trans (List.Nodup.length_le_of_subset hnd hsub) hkn
end E
end Go.Proofs.Ytobjahlmjcnfoaa

namespace Go.Proofs.Ytobjahlmjcnfoaa
open Go.RowKit Go.Sort
attribute [local go_sem ↓] Go.wp_at_zero Go.wp_at_succ

theorem flatN_div {xs : List E.Nt} {j : Nat} {u : Value} (h : (flatN xs)[j]? = some u) : ∃ x, xs[j / 5]? = some x ∧ (nc x)[j % 5]? = some u := by
  have hj : j < xs.length * 5 := by rw [← flatN_length]; exact (List.getElem?_eq_some_iff.1 h).1
  have hk : j / 5 < xs.length := by omega
  refine ⟨xs[j / 5], List.getElem?_eq_getElem hk, ?_⟩
  rw [← flatN_at xs (j / 5) _ (j % 5) (List.getElem?_eq_getElem hk) (by omega), ← h]
  congr 1
  omega
theorem RdN.cellAt {w : World} {B : Nat} {ad : Addr} {xs : List E.Nt} (h : RdN w B (some ad) xs) {j : Nat} {u : Value} (hj : (flatN xs)[j]? = some u) : w.cell? (ad.add j) = some u := by
  obtain ⟨x, hx, hu⟩ := flatN_div hj
  obtain ⟨b, o, e, _, c0, c1, c2, c3, c4⟩ := h (j / 5) x hx
  have e' := Option.some.inj e
  subst e'
  rw [add_plain]
  have hm : j % 5 < 5 := by omega
  have hd : o + j = o + j / 5 * 5 + j % 5 := by omega
  rw [hd]
  unfold nc at hu
  match hq : j % 5, hm with
  | 0, _ => rw [hq] at hu; rw [← Option.some.inj hu]; exact c0
  | 1, _ => rw [hq] at hu; rw [← Option.some.inj hu]; exact c1
  | 2, _ => rw [hq] at hu; rw [← Option.some.inj hu]; exact c2
  | 3, _ => rw [hq] at hu; rw [← Option.some.inj hu]; exact c3
  | 4, _ => rw [hq] at hu; rw [← Option.some.inj hu]; exact c4
theorem run_app_Ns {w : World} (ty : TypeId) (base : Nat) (v : Value) (ps : List E.Nt) (m0 : Nat) (hown : w.ownsRow base 40 5 v m0 (flatN ps)) (hlen : ps.length = m0)
    (A : Option Addr) (n c : Nat) (xs : List E.Nt) (hn : xs.length = n) (hr : RdN w w.heap.size A xs) (hA : A = none → c = 0) (h0 : m0 ≤ 1000) (h1 : n ≤ 1000) (hbase : base ≤ w.heap.size) :
    ∃ A' c' w', (Builtin.append_ #[24, 24] ty #[v, .slice A n c]).run Try.prog w = .ok (.slice A' (m0 + n) c') w' ∧ w'.ownsRow base 40 5 (.slice A' (m0 + n) c') (m0 + n) (flatN (ps ++ xs)) ∧ w.grownBy w' v.ownBlock := by
  obtain ⟨i, hi, hz0, hz1, hz2⟩ := info_parts nt_info
  rcases A with _ | ad
  · have hx0 : xs = [] := by
      match xs, hr with
      | [], _ => rfl
      | x :: r, hr => obtain ⟨_, _, e, _⟩ := hr 0 x rfl; cases e
    subst hx0
    have hn0 : n = 0 := by simpa using hn.symm
    subst hn0
    have hc0 := hA rfl
    subst hc0
    obtain ⟨A', c', rfl⟩ := own_form hown
    have hrun := run_append_owned_none (P := Try.prog) (w := w) base 24 ty 40 i 5 Try.underlying24 hi (.slice A' m0 c') m0 (flatN ps) hown
    exact ⟨A', c', w, hrun, by simpa using hown, World.grownBy.refl w _⟩
  · obtain ⟨v', w', hrun, h2, h3, _, _⟩ := run_append_own_at (P := Try.prog) w base 24 ty 40 i _ 5 40 Try.underlying24 hi hz0 hz1 hz2 (by rfl) (by decide) v m0 (flatN ps) hown ad n c (flatN xs) (by rw [flatN_length, hn]) (by
      intro j u hj
      exact hr.cellAt hj) (flatN_one xs) (by unfold maxLen; omega) (by omega) hbase
    obtain ⟨A', c', rfl⟩ := own_form h2
    exact ⟨A', c', w', hrun, by rw [flatN_app]; exact h2, h3⟩
theorem wpList_app_Ns {w : World} {ops : Array Oper} {rest : List Oper} {o : Oper} {a : Act} {Q : Exit → Act → World → Prop} (hgd : o.guard = none) (s x : Operand)
    (ho : o.op = .call { callee := .builtin .append, args := #[s, x], argTypes := #[24, 24] }) (base : Nat) (v : Value) (ps : List E.Nt) (m0 : Nat) (hs : a.eval s = v) (hown : w.ownsRow base 40 5 v m0 (flatN ps)) (hlen : ps.length = m0)
    (A : Option Addr) (n c : Nat) (xs : List E.Nt) (hx : a.eval x = .slice A n c) (hn : xs.length = n) (hr : RdN w w.heap.size A xs) (hA : A = none → c = 0) (h0 : m0 ≤ 1000) (h1 : n ≤ 1000) (hbase : base ≤ w.heap.size) (N : Nat) (hN : m0 + n = N)
    (h : ∀ A' c' w', w'.ownsRow base 40 5 (.slice A' N c') N (flatN (ps ++ xs)) → w.grownBy w' v.ownBlock → wpList Try.prog ops Q rest (a.put o.dst (.slice A' N c')) w') :
    wpList Try.prog ops Q (o :: rest) a w := by
  subst hN
  refine wpList_plain hgd fun K hK => ?_
  obtain ⟨A', c', w', hr', h2, h3⟩ := run_app_Ns o.type base v ps m0 hown hlen A n c xs hn hr hA h0 h1 hbase
  unfold Oper.wp execOp
  simp only [ho, resolve, invoke, builtin, Sem.run_bind, Sem.run_pure, Result.andThen_ok, List.map_toArray, List.map_cons, List.map_nil, hs, hx, hr']
  exact hK _ _ (h A' c' w' h2 h3)
theorem ownsN_empty {w : World} {q B : Nat} (hq : w.heap[q]? = some (.cells #[] 40 (0, 0))) (h : B ≤ q) : w.ownsRow B 40 5 (.slice (some ⟨q, 0, Option.none⟩) 0 0) 0 (flatN []) :=
  ⟨rfl, .inr ⟨q, 0, #[], rfl, h, hq, Nat.le_refl _, Nat.zero_le _, rfl, rfl⟩⟩
end Go.Proofs.Ytobjahlmjcnfoaa

namespace Go.Proofs.Ytobjahlmjcnfoaa
open Go.RowKit

theorem owns_cap {w : World} {base : Nat} {e : TypeId} {n m c size : Nat} {xs : List Value} {A : Option Addr} (h : w.ownsRow base e size (.slice A m c) n xs) : A = Option.none → c = 0 := by
  intro hA
  rcases h.2 with ⟨h1, h2⟩ | ⟨g, cap, cur, h1, _⟩
  · simp only [Value.slice.injEq] at h1; exact h1.2.2
  · simp only [Value.slice.injEq] at h1; rw [hA] at h1; cases h1.1

theorem list_ok4 (f : E.Fd) (A : Option Addr) (n c : Nat) (l : List E.Nt) (h : Int) (d : List E.Nt) (M C O : List Int) (P : Int) (w : World) (hn : l.length = n) (hr : RdN w w.heap.size A l) (hid : ∀ x ∈ l, (Lit.int .i64 x.id).wf = true) (hm : n ≤ 1000000) (hd : E.diffs l = some d) (he : E.errE f l h 0 = 0) (hM : (E.atL f h d).main = M) (hC : (E.atL f h d).cards = C) (hO : (E.atL f h d).alts = O) (hP : (E.atL f h d).f.places - ((E.atL f h d).main.length : Int) = P) :
    Calls Try.prog 14 #[.agg #[.int .i64 f.places, .int .i64 f.wilds, .int .i64 f.guards, .int .i64 f.close, .int .i64 f.freeze], .slice A n c, .int .i64 h] w fun e w' => ∃ A1 c1 A2 c2 A3 c3, e = .returned (.tuple #[.agg #[.slice A1 M.length c1, .slice A2 C.length c2, .slice A3 O.length c3, .int .i64 P], .int .i64 0]) ∧ RdI w' w'.heap.size A1 M ∧ RdI w' w'.heap.size A2 C ∧ RdI w' w'.heap.size A3 O ∧ ((A1 = none → c1 = 0) ∧ (A2 = none → c2 = 0) ∧ (A3 = none → c3 = 0)) ∧ Below w.heap.size w w' := by
  refine (List_any f A n c l h w hn hr hid hm).mono ?_
  rintro e w' ⟨(⟨h0, _⟩ | ⟨_, d', A1, c1, A2, c2, A3, c3, hd', rfl, h1, h2, h3⟩), hb⟩
  · exact absurd he h0
  · have e0 : d' = d := by rw [hd] at hd'; exact (Option.some.inj hd').symm
    subst e0
    have r1 := owns_RdI h1 rfl
    have r2 := owns_RdI h2 rfl
    have r3 := owns_RdI h3 rfl
    rw [hM] at r1
    rw [hC] at r2
    rw [hO] at r3
    exact ⟨A1, c1, A2, c2, A3, c3, by rw [hP, hM, hC, hO], r1, r2, r3, ⟨owns_cap h1, owns_cap h2, owns_cap h3⟩, hb⟩

namespace E
structure PlcAll (f : Fd) (h : Int) (l : List Nt) (M C O B : List Int) (P : Int) : Prop where
  open_ : 0 ≤ P
  wilds : (C.length : Int) ≤ f.wilds
  nodup : (M ++ C ++ O).Nodup
  guards : cntG f h l M ≤ f.guards
  sum : (M.length : Int) + P = f.places + (if f.freeze < h then ((B.filter (fun k => !C.contains k)).length : Int) else 0)
structure PlcOne (f : Fd) (h : Int) (l : List Nt) (M C : List Int) (i : Nat) (k : Int) (s1 s2 : Int) : Prop where
  stand : StandVal f l h k = .tuple #[.int .i64 s1, .int .i64 s2, .int .i64 0]
  quit : ∀ x ∈ l, ¬ (x.player = k ∧ x.kind = 4 ∧ x.hour ≤ h)
  ent : s1 ≠ 2 → (entF f h k l).hour ≤ 9999
end E
end Go.Proofs.Ytobjahlmjcnfoaa

namespace Go.Proofs.Ytobjahlmjcnfoaa
open Go.RowKit

namespace E
end E

end Go.Proofs.Ytobjahlmjcnfoaa

namespace Go.Proofs.Ytobjahlmjcnfoaa
namespace E

def mx (a b : Int) : Int := if a < b then b else a
def nextId (l : List Nt) : Int := l.foldl (fun i x => mx i (x.id + 1)) 0
def qn (l : List Nt) (h k : Int) : Nt := ⟨nextId l, h, 4, k, 0⟩
theorem nextId_step (l : List Nt) (x : Nt) : nextId (l ++ [x]) = mx (nextId l) (x.id + 1) := by
  unfold nextId; rw [List.foldl_append]; rfl
theorem nextId_spec {c : Int} (hc : 0 ≤ c) : ∀ (l : List Nt) (i : Int), 0 ≤ i → i ≤ c + 1 → (∀ x ∈ l, 0 ≤ x.id ∧ x.id ≤ c) → 0 ≤ l.foldl (fun i x => mx i (x.id + 1)) i ∧ l.foldl (fun i x => mx i (x.id + 1)) i ≤ c + 1 ∧ i ≤ l.foldl (fun i x => mx i (x.id + 1)) i ∧ ∀ x ∈ l, x.id < l.foldl (fun i x => mx i (x.id + 1)) i
  | [], i, h0, h1, _ => ⟨h0, h1, Int.le_refl _, fun x hx => by cases hx⟩
  | a :: r, i, h0, h1, hl => by
    have ha := hl a (List.mem_cons_self ..)
    have hm : 0 ≤ mx i (a.id + 1) ∧ mx i (a.id + 1) ≤ c + 1 ∧ i ≤ mx i (a.id + 1) ∧ a.id < mx i (a.id + 1) := by unfold mx; split <;> omega
    obtain ⟨i1, i2, i3, i4⟩ := nextId_spec hc r (mx i (a.id + 1)) hm.1 hm.2.1 (fun x hx => hl x (List.mem_cons_of_mem _ hx))
    rw [List.foldl_cons]
    refine ⟨i1, i2, by omega, fun x hx => ?_⟩
    rcases List.mem_cons.1 hx with rfl | hx
    · omega
    · exact i4 x hx
structure Now (f : Fd) (H : Int) (nw dn : List Nt) (j : Nat) : Prop where
  ds : diffs nw = some dn
  len : nw.length ≤ 12 + j
  ids : ∀ x ∈ nw, x.id ≤ 900 + (j : Int)
  hours : ∀ x ∈ nw, x.hour ≤ H
theorem Now.valid {f : Fd} {H : Int} {nw dn : List Nt} {j : Nat} (n : Now f H nw dn j) : ∀ x ∈ nw, validNotice x = true := fun x hx => by
  obtain ⟨_, ht, hm⟩ := diffs_spec n.ds
  exact ht.valid x ((hm x).2 hx)
theorem Now.quit {f : Fd} {H : Int} {nw dn : List Nt} {j : Nat} (n : Now f H nw dn j) (hH : 0 ≤ H ∧ H ≤ 9999) (hj : j ≤ 40) {k : Int} (hk : 0 ≤ k ∧ k ≤ 999) : Now f H (nw ++ [qn nw H k]) (dn ++ [qn nw H k]) (j + 1) ∧ atL f H (dn ++ [qn nw H k]) = (atL f H dn).take (quitN H k) := by
  obtain ⟨hl, ht, hm⟩ := diffs_spec n.ds
  have hv := n.valid
  have hnx := nextId_spec (c := 900 + (j : Int)) (by omega) nw 0 (by omega) (by omega) (fun x hx => ⟨(valid_id (hv x hx)).1, n.ids x hx⟩)
  change 0 ≤ nextId nw ∧ nextId nw ≤ 900 + (j : Int) + 1 ∧ 0 ≤ nextId nw ∧ ∀ x ∈ nw, x.id < nextId nw at hnx
  have hqv : validNotice (qn nw H k) = true := by
    have e : lowOf 4 = 0 ∧ highOf 4 = 0 := ⟨rfl, rfl⟩
    unfold validNotice within qn
    simp only [e.1, e.2, Bool.and_eq_true, decide_eq_true_eq]
    omega
  have hT : Taken (dn ++ [qn nw H k]) := by
    refine ⟨?_, ?_, fun x hx => ?_⟩
    · rw [List.pairwise_append]
      refine ⟨ht.ids, List.pairwise_singleton _ _, fun a ha b hb => ?_⟩
      rw [List.mem_singleton.1 hb]
      have := hnx.2.2.2 a ((hm a).1 ha)
      show a.id ≠ nextId nw
      omega
    · rw [List.pairwise_append]
      refine ⟨ht.sorted, List.pairwise_singleton _ _, fun a ha b hb => ?_⟩
      rw [List.mem_singleton.1 hb, leN_iff]
      have h1 := hnx.2.2.2 a ((hm a).1 ha)
      have h2 := n.hours a ((hm a).1 ha)
      show a.hour < H ∨ a.hour = H ∧ a.id ≤ nextId nw
      omega
    · rcases List.mem_append.1 hx with h | h
      · exact ht.valid x h
      · rw [List.mem_singleton.1 h]; exact hqv
  have hlen : (nw ++ [qn nw H k]).length ≤ 60 := by
    have := n.len
    rw [List.length_append]; simp; omega
  have hids : ∀ x ∈ nw ++ [qn nw H k], ∀ y ∈ nw ++ [qn nw H k], y.id = x.id → y = x := by
    have hin : ∀ y, y ∈ nw ++ [qn nw H k] → y ∈ dn ++ [qn nw H k] := fun y hy => by
      rcases List.mem_append.1 hy with h | h
      · exact List.mem_append_left _ ((hm y).2 h)
      · exact List.mem_append_right _ h
    exact fun x hx y hy e => ids_inj hT.ids y (hin y hy) x (hin x hx) e
  obtain ⟨d', hd'⟩ := diffs_some hlen (fun x hx => by
    rcases List.mem_append.1 hx with h | h
    · exact hv x h
    · rw [List.mem_singleton.1 h]; exact hqv) hids
  obtain ⟨_, ht', hm'⟩ := diffs_spec hd'
  have hde : d' = dn ++ [qn nw H k] := taken_eq ht' hT (fun y => by rw [hm', List.mem_append, List.mem_append, hm])
  refine ⟨⟨by rw [hd', hde], ?_, fun x hx => ?_, fun x hx => ?_⟩, ?_⟩
  · have := n.len; rw [List.length_append]; simp; omega
  · rcases List.mem_append.1 hx with h | h
    · have := n.ids x h; push_cast; omega
    · rw [List.mem_singleton.1 h]; show nextId nw ≤ _; push_cast; omega
  · rcases List.mem_append.1 hx with h | h
    · exact n.hours x h
    · rw [List.mem_singleton.1 h]; exact Int.le_refl _
  · have e1 : dn.filter (fun x => decide (x.hour ≤ H)) = dn := List.filter_eq_self.2 (fun x hx => by simpa using n.hours x ((hm x).1 hx))
    unfold atL
    rw [List.filter_append, e1, List.filter_cons_of_pos (by simp [qn]), List.filter_nil, List.foldl_append]
    rfl
end E
theorem needsV_now {f : E.Fd} {H p : Int} {nw dn : List E.Nt} {j : Nat} (n : E.Now f H nw dn j) (hv : E.validField f = true) {X : List Int} (t : E.Tr H (E.atL f H dn) X) (hX : X.length ≤ 60) : needsV f nw H p = (E.needX H (E.atL f H dn) X p).map (fun n => (n : Int)) := by
  unfold needsV
  rw [n.ds]
  exact E.needs_eq t (E.tr_at n.ds hv H).2.2 hX
theorem must_step {f : E.Fd} {H p : Int} {nw dn : List E.Nt} {j : Nat} (n : E.Now f H nw dn j) (hv : E.validField f = true) (hH : 0 ≤ H ∧ H ≤ 9999) (hj : j ≤ 40) {q : Int} (hq : needsV f nw H p = some q) :
    (0 ≤ q ∧ q ≤ 60) ∧ (q = 0 ↔ p ∈ (E.atL f H dn).main) ∧ (0 < q → (∀ k ∈ (E.atL f H dn).main, ∀ m, needsV f (nw ++ [E.qn nw H k]) H p = some m → q - 1 ≤ m) ∧ ∃ k ∈ (E.atL f H dn).main, needsV f (nw ++ [E.qn nw H k]) H p = some (q - 1)) := by
  obtain ⟨t, hX, hP⟩ := E.tr_at n.ds hv H
  have e := needsV_now (p := p) n hv t hX
  rw [hq] at e
  cases en : E.needX H (E.atL f H dn) (E.queue H (E.atL f H dn)) p with
  | none => rw [en] at e; cases e
  | some a =>
    rw [en] at e
    have hqa : q = (a : Int) := Option.some.inj e
    have hz := E.needX_zero t p
    rw [en] at hz
    have h0 : q = 0 ↔ p ∈ (E.atL f H dn).main := by
      rw [← hz, hqa]
      constructor
      · intro h; congr 1; omega
      · intro h; have := Option.some.inj h; omega
    have hk9 : ∀ k ∈ (E.atL f H dn).main, 0 ≤ k ∧ k ≤ 999 := fun k hk => t.ok.range k (t.ok.main k hk)
    have hquit : ∀ k ∈ (E.atL f H dn).main, needsV f (nw ++ [E.qn nw H k]) H p = (E.needX H ((E.atL f H dn).take (E.quitN H k)) ((E.queue H (E.atL f H dn)).erase k) p).map (fun n => (n : Int)) := fun k hk => by
      obtain ⟨n2, ha⟩ := n.quit hH hj (hk9 k hk)
      have t2 := t.quit hk
      rw [← ha] at t2 ⊢
      exact needsV_now n2 hv t2 (Nat.le_trans (List.length_erase_le ..) hX)
    have ha60 : a ≤ 60 := by
      have e2 := en
      unfold E.needX at e2
      split at e2
      · rename_i c
        have h1 := E.need_le (g := fun k => ((E.atL f H dn).pl k).grd) (P := (E.atL f H dn).f.places.toNat) (G := (E.atL f H dn).f.guards.toNat) (B := E.bef (E.queue H (E.atL f H dn)) p) (p := p) (by omega) c.2
        rw [Option.some.inj e2] at h1
        have h2 : (E.bef (E.queue H (E.atL f H dn)) p).length ≤ (E.queue H (E.atL f H dn)).length := by unfold E.bef; exact List.length_take_le' _ _
        omega
      · cases e2
    refine ⟨by omega, h0, fun hpos => ?_⟩
    have hpm : p ∉ (E.atL f H dn).main := fun hm => by have := h0.2 hm; omega
    refine ⟨fun k hk m hm => ?_, ?_⟩
    · rw [hquit k hk] at hm
      obtain ⟨m', h1, h2⟩ := E.needX_less t hk hpm en
      rw [h1] at hm
      have : ((m' : Nat) : Int) = m := Option.some.inj hm
      omega
    · obtain ⟨hne, hb, hp0⟩ := E.needX_best t hpm en hP
      have hk := (E.quitter_spec hne p).1
      refine ⟨_, hk, ?_⟩
      rw [hquit _ hk, hb, hqa]
      show some ((a - 1 : Nat) : Int) = some ((a : Int) - 1)
      congr 1
      omega
theorem must_stepM {f : E.Fd} {H p : Int} {nw dn : List E.Nt} {j : Nat} {M : List Int} (hM : (E.atL f H dn).main = M) (n : E.Now f H nw dn j) (hv : E.validField f = true) (hH : 0 ≤ H ∧ H ≤ 9999) (hj : j ≤ 40) {q : Int} (hq : needsV f nw H p = some q) :
    (0 ≤ q ∧ q ≤ 60) ∧ (q = 0 → M.contains p = true) ∧ (q ≠ 0 → M.contains p = false) ∧ (0 < q → ∀ k ∈ M, ∀ m, needsV f (nw ++ [E.qn nw H k]) H p = some m → q - 1 ≤ m) ∧ (0 < q → ∃ k ∈ M, needsV f (nw ++ [E.qn nw H k]) H p = some (q - 1)) := by
  subst hM
  obtain ⟨h1, h2, h3⟩ := must_step n hv hH hj hq
  refine ⟨h1, fun h => ?_, fun h => ?_, fun h => (h3 h).1, fun h => (h3 h).2⟩
  · rw [List.contains_eq_mem, decide_eq_true_eq]; exact h2.1 h
  · rw [List.contains_eq_mem, decide_eq_false_iff_not]; exact fun hm => h (h2.2 hm)
theorem main_num {f : E.Fd} {H : Int} {nw dn : List E.Nt} {j : Nat} (n : E.Now f H nw dn j) (hv : E.validField f = true) : ∀ k ∈ (E.atL f H dn).main, 0 ≤ k ∧ k ≤ 999 := fun k hk =>
  have t := (E.tr_at n.ds hv H).1
  t.ok.range k (t.ok.main k hk)
theorem main_numM {f : E.Fd} {H : Int} {nw dn : List E.Nt} {j : Nat} {M : List Int} (hM : (E.atL f H dn).main = M) (n : E.Now f H nw dn j) (hv : E.validField f = true) : ∀ k ∈ M, 0 ≤ k ∧ k ≤ 999 := by
  subst hM
  exact main_num n hv
theorem now_wf {f : E.Fd} {H : Int} {nw dn : List E.Nt} {j : Nat} (n : E.Now f H nw dn j) : ∀ x ∈ nw, (Lit.int .i64 x.id).wf = true := fun x hx => by
  have := E.valid_id (n.valid x hx)
  have e1 : IntKind.i64.min = -9223372036854775808 := by decide
  have e2 : IntKind.i64.max = 9223372036854775807 := by decide
  show (decide (IntKind.i64.min ≤ x.id) && decide (x.id ≤ IntKind.i64.max)) = true
  rw [e1, e2, Bool.and_eq_true, decide_eq_true_eq, decide_eq_true_eq]
  omega
theorem now_ids {f : E.Fd} {H : Int} {nw dn : List E.Nt} {j : Nat} (n : E.Now f H nw dn j) : ∀ x ∈ nw, 0 ≤ x.id ∧ x.id ≤ 2000 := fun x hx => by
  have := E.valid_id (n.valid x hx)
  omega
theorem main_len {f : E.Fd} {H : Int} {nw dn : List E.Nt} {j : Nat} (n : E.Now f H nw dn j) (hv : E.validField f = true) : (E.atL f H dn).main.length ≤ 1000 := by
  have t := (E.tr_at n.ds hv H).1
  have h1 := List.Nodup.length_le_of_subset t.mnd (fun k hk => t.ok.main k hk)
  have h2 : (E.atL f H dn).known.length ≤ 1000 := by
    have h3 := List.Nodup.length_le_of_subset (l₁ := (E.atL f H dn).known) (l₂ := (List.range 1000).map (fun n : Nat => (n : Int))) t.ok.known (fun k hk => by
      have := t.ok.range k hk
      exact List.mem_map.2 ⟨k.toNat, List.mem_range.2 (by omega), by omega⟩)
    simpa using h3
  omega
end Go.Proofs.Ytobjahlmjcnfoaa

namespace Go.Proofs.Ytobjahlmjcnfoaa
open Go.RowKit Go.Sort
attribute [local go_sem ↓] Go.wp_at_zero Go.wp_at_succ

set_option maxHeartbeats 1600000 in
set_option maxRecDepth 100000 in
theorem quit_any (A : Option Addr) (n c : Nat) (l : List E.Nt) (h k : Int) (w : World) (hn : l.length = n) (hr : RdN w w.heap.size A l) (hcap : A = none → c = 0) (hm : n ≤ 100) (hids : ∀ x ∈ l, 0 ≤ x.id ∧ x.id ≤ 2000) :
    Calls Try.prog 24 #[.slice A n c, .int .i64 h, .int .i64 k] w fun e w' => ∃ A' c', e = .returned (.slice A' (n + 1) c') ∧ w'.ownsRow w.heap.size 40 5 (.slice A' (n + 1) c') (n + 1) (flatN (l ++ [E.qn l h k])) ∧ Below w.heap.size w w' := by
  have HN := hide hn
  have HR := hide hr
  have HCAP := hide hcap
  have HIDS := hide hids
  clear hn hr hcap hids
  go_enter Try.func24, Try.ntmps24
  go_wp2_with fail
  go_loop [7, 8] (fun v i => ∃ i' : Nat, i' ≤ n ∧ v = .int .i64 (E.nextId (l.take i')) ∧ i = .int .i64 i') (fun _ i => n - (intOf i).toNat)
  case atStart => exact ⟨0, by omega, rfl, rfl⟩
  case round =>
    obtain ⟨i, hi, rfl, rfl⟩ := hrel
    by_cases hin : i < n
    · obtain ⟨x, hx⟩ : ∃ q, l[i]? = some q := ⟨_, List.getElem?_eq_getElem (by have := HN.out; omega)⟩
      have HX := hide hx
      have HTK := hide (show l.take (i + 1) = l.take i ++ [x] by rw [List.take_add_one, hx]; rfl)
      have hxi := HIDS.out x (List.mem_of_getElem? hx)
      obtain ⟨bl, ol, hAl, _, xc0, xc1, xc2, xc3, xc4⟩ := HR.out i x hx
      subst hAl
      obtain ⟨mi, hmi⟩ : ∃ q, E.nextId (l.take i) = q := ⟨_, rfl⟩
      have HMI := hide hmi
      rw [hmi]
      clear hx hmi
      have hi1 : (i : Int) < (n : Int) := by omega
      have hi0 : (0 : Int) ≤ (i : Int) := by omega
      have hw1 : IntKind.i64.wrap (x.id + 1) = x.id + 1 := IntWalk.i64_in _ (by omega)
      go_wp2_with fail
      all_goals
        go_round
        case rel => exact ⟨i + 1, by omega, by rw [HTK.out, E.nextId_step, HMI.out]; unfold E.mx; first | rfl | (congr 1; split <;> omega), by go_num⟩
        case measure => simp [intOf]; omega
    · have hin2 : i = n := by omega
      subst hin2
      have HTL := hide (show l.take i = l from List.take_of_length_le (by rw [HN.out]; exact Nat.le_refl _))
      rw [HTL.out]
      go_wp2_with (first | (at_builtin; refine wpList_app_Ns rfl (.tmp 23) (.tmp 24) rfl w.heap.size (.slice (some ⟨w.heap.size, 0, none⟩) 0 0) [] 0 rfl (ownsN_empty (World.alloc_heap_new w _) (Nat.le_refl _)) rfl A i c l rfl HN.out ((HR.out.below (zbA (zbR _ _) (Nat.le_refl _) _)).mono (by simp)) HCAP.out (by omega) (by omega) (by simp) i (by omega) ?_; intro A7 c7 w2 hown hgrow; have HO2 := hide (show w2.ownsRow w.heap.size 40 5 (.slice A7 i c7) i (flatN l) from hown); have HB2 := hide ((zbA (zbR w.heap.size w) (Nat.le_refl _) _).trans (grown_below (B := w.heap.size) hgrow (by simp) (fun g hg => by have h1 : w.heap.size = g := Option.some.inj hg; omega))); clear hown hgrow) | (at_builtin; refine wpList_app_N rfl (.tmp 25) (.tmp 30) rfl w.heap.size (.slice A7 i c7) l i rfl (HO2.out.kept (World.grownBy_alloc _ _ none) (Classical.em _)) HN.out w2.heap.size (E.qn l h k) rfl (World.alloc_heap_new _ _) (by omega) (by have := HB2.out.size; simp; omega) ?_; intro A8 c8 w4 hown hgrow _; have HO4 := hide hown; have HB4 := hide ((zbA HB2.out HB2.out.size _).trans (grown_below (B := w.heap.size) hgrow (by have := HB2.out.size; simp; omega) (fun g hg => ((HO2.out.kept (World.grownBy_alloc w2 (.cells (ntCells (E.qn l h k)) 40) none) (Classical.em _)).lt g hg).1))); clear hown hgrow))
      go_ret
      exact ⟨A8, c8, rfl, HO4.out, HB4.out⟩
def nv (r : Option Int) : Int × Int := match r with | some q => (q, 0) | none => (0, 3)
theorem now_err {f : E.Fd} {H p : Int} {nw dn : List E.Nt} {j : Nat} (n : E.Now f H nw dn j) (hv : E.validField f = true) (hH : 0 ≤ H ∧ H ≤ 9999) (hp : 0 ≤ p ∧ p ≤ 999) : E.errE f nw H p = 0 :=
  E.err_zero (by unfold E.checkE; rw [if_pos hv, n.ds]; rfl) hH hp
theorem needs_now (f : E.Fd) (A : Option Addr) (n c : Nat) (nw dn : List E.Nt) (H p : Int) (j : Nat) (w : World) (hn : nw.length = n) (hr : RdN w w.heap.size A nw) (hm : n ≤ 1000000) (hnow : E.Now f H nw dn j) (hv : E.validField f = true) (hH : 0 ≤ H ∧ H ≤ 9999) (hp : 0 ≤ p ∧ p ≤ 999) (r : Option Int) (hR : needsV f nw H p = r) (va vb : Int) (hv2 : nv r = (va, vb)) :
    Calls Try.prog 23 #[.agg #[.int .i64 f.places, .int .i64 f.wilds, .int .i64 f.guards, .int .i64 f.close, .int .i64 f.freeze], .slice A n c, .int .i64 H, .int .i64 p] w fun e w' => e = .returned (.tuple #[.int .i64 va, .int .i64 vb]) ∧ Below w.heap.size w w' := by
  refine (Needs_any f A n c nw H p w hn hr (fun x hx => ?_) hm).mono ?_
  · have := E.valid_id (hnow.valid x hx)
    have e1 : IntKind.i64.min = -9223372036854775808 := by decide
    have e2 : IntKind.i64.max = 9223372036854775807 := by decide
    show (decide (IntKind.i64.min ≤ x.id) && decide (x.id ≤ IntKind.i64.max)) = true
    rw [e1, e2, Bool.and_eq_true, decide_eq_true_eq, decide_eq_true_eq]
    omega
  · rintro e w' ⟨rfl, hb⟩
    refine ⟨?_, hb⟩
    unfold NeedsPost
    rw [if_pos (now_err hnow hv hH hp), hR]
    have e1 : va = (nv r).1 := by rw [hv2]
    have e2 : vb = (nv r).2 := by rw [hv2]
    rw [e1, e2]
    cases r <;> rfl
end Go.Proofs.Ytobjahlmjcnfoaa

namespace Go.Proofs.Ytobjahlmjcnfoaa
open Go

section
variable {P : Program} {ops : Array Oper} {md : Region.Mode} {w : World}

def upTo (N : Nat) : Nat → Array Bool
  | 0 => Array.replicate N false
  | k + 1 => (upTo N k).setIfInBounds k true
structure GateAt (md : Region.Mode) (ops : Array Oper) (k n : Nat) (listed : Array Bool) : Prop where
  size : listed.size = ops.size
  closed : ∀ j oj, ops[j]? = some oj → listed.getD j false = true → ∀ e ∈ oj.after, Region.binds md e = true → listed.getD e.on false = true
  low : ∀ i, i < k → listed.getD i false = true
  high : ∀ t, n ≤ t → t < ops.size → listed.getD t true = false

theorem GateAt.put {k n i : Nat} {listed : Array Bool} (h : GateAt md ops k n listed) (hi : i ∈ Region.ready md ops listed) (hn : i < n) : GateAt md ops k n (listed.setIfInBounds i true) := by
  obtain ⟨_, oi, ho, hd⟩ := mem_ready.1 hi
  refine ⟨by rw [Array.size_setIfInBounds]; exact h.size, ?_, fun j hj => getD_set_true (h.low j hj), ?_⟩
  · intro j oj hj hl e he hb
    refine getD_set_true ?_
    rcases Nat.decEq i j with hne | heq
    · rw [getD_set_ne false hne] at hl
      exact h.closed j oj hj hl e he hb
    · subst heq
      rw [ho] at hj
      rw [← Option.some.inj hj] at he
      exact hd e he hb
  · intro t ht hs
    rw [getD_set_ne true (by omega)]
    exact h.high t ht hs

end
end Go.Proofs.Ytobjahlmjcnfoaa
