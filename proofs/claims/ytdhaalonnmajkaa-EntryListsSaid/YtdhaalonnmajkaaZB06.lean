/-
  Part of a claim's texts: contracts of the program's functions and the plain functions that they compute, in build order.
-/
import Derived.BigQuiet
import Derived.Deep.MidRow
import Derived.Test.YtdhaalonnmajkaaProg
import Derived.StillTail
import Derived.Test.YtdhaalonnmajkaaZB05
namespace Go.Proofs.Ytdhaalonnmajkaa
namespace E

theorem guardsOf_app (s : St) (l m : List Int) : s.guardsOf (l ++ m) = s.guardsOf l + s.guardsOf m := by
  unfold St.guardsOf
  rw [List.map_append, List.sum_append]
theorem guardsOf_one (s : St) (k : Int) : s.guardsOf [k] = one (s.pl k).grd := by simp [St.guardsOf]
theorem fill_full {s : St} (lt : Bool) : ∀ (l acc : List Int) (g : Int), s.f.places ≤ (acc.length : Int) → s.fill lt l acc g = acc
  | [], _, _, _ => rfl
  | a :: r, acc, g, h => by
    unfold St.fill
    rw [if_neg (fun hc => by have := hc.1; omega)]
    exact fill_full lt r acc g h
theorem fill_guards {s : St} (lt : Bool) : ∀ (l acc : List Int) (g : Int), s.guardsOf acc ≤ s.guardsOf (s.fill lt l acc g)
  | [], _, _ => Int.le_refl _
  | a :: r, acc, g => by
    unfold St.fill
    split
    · have h1 := fill_guards (s := s) lt r (acc ++ [a]) (g + one (s.pl a).grd)
      have h2 := one_bd (s.pl a).grd
      rw [guardsOf_app, guardsOf_one] at h1
      omega
    · exact fill_guards lt r acc g

theorem fill_pass {s : St} (lt : Bool) {o : Int} : ∀ (l acc : List Int) (g : Int), g = s.guardsOf acc → o ∈ l → o ∉ s.fill lt l acc g →
    (s.f.places ≤ ((s.fill lt l acc g).length : Int) ∧ ∃ l1 l2, l = l1 ++ o :: l2 ∧ ∀ k ∈ s.fill lt l acc g, k ∈ acc ∨ k ∈ l1) ∨ (lt = true ∧ (s.pl o).sgn = false) ∨ ((s.pl o).grd = true ∧ s.f.guards ≤ s.guardsOf (s.fill lt l acc g))
  | [], _, _, _, h, _ => by cases h
  | a :: r, acc, g, hg, ho, hn => by
    unfold St.fill at hn ⊢
    by_cases hc : (acc.length : Int) < s.f.places ∧ ((s.pl a).sgn = true ∨ lt = false) ∧ (g < s.f.guards ∨ (s.pl a).grd = false)
    · rw [if_pos hc] at hn ⊢
      have hno : o ≠ a := fun e => hn (fill_keep lt r _ _ (by rw [e]; simp))
      have hor : o ∈ r := (List.mem_cons.1 ho).resolve_left hno
      rcases fill_pass lt r (acc ++ [a]) (g + one (s.pl a).grd) (by rw [guardsOf_app, guardsOf_one, hg]) hor hn with ⟨h1, l1, l2, h2, h3⟩ | h1
      · refine .inl ⟨h1, a :: l1, l2, by rw [h2]; rfl, fun k hk => ?_⟩
        rcases h3 k hk with h4 | h4
        · rcases List.mem_append.1 h4 with h5 | h5
          · exact .inl h5
          · right; simp at h5; rw [h5]; exact List.mem_cons_self ..
        · exact .inr (List.mem_cons_of_mem _ h4)
      · exact .inr h1
    · rw [if_neg hc] at hn ⊢
      by_cases e : o = a
      · subst e
        by_cases h1 : (acc.length : Int) < s.f.places
        · by_cases h2 : (s.pl o).sgn = true ∨ lt = false
          · have h3 : ¬ (g < s.f.guards ∨ (s.pl o).grd = false) := fun h => hc ⟨h1, h2, h⟩
            have h4 : (s.pl o).grd = true := by
              cases h : (s.pl o).grd with
              | true => rfl
              | false => exact absurd (.inr h) h3
            have h5 : ¬ g < s.f.guards := fun h => h3 (.inl h)
            have h6 := fill_guards (s := s) lt r acc g
            exact .inr (.inr ⟨h4, by omega⟩)
          · refine .inr (.inl ⟨?_, ?_⟩)
            · cases h : lt with
              | true => rfl
              | false => exact absurd (.inr h) h2
            · cases h : (s.pl o).sgn with
              | false => rfl
              | true => exact absurd (.inl h) h2
        · rw [fill_full lt r acc g (by omega)]
          exact .inl ⟨by omega, [], r, rfl, fun k hk => .inl hk⟩
      · have hor : o ∈ r := (List.mem_cons.1 ho).resolve_left e
        rcases fill_pass lt r acc g hg hor hn with ⟨h1, l1, l2, h2, h3⟩ | h1
        · refine .inl ⟨h1, a :: l1, l2, by rw [h2]; rfl, fun k hk => ?_⟩
          exact (h3 k hk).imp id (fun h4 => List.mem_cons_of_mem _ h4)
        · exact .inr h1

theorem alts_mem {s : St} {o : Int} : o ∈ s.alts ↔ o ∈ s.order ∧ o ∉ s.main := by
  unfold St.alts
  rw [List.mem_filter]
  simp

theorem right_late {s : St} {x : Nt} (hl : late s.f x.hour = true) {o : Int} (ho : o ∈ (s.take x).alts) (hs : ((s.take x).pl o).sgn = true) :
    (s.take x).f.places ≤ ((s.take x).main.length : Int) ∨ (((s.take x).pl o).grd = true ∧ (s.take x).f.guards ≤ (s.take x).guardsOf (s.take x).main) := by
  obtain ⟨h1, h2⟩ := alts_mem.1 ho
  have key : ∀ (u : St), o ∈ (u.settle true).order → o ∉ (u.settle true).main → ((u.settle true).pl o).sgn = true → (u.settle true).f.places ≤ ((u.settle true).main.length : Int) ∨ (((u.settle true).pl o).grd = true ∧ (u.settle true).f.guards ≤ (u.settle true).guardsOf (u.settle true).main) := by
    intro u h1 h2 hs
    have hm : o ∉ u.main.filter (fun k => true && (u.pl k).entry) := fun h => h2 (fill_keep _ _ _ _ h)
    have hin : o ∈ ({ u with main := u.main.filter (fun k => true && (u.pl k).entry) } : St).alts := alts_mem.2 ⟨h1, hm⟩
    rcases fill_pass (s := u) true _ _ _ rfl hin h2 with h3 | h3 | h3
    · exact .inl h3.1
    · have : (u.pl o).sgn = true := hs
      rw [h3.2] at this; cases this
    · exact .inr h3
  unfold St.take at h1 h2 hs ⊢
  rw [hl] at h1 h2 hs ⊢
  exact key _ h1 h2 hs

theorem right_early {s : St} (hm : s.main = s.greedy) {o : Int} (ho : o ∈ s.alts) :
    (s.f.places ≤ (s.main.length : Int) ∧ ∀ k ∈ s.main, 0 ≤ cmpP (s.pl o) (s.pl k)) ∨ ((s.pl o).grd = true ∧ s.f.guards ≤ s.guardsOf s.main) := by
  obtain ⟨h1, h2⟩ := alts_mem.1 ho
  rw [hm] at h2 ⊢
  unfold St.greedy at h2 ⊢
  rcases fill_pass (s := s) false s.order [] 0 (by simp [St.guardsOf]) h1 h2 with ⟨h3, l1, l2, h4, h5⟩ | h3 | h3
  · refine .inl ⟨h3, fun k hk => ?_⟩
    have hk1 : k ∈ l1 := (h5 k hk).resolve_left (by simp)
    have hs := List.pairwise_mergeSort (le := s.leP) (leP_trans s) (leP_total s) (s.known.filter fun k => (s.pl k).entry)
    change s.order.Pairwise _ at hs
    rw [h4] at hs
    have := (List.pairwise_append.1 hs).2.2 k hk1 o (List.mem_cons_self ..)
    unfold St.leP at this
    exact of_decide_eq_true this
  · cases h3.1
  · exact .inr h3

theorem cmpP_rank {p q : Pl} (h : 0 ≤ cmpP p q) : ¬ (0 < p.rank ∧ (q.rank = 0 ∨ p.rank < q.rank)) := by
  rintro ⟨h1, h2⟩
  unfold cmpP at h
  have e1 : (p.rank == 0) = false := by rw [beq_eq_false_iff_ne]; omega
  rw [e1] at h
  by_cases hq : q.rank = 0
  · have e2 : (q.rank == 0) = true := by rw [hq]; rfl
    rw [e2] at h
    simp [one, orL, cmp] at h
  · have e2 : (q.rank == 0) = false := by rw [beq_eq_false_iff_ne]; exact hq
    rw [e2] at h
    have h3 : p.rank < q.rank := h2.resolve_left hq
    simp [one, orL, cmp, h3] at h

theorem sgn_said (s : St) (x : Nt) (p : Int) : ((s.said x).pl p).sgn = ((s.pl p).sgn || (decide (x.kind = 5) && decide (x.player = p))) := by
  have put : ∀ (s0 : St) (q : Pl), (s0.put x.player q).pl p = if p = x.player then q else s0.pl p := fun _ _ => rfl
  unfold St.said
  dsimp only
  by_cases hp : p = x.player
  · subst hp
    repeat' split
    all_goals (rw [put, if_pos rfl])
    all_goals first
      | (rename_i h _; have h5 : ¬ x.kind = 5 := (by omega); simp [h5]; done)
      | (rename_i h; have h5 : ¬ x.kind = 5 := (by omega); simp [h5]; done)
      | (rename_i h; simp [h]; done)
  · have e : decide (x.player = p) = false := decide_eq_false (fun h => hp h.symm)
    rw [e, Bool.and_false, Bool.or_false]
    repeat' split
    all_goals rw [put, if_neg hp]
theorem sgn_fold (p : Int) : ∀ (r : List Nt) (s : St), ((r.foldl St.take s).pl p).sgn = true ↔ (s.pl p).sgn = true ∨ ∃ x ∈ r, x.kind = 5 ∧ x.player = p
  | [], s => by simp
  | x :: r, s => by
    have e : ((s.take x).pl p).sgn = ((s.said x).pl p).sgn := rfl
    rw [List.foldl_cons, sgn_fold p r, e, sgn_said]
    simp only [Bool.or_eq_true, Bool.and_eq_true, decide_eq_true_eq, List.mem_cons]
    constructor
    · rintro ((h | h) | ⟨y, hy, h⟩)
      · exact .inl h
      · exact .inr ⟨x, .inl rfl, h⟩
      · exact .inr ⟨y, .inr hy, h⟩
    · rintro (h | ⟨y, rfl | hy, h⟩)
      · exact .inl (.inl h)
      · exact .inl (.inr h)
      · exact .inr ⟨y, hy, h⟩
theorem said_guards (s : St) (x : Nt) : (s.said x).f.guards = s.f.guards := by
  unfold St.said
  dsimp only
  repeat' split
  all_goals (first | rfl | (simp only [St.put]; split <;> rfl))
theorem fold_guards : ∀ (r : List Nt) (s : St), (r.foldl St.take s).f.guards = s.f.guards
  | [], _ => rfl
  | x :: r, s => (fold_guards r (s.take x)).trans (said_guards s x)

theorem right {f : Fd} {l d : List Nt} (hd : diffs l = some d) (h : Int) {o : Int} (ho : o ∈ (atL f h d).alts) (hb : ¬ ((entF f h o l).kind = 2 ∧ f.guards ≤ (atL f h d).guardsOf (atL f h d).main)) :
    (h ≤ f.freeze → (atL f h d).f.places ≤ ((atL f h d).main.length : Int) ∧ ∀ k ∈ (atL f h d).main, ¬ (0 < (entF f h o l).rank ∧ ((entF f h k l).rank = 0 ∨ (entF f h o l).rank < (entF f h k l).rank))) ∧
    (f.freeze < h → (∃ x ∈ l, f.freeze < x.hour ∧ x.hour ≤ h) → (∃ x ∈ l, x.kind = 5 ∧ x.player = o ∧ x.hour ≤ h) → (atL f h d).f.places ≤ ((atL f h d).main.length : Int)) := by
  obtain ⟨_, ht, hm⟩ := diffs_spec hd
  have hg : (atL f h d).f.guards = f.guards := fold_guards _ _
  have hgr : ∀ k, ((atL f h d).pl k).grd = decide ((entF f h k l).kind = 2) := fun k => congrArg (fun t => t.2.1) (entered_eq hd f h k)
  have hrk : ∀ k, ((atL f h d).pl k).rank = (entF f h k l).rank := fun k => congrArg (fun t => t.2.2) (entered_eq hd f h k)
  have hnb : ¬ (((atL f h d).pl o).grd = true ∧ (atL f h d).f.guards ≤ (atL f h d).guardsOf (atL f h d).main) := fun hh => hb ⟨by have := hh.1; rw [hgr] at this; exact of_decide_eq_true this, by have := hh.2; rw [hg] at this; exact this⟩
  refine ⟨fun hz => ?_, fun hz ⟨x, hx, hx1, hx2⟩ ⟨y, hy, hy1, hy2, hy3⟩ => ?_⟩
  · have hgreedy : (atL f h d).main = (atL f h d).greedy := fold_greedy f.freeze _ (St.new f) rfl (fun x hx => by have := (List.mem_filter.1 hx).2; simp at this; omega) (greedy_new f)
    rcases right_early hgreedy ho with ⟨h1, h2⟩ | h1
    · refine ⟨h1, fun k hk => ?_⟩
      have := cmpP_rank (h2 k hk)
      rw [hrk, hrk] at this
      exact this
    · exact absurd h1 hnb
  · obtain ⟨r, z, hr⟩ : ∃ r z, d.filter (fun x => decide (x.hour ≤ h)) = r ++ [z] := by
      have hmem : x ∈ d.filter (fun x => decide (x.hour ≤ h)) := List.mem_filter.2 ⟨(hm x).2 hx, by simpa using hx2⟩
      have hne : d.filter (fun x => decide (x.hour ≤ h)) ≠ [] := List.ne_nil_of_mem hmem
      exact ⟨_, _, (List.dropLast_concat_getLast hne).symm⟩
    have hz2 : f.freeze < z.hour := by
      have hmem : x ∈ r ++ [z] := by rw [← hr]; exact List.mem_filter.2 ⟨(hm x).2 hx, by simpa using hx2⟩
      have hs : (r ++ [z]).Pairwise (fun a b => a.hour ≤ b.hour) := by rw [← hr]; exact List.Pairwise.sublist List.filter_sublist (taken_hours ht)
      rcases List.mem_append.1 hmem with h1 | h1
      · have := (List.pairwise_append.1 hs).2.2 x h1 z (by simp)
        omega
      · simp at h1; rw [← h1]; exact hx1
    have hat : atL f h d = (r.foldl St.take (St.new f)).take z := by
      unfold atL
      rw [hr, List.foldl_append]
      rfl
    have hfz := (fold_fd r (St.new f)).2
    have hlate : late (r.foldl St.take (St.new f)).f z.hour = true := by
      unfold late
      rw [hfz]
      exact decide_eq_true hz2
    have hsg : ((atL f h d).pl o).sgn = true := (sgn_fold o _ (St.new f)).2 (.inr ⟨y, List.mem_filter.2 ⟨(hm y).2 hy, by simpa using hy3⟩, hy1, hy2⟩)
    rw [hat] at ho hsg hnb ⊢
    rcases right_late hlate ho hsg with h1 | h1
    · exact h1
    · exact absurd h1 hnb
end E
end Go.Proofs.Ytdhaalonnmajkaa

namespace Go.Proofs.Ytdhaalonnmajkaa
namespace E

theorem fill_nodup {s : St} (lt : Bool) : ∀ (l acc : List Int) (g : Int), (acc ++ l).Nodup → (s.fill lt l acc g).Nodup
  | [], acc, _, h => by simpa [St.fill] using h
  | a :: r, acc, g, h => by
    unfold St.fill
    split
    · exact fill_nodup lt r (acc ++ [a]) _ (by simpa using h)
    · exact fill_nodup lt r acc g (List.Nodup.sublist (List.Sublist.append_left (List.sublist_cons_self a r) acc) h)
theorem fill_grd {s : St} (lt : Bool) : ∀ (l acc : List Int) (g : Int), g = s.guardsOf acc → s.guardsOf acc ≤ s.f.guards → s.guardsOf (s.fill lt l acc g) ≤ s.f.guards
  | [], acc, _, _, h => h
  | a :: r, acc, g, hg, h => by
    unfold St.fill
    split
    · rename_i hc
      refine fill_grd lt r (acc ++ [a]) _ (by rw [guardsOf_app, guardsOf_one, hg]) ?_
      rw [guardsOf_app, guardsOf_one]
      rcases hc.2.2 with h1 | h1
      · have := one_bd (s.pl a).grd; omega
      · rw [h1]; show _ + (0 : Int) ≤ _; omega
    · exact fill_grd lt r acc g hg h
theorem fill_room {s : St} (lt : Bool) : ∀ (l acc : List Int) (g : Int), (acc.length : Int) ≤ s.f.places → ((s.fill lt l acc g).length : Int) ≤ s.f.places
  | [], acc, _, h => h
  | a :: r, acc, g, h => by
    unfold St.fill
    split
    · rename_i hc
      exact fill_room lt r (acc ++ [a]) _ (by rw [List.length_append, List.length_singleton]; push_cast; omega)
    · exact fill_room lt r acc g h
theorem guardsOf_filter (s : St) (p : Int → Bool) : ∀ (l : List Int), s.guardsOf (l.filter p) ≤ s.guardsOf l
  | [] => Int.le_refl _
  | a :: r => by
    have ih := guardsOf_filter s p r
    have h1 := one_bd (s.pl a).grd
    have e : s.guardsOf (a :: r) = one (s.pl a).grd + s.guardsOf r := by simp [St.guardsOf]
    by_cases h : p a = true
    · rw [List.filter_cons_of_pos h]
      have e2 : s.guardsOf (a :: r.filter p) = one (s.pl a).grd + s.guardsOf (r.filter p) := by simp [St.guardsOf]
      omega
    · rw [List.filter_cons_of_neg h]; omega
theorem guardsOf_congr {s u : St} : ∀ (l : List Int), (∀ k ∈ l, (u.pl k).grd = (s.pl k).grd) → u.guardsOf l = s.guardsOf l := by
  intro l h
  unfold St.guardsOf
  congr 1
  exact List.map_congr_left (fun k hk => by rw [h k hk])

structure Plc (s : St) : Prop where
  room : (s.main.length : Int) ≤ s.f.places
  wilds : (s.cards.length : Int) ≤ s.f.wilds
  mnd : s.main.Nodup
  cnd : s.cards.Nodup
  cards : CardsOk s
  ment : ∀ k ∈ s.main, (s.pl k).entry = true
  guards : s.guardsOf s.main ≤ s.f.guards
  g0 : 0 ≤ s.f.guards
  cf : s.f.close ≤ s.f.freeze

theorem said_wilds (s : St) (x : Nt) : (s.said x).f.wilds = s.f.wilds := by
  unfold St.said
  dsimp only
  repeat' split
  all_goals (first | rfl | (simp only [St.put]; split <;> rfl))
theorem said_main (s : St) (x : Nt) : (s.said x).main = s.main := by
  unfold St.said
  dsimp only
  repeat' split
  all_goals rfl
theorem said_places (s : St) (x : Nt) : s.f.places ≤ (s.said x).f.places := by
  unfold St.said
  dsimp only
  repeat' split
  all_goals first
    | exact Int.le_refl _
    | (show _ ≤ s.f.places + 1; omega)
theorem said_cards {s : St} (h : CardsOk s) (x : Nt) (hn : s.cards.Nodup) (hl : (s.cards.length : Int) ≤ s.f.wilds) : (s.said x).cards.Nodup ∧ ((s.said x).cards.length : Int) ≤ s.f.wilds := by
  unfold St.said
  dsimp only
  repeat' split
  all_goals first
    | exact ⟨hn, hl⟩
    | (rename_i hc
       refine ⟨?_, ?_⟩
       · show (s.cards ++ [x.player]).Nodup
         rw [List.nodup_append]
         refine ⟨hn, by simp, fun a ha b hb e => ?_⟩
         simp only [List.mem_singleton] at hb
         rw [e, hb] at ha
         have := ((h x.player).1 ha).1
         rw [hc.2.1] at this; cases this
       · show (((s.cards ++ [x.player]).length : Nat) : Int) ≤ _
         rw [List.length_append, List.length_singleton]; push_cast; have := hc.2.2.2; omega)
    | exact ⟨List.Nodup.sublist List.filter_sublist hn, Int.le_trans (by show (((s.cards.filter _).length : Nat) : Int) ≤ _; exact Int.ofNat_le.2 (List.length_filter_le _ _)) hl⟩

theorem plc_new {f : Fd} (h : validField f = true) : Plc (St.new f) := by
  have := valid_places h
  unfold validField at h
  simp only [Bool.and_eq_true] at h
  unfold within at h
  simp only [Bool.and_eq_true, decide_eq_true_eq] at h
  refine ⟨?_, ?_, List.nodup_nil, List.nodup_nil, cards_new f, (fun k hk => by cases hk), ?_, ?_, ?_⟩
  · show ((0 : Nat) : Int) ≤ f.places; omega
  · show ((0 : Nat) : Int) ≤ f.wilds; omega
  · show (0 : Int) ≤ f.guards; omega
  · show (0 : Int) ≤ f.guards; omega
  · show f.close ≤ f.freeze; omega
theorem plc_take {s : St} (hs : StOk s) (hT : 0 ≤ s.turns) (h : Plc s) (x : Nt) (hx : 0 ≤ x.player ∧ x.player ≤ 999) : Plc (s.take x) := by
  have hu := said_ok hs x hx hT
  have hm := said_main s x
  have hp := said_places s x
  have hg := said_guards s x
  have hw := said_wilds s x
  have hc := said_cards h.cards x h.cnd h.wilds
  have hce := said_fd s x
  have hfe := said_freeze s x
  have hment := main_entry s x
  have hlate : late s.f x.hour = true → ∀ k, ((s.said x).pl k).grd = (s.pl k).grd := fun hl k => by
    have h1 : s.f.freeze < x.hour := of_decide_eq_true hl
    have h2 := h.cf
    exact (said_lateS s x (by omega)).grd k
  obtain ⟨lt, hlt⟩ : ∃ b, late s.f x.hour = b := ⟨_, rfl⟩
  have et : s.take x = (s.said x).settle lt := by rw [← hlt]; rfl
  have hgr : (s.said x).guardsOf ((s.said x).main.filter (fun k => lt && ((s.said x).pl k).entry)) ≤ (s.said x).f.guards := by
    cases lt with
    | false =>
      have e : (s.said x).main.filter (fun k => false && ((s.said x).pl k).entry) = [] := by simp
      rw [e, hg]; exact h.g0
    | true =>
      refine Int.le_trans (guardsOf_filter _ _ _) ?_
      rw [hm, hg, guardsOf_congr (s := s) (u := s.said x) s.main (fun k _ => hlate hlt k)]
      exact h.guards
  rw [et] at hment ⊢
  refine ⟨?_, ?_, ?_, hc.1, (cards_take h.cards x), hment, ?_, ?_, ?_⟩
  · show ((St.fill (s.said x) lt _ _ _).length : Int) ≤ (s.said x).f.places
    refine fill_room lt _ _ _ (Int.le_trans (Int.ofNat_le.2 (List.length_filter_le _ _)) ?_)
    rw [hm]
    exact Int.le_trans h.room hp
  · show ((s.said x).cards.length : Int) ≤ (s.said x).f.wilds
    rw [hw]; exact hc.2
  · show (St.fill (s.said x) lt _ _ _).Nodup
    refine fill_nodup lt _ _ _ ?_
    rw [List.nodup_append]
    refine ⟨List.Nodup.sublist List.filter_sublist (by rw [hm]; exact h.mnd), List.Nodup.sublist List.filter_sublist (order_nodup (s := { s.said x with main := (s.said x).main.filter (fun k => lt && ((s.said x).pl k).entry) }) ⟨hu.1.known, hu.1.range, hu.1.zero, hu.1.turn, hu.1.apart, fun k hk => hu.1.main k (List.mem_filter.1 hk).1, hu.1.cards⟩), fun a ha b hb e => ?_⟩
    have := (alts_mem.1 hb).2
    rw [e] at ha
    exact this ha
  · exact fill_grd lt _ _ _ rfl hgr
  · show 0 ≤ (s.said x).f.guards
    rw [hg]; exact h.g0
  · show (s.said x).f.close ≤ (s.said x).f.freeze
    rw [hce, hfe]; exact h.cf
theorem plc_fold : ∀ (r : List Nt) (s : St), StOk s → 0 ≤ s.turns → Plc s → (∀ x ∈ r, 0 ≤ x.player ∧ x.player ≤ 999) → Plc (r.foldl St.take s)
  | [], _, _, _, h, _ => h
  | x :: r, s, hs, hT, h, hp => by
    have hx := hp x (List.mem_cons_self ..)
    have h1 := E.take_ok hs x hx hT
    exact plc_fold r (s.take x) h1.1 h1.2 (plc_take hs hT h x hx) (fun y hy => hp y (List.mem_cons_of_mem _ hy))

theorem quit_said (s : St) (x : Nt) (p : Int) : ((s.said x).pl p).quit = ((s.pl p).quit || (decide (x.kind = 4) && decide (x.player = p))) := by
  have put : ∀ (s0 : St) (q : Pl), (s0.put x.player q).pl p = if p = x.player then q else s0.pl p := fun _ _ => rfl
  unfold St.said
  dsimp only
  by_cases hp : p = x.player
  · subst hp
    repeat' split
    all_goals (rw [put, if_pos rfl])
    all_goals first
      | (rename_i h _; have h5 : ¬ x.kind = 4 := (by omega); simp [h5]; done)
      | (rename_i h; have h5 : ¬ x.kind = 4 := (by omega); simp [h5]; done)
      | (rename_i h; simp [h]; done)
      | (rename_i h _; simp [h]; done)
  · have e : decide (x.player = p) = false := decide_eq_false (fun h => hp h.symm)
    rw [e, Bool.and_false, Bool.or_false]
    repeat' split
    all_goals rw [put, if_neg hp]
theorem quit_fold (p : Int) : ∀ (r : List Nt) (s : St), ((r.foldl St.take s).pl p).quit = true ↔ (s.pl p).quit = true ∨ ∃ x ∈ r, x.kind = 4 ∧ x.player = p
  | [], s => by simp
  | x :: r, s => by
    have e : ((s.take x).pl p).quit = ((s.said x).pl p).quit := rfl
    rw [List.foldl_cons, quit_fold p r, e, quit_said]
    simp only [Bool.or_eq_true, Bool.and_eq_true, decide_eq_true_eq, List.mem_cons]
    constructor
    · rintro ((h | h) | ⟨y, hy, h⟩)
      · exact .inl h
      · exact .inr ⟨x, .inl rfl, h⟩
      · exact .inr ⟨y, .inr hy, h⟩
    · rintro (h | ⟨y, rfl | hy, h⟩)
      · exact .inl (.inl h)
      · exact .inl (.inr h)
      · exact .inr ⟨y, hy, h⟩

theorem late_count {s : St} (h : CardsOk s) (hn : s.cards.Nodup) (x : Nt) (hl : late s.f x.hour = true) : (s.take x).f.places + ((s.take x).cards.length : Int) = s.f.places + (s.cards.length : Int) ∧ (s.take x).cards.Sublist s.cards := by
  show (s.said x).f.places + ((s.said x).cards.length : Int) = _ ∧ (s.said x).cards.Sublist s.cards
  unfold St.said
  dsimp only
  rw [hl]
  by_cases k12 : x.kind = 1 ∨ x.kind = 2
  · rw [if_pos k12]
    split
    · exact ⟨rfl, List.Sublist.refl _⟩
    · exact ⟨rfl, List.Sublist.refl _⟩
  · rw [if_neg k12]
    by_cases k3 : x.kind = 3
    · rw [if_pos k3, if_neg (fun hh => by cases hh.1)]
      exact ⟨rfl, List.Sublist.refl _⟩
    · rw [if_neg k3]
      by_cases k4 : x.kind = 4
      · rw [if_pos k4]
        refine ⟨?_, List.filter_sublist⟩
        by_cases hc : x.player ∈ s.cards
        · have h1 := (h x.player).1 hc
          rw [if_pos ⟨rfl, h1⟩]
          show s.f.places + 1 + ((s.cards.filter (fun k => k != x.player)).length : Int) = _
          have e : s.cards.filter (fun k => k != x.player) = s.cards.erase x.player := (List.Nodup.erase_eq_filter hn x.player).symm
          rw [e, List.length_erase_of_mem hc]
          have := List.length_pos_of_mem hc
          omega
        · have h1 : ¬ (True ∧ (s.pl x.player).card = true ∧ (s.pl x.player).quit = false) := fun hh => hc ((h x.player).2 hh.2)
          rw [if_neg (fun hh => h1 ⟨trivial, hh.2⟩)]
          show s.f.places + ((s.cards.filter (fun k => k != x.player)).length : Int) = _
          rw [List.filter_eq_self.2 (fun k hk => by simp only [bne_iff_ne, ne_eq]; exact fun e => hc (e ▸ hk))]
      · rw [if_neg k4]
        split
        · exact ⟨rfl, List.Sublist.refl _⟩
        · exact ⟨rfl, List.Sublist.refl _⟩
theorem late_fold (z : Int) : ∀ (r : List Nt) (s : St), StOk s → 0 ≤ s.turns → Plc s → (∀ x ∈ r, 0 ≤ x.player ∧ x.player ≤ 999) → s.f.freeze = z → (∀ x ∈ r, z < x.hour) → (r.foldl St.take s).f.places + ((r.foldl St.take s).cards.length : Int) = s.f.places + (s.cards.length : Int) ∧ (r.foldl St.take s).cards.Sublist s.cards
  | [], _, _, _, _, _, _, _ => ⟨rfl, List.Sublist.refl _⟩
  | x :: r, s, hs, hT, h, hp, hz, hr => by
    have hx := hp x (List.mem_cons_self ..)
    have h1 := E.take_ok hs x hx hT
    have hl : late s.f x.hour = true := by unfold late; rw [hz]; exact decide_eq_true (hr x (List.mem_cons_self ..))
    obtain ⟨h2, h3⟩ := late_count h.cards h.cnd x hl
    obtain ⟨h4, h5⟩ := late_fold z r (s.take x) h1.1 h1.2 (plc_take hs hT h x hx) (fun y hy => hp y (List.mem_cons_of_mem _ hy)) ((said_freeze s x).trans hz) (fun y hy => hr y (List.mem_cons_of_mem _ hy))
    exact ⟨h4.trans h2, h5.trans h3⟩
theorem early_places (s : St) (x : Nt) (hl : late s.f x.hour = false) : (s.take x).f.places = s.f.places := by
  show (s.said x).f.places = _
  unfold St.said
  dsimp only
  rw [hl]
  repeat' split
  all_goals first
    | rfl
    | (rename_i hh; cases hh.1)
theorem early_fold (z : Int) : ∀ (r : List Nt) (s : St), s.f.freeze = z → (∀ x ∈ r, x.hour ≤ z) → (r.foldl St.take s).f.places = s.f.places
  | [], _, _, _ => rfl
  | x :: r, s, hz, hr => by
    have hl : late s.f x.hour = false := by unfold late; rw [hz]; have := hr x (List.mem_cons_self ..); exact decide_eq_false (by omega)
    exact (early_fold z r (s.take x) ((said_freeze s x).trans hz) (fun y hy => hr y (List.mem_cons_of_mem _ hy))).trans (early_places s x hl)

theorem sub_count : ∀ {a b : List Int}, a.Sublist b → b.Nodup → ((b.filter (fun k => !a.contains k)).length : Int) = (b.length : Int) - (a.length : Int) := by
  intro a b h hn
  have h1 : (b.filter (fun k => a.contains k)) = a := by
    induction h with
    | slnil => rfl
    | @cons l1 l2 c h ih =>
      have hc := List.nodup_cons.1 hn
      rw [List.filter_cons_of_neg (by simp only [List.contains_eq_mem, decide_eq_true_eq]; exact fun e => hc.1 (h.subset e)), ih hc.2]
    | @cons_cons l1 l2 c h ih =>
      have hc := List.nodup_cons.1 hn
      rw [List.filter_cons_of_pos (by simp)]
      congr 1
      refine Eq.trans (List.filter_congr (fun k hk => ?_)) (ih hc.2)
      have : k ≠ c := fun e => hc.1 (e ▸ hk)
      simp [this]
  have h2 := List.length_eq_countP_add_countP (fun k => a.contains k) (l := b)
  rw [List.countP_eq_length_filter, List.countP_eq_length_filter, h1] at h2
  have e : (b.filter (fun k => !a.contains k)) = (b.filter (fun k => decide (¬ (a.contains k = true)))) := List.filter_congr (fun k _ => by cases a.contains k <;> rfl)
  rw [e]
  omega

theorem idx_at {l : List Int} (hn : l.Nodup) {i : Nat} {k : Int} (h : l[i]? = some k) : idx l k = (i : Int) := by
  unfold idx
  have hi := (List.getElem?_eq_some_iff.1 h).1
  have : l.findIdx? (· == k) = some i := by
    rw [List.findIdx?_eq_some_iff_getElem]
    refine ⟨hi, by have := (List.getElem?_eq_some_iff.1 h).2; simp [this], fun j hj => ?_⟩
    simp only [beq_iff_eq]
    intro e
    have h2 := (List.getElem?_eq_some_iff.1 h).2
    exact List.pairwise_iff_getElem.1 hn j i (by omega) hi hj (e.trans h2.symm)
  rw [this]
theorem idx_no {l : List Int} {k : Int} (h : k ∉ l) : idx l k = -1 := by
  unfold idx
  have : l.findIdx? (· == k) = none := by
    rw [List.findIdx?_eq_none_iff]
    intro y hy
    simp only [beq_eq_false_iff_ne, ne_eq]
    exact fun e => h (e ▸ hy)
  rw [this]

structure PlcAt (f : Fd) (h : Int) (l d : List Nt) (i : Nat) (k : Int) (S : St) : Prop where
  stand : S.where_ k = if i < S.main.length then (1, (i : Int) + 1) else if i < S.main.length + S.cards.length then (2, (i : Int) + 1 - S.main.length) else (3, (i : Int) + 1 - S.main.length - S.cards.length)
  quit : ∀ x ∈ l, ¬ (x.player = k ∧ x.kind = 4 ∧ x.hour ≤ h)
  ent : (i < S.main.length ∨ S.main.length + S.cards.length ≤ i) → (entF f h k l).hour ≤ 9999

theorem places {f : Fd} {l d : List Nt} (hd : diffs l = some d) (hv : validField f = true) (h : Int) (S : St) (hS : atL f h d = S) :
    (S.main.length : Int) ≤ S.f.places ∧ (S.cards.length : Int) ≤ f.wilds ∧ (S.main ++ S.cards ++ S.alts).Nodup ∧ (∀ (i : Nat) (k : Int), (S.main ++ S.cards ++ S.alts)[i]? = some k → PlcAt f h l d i k S) ∧
    S.guardsOf S.main ≤ f.guards ∧ (h ≤ f.freeze → S.f.places = f.places) ∧ (f.freeze < h → S.f.places = f.places + (((atL f f.freeze d).cards.filter (fun k => !S.cards.contains k)).length : Int)) := by
  obtain ⟨_, ht, hm⟩ := diffs_spec hd
  have hp : ∀ x ∈ d, 0 ≤ x.player ∧ x.player ≤ 999 := fun x hx => valid_player (ht.valid x hx)
  have hs := taken_hours ht
  have hpl : ∀ u, Plc (atL f u d) := fun u => plc_fold _ _ (new_ok f) (Int.le_refl _) (plc_new hv) (fun x hx => hp x (List.mem_filter.1 hx).1)
  have hok : ∀ u, StOk (atL f u d) ∧ 0 ≤ (atL f u d).turns := fun u => atL_ok f u hp
  have hfw : ∀ u, (atL f u d).f.wilds = f.wilds := fun u => by
    have : ∀ (r : List Nt) (s : St), (r.foldl St.take s).f.wilds = s.f.wilds := by
      intro r
      induction r with
      | nil => intro s; rfl
      | cons x r ih => intro s; exact (ih (s.take x)).trans (said_wilds s x)
    exact this _ _
  have hfg : ∀ u, (atL f u d).f.guards = f.guards := fun u => fold_guards _ _
  have P := hpl h
  have O := hok h
  have hent := fun k => entered_eq hd f h k
  have hquit : ∀ k, ((atL f h d).pl k).quit = true ↔ ∃ x ∈ l, x.player = k ∧ x.kind = 4 ∧ x.hour ≤ h := fun k => by
    have := quit_fold k (d.filter (fun x => decide (x.hour ≤ h))) (St.new f)
    change ((atL f h d).pl k).quit = true ↔ _ at this
    rw [this]
    constructor
    · rintro (h1 | ⟨x, hx, h1, h2⟩)
      · cases h1
      · obtain ⟨h3, h4⟩ := List.mem_filter.1 hx
        exact ⟨x, (hm x).1 h3, h2, h1, of_decide_eq_true h4⟩
    · rintro ⟨x, hx, h1, h2, h3⟩
      exact .inr ⟨x, List.mem_filter.2 ⟨(hm x).2 hx, decide_eq_true h3⟩, h2, h1⟩
  have hearly : ∀ u, u ≤ f.freeze → (atL f u d).f.places = f.places := fun u hu => early_fold f.freeze _ (St.new f) rfl (fun x hx => by have := of_decide_eq_true (List.mem_filter.1 hx).2; omega)
  have hlate : f.freeze < h → (atL f h d).f.places + ((atL f h d).cards.length : Int) = (atL f f.freeze d).f.places + ((atL f f.freeze d).cards.length : Int) ∧ (atL f h d).cards.Sublist (atL f f.freeze d).cards := fun hz => by
    have e2 : atL f h d = (d.filter (fun x => decide (f.freeze < x.hour) && decide (x.hour ≤ h))).foldl St.take (atL f f.freeze d) := by
      unfold atL
      rw [filter_split (h1 := f.freeze) (by omega) d hs, List.foldl_append]
    rw [e2]
    exact late_fold f.freeze _ _ (hok f.freeze).1 (hok f.freeze).2 (hpl f.freeze) (fun x hx => hp x (List.mem_filter.1 hx).1) (fold_fd _ _).2 (fun x hx => by have := (List.mem_filter.1 hx).2; simp at this; omega)
  rw [hS] at P O hent hquit hlate
  have hfw' := hfw h
  have hfg' := hfg h
  have hea := hearly h
  rw [hS] at hfw' hfg' hea

  have hment : ∀ k ∈ S.main, (S.pl k).entry = true := P.ment
  have haent : ∀ k ∈ S.alts, (S.pl k).entry = true := fun k hk => (order_mem.1 (alts_mem.1 hk).1).2
  have hcnot : ∀ k, (S.pl k).entry = true → k ∉ S.cards := fun k he hk => by
    have := ((P.cards k).1 hk).1
    unfold Pl.entry at he
    rw [this] at he
    simp at he
  have hnda : S.alts.Nodup := List.Nodup.sublist List.filter_sublist (order_nodup O.1)
  have hnd : (S.main ++ S.cards ++ S.alts).Nodup := by
    rw [List.nodup_append, List.nodup_append]
    refine ⟨⟨P.mnd, P.cnd, fun a ha b hb e => hcnot a (hment a ha) (e ▸ hb)⟩, hnda, fun a ha b hb e => ?_⟩
    subst e
    rcases List.mem_append.1 ha with h1 | h1
    · exact (alts_mem.1 hb).2 h1
    · exact hcnot a (haent a hb) h1
  refine ⟨P.room, by rw [← hfw']; exact P.wilds, hnd, fun i k hik => ?_, by rw [← hfg']; exact P.guards, hea, fun hz => ?_⟩
  · have hquitEnt : (S.pl k).entry = true → (S.pl k).quit = false := fun he => by
      unfold Pl.entry at he
      simp only [Bool.and_eq_true, Bool.not_eq_true'] at he
      exact he.1.2
    have entEnt : (S.pl k).entry = true → (entF f h k l).hour ≤ 9999 := fun he => by
      have h1 := congrArg (fun t => t.1) (hent k)
      have h2 : (tri (S.pl k)).1 = true := entry_ent he
      have h3 : decide ((entF f h k l).hour ≤ 9999) = true := h1.symm.trans h2
      exact of_decide_eq_true h3
    have noquit : (S.pl k).quit = false → ∀ x ∈ l, ¬ (x.player = k ∧ x.kind = 4 ∧ x.hour ≤ h) := fun hq x hx hh => by
      have := (hquit k).2 ⟨x, hx, hh⟩
      rw [hq] at this; cases this
    by_cases c1 : i < S.main.length
    · have hk : S.main[i]? = some k := by rw [List.append_assoc, List.getElem?_append_left c1] at hik; exact hik
      have hmem := List.mem_of_getElem? hk
      have he := hment k hmem
      refine ⟨?_, noquit (hquitEnt he), fun _ => entEnt he⟩
      rw [if_pos c1]
      unfold St.where_
      rw [idx_at P.mnd hk, if_pos (by omega)]
    · by_cases c2 : i < S.main.length + S.cards.length
      · have hk : S.cards[i - S.main.length]? = some k := by
          rw [List.append_assoc, List.getElem?_append_right (by omega), List.getElem?_append_left (by omega)] at hik; exact hik
        have hmem := List.mem_of_getElem? hk
        have hq := ((P.cards k).1 hmem).2
        have hnm : k ∉ S.main := fun hh => hcnot k (hment k hh) hmem
        refine ⟨?_, noquit hq, fun hh => by omega⟩
        rw [if_neg c1, if_pos c2]
        unfold St.where_
        rw [idx_no hnm, if_neg (by decide), idx_at P.cnd hk, if_pos (by omega)]
        congr 1
        omega
      · have hk : S.alts[i - (S.main.length + S.cards.length)]? = some k := by
          rw [List.getElem?_append_right (by rw [List.length_append]; omega), List.length_append] at hik; exact hik
        have hmem := List.mem_of_getElem? hk
        have he := haent k hmem
        have hnm : k ∉ S.main := (alts_mem.1 hmem).2
        have hnc : k ∉ S.cards := hcnot k he
        refine ⟨?_, noquit (hquitEnt he), fun _ => entEnt he⟩
        rw [if_neg c1, if_neg c2]
        unfold St.where_
        rw [idx_no hnm, if_neg (by decide), idx_no hnc, if_neg (by decide), idx_at hnda hk, if_pos (by omega)]
        congr 1
        omega
  · obtain ⟨h1, h2⟩ := hlate hz
    have h3 := hearly f.freeze (Int.le_refl _)
    have h4 := sub_count h2 (hpl f.freeze).cnd
    omega
end E
end Go.Proofs.Ytdhaalonnmajkaa

namespace Go.Proofs.Ytdhaalonnmajkaa
namespace E

structure Rp where
  player : Int
  rank : Int
  grd : Bool
  ent : Bool
  quit : Bool
  sgn : Bool
  card : Bool
  deriving DecidableEq
structure Rs where
  people : List Rp
  wilds : List Int
  back : Int
  ins : List Int

def Rp.new (k : Int) : Rp := ⟨k, 0, false, false, false, false, false⟩
def Rp.counts (p : Rp) : Bool := p.ent && !p.quit && !p.card
def Rs.new : Rs := ⟨[], [], 0, []⟩
def Rs.with_ (s : Rs) (k : Int) : List Rp := if s.people.any (fun p => p.player == k) then s.people else s.people ++ [Rp.new k]
def idxR (l : List Rp) (k : Int) : Nat := l.findIdx (fun p => p.player == k)
def rtake (f : Fd) (s : Rs) (x : Nt) : Rs :=
  let ppl := s.with_ x.player
  let n := idxR ppl x.player
  let p := ppl.getD n (Rp.new x.player)
  if x.kind = 1 ∨ x.kind = 2 then
    if f.close < x.hour ∨ p.ent = true then s else { s with people := ppl.eraseIdx n ++ [{ p with ent := true, rank := x.rank, grd := decide (x.kind = 2) }] }
  else if x.kind = 3 then
    if f.freeze < x.hour ∨ p.quit = true ∨ x.player ∈ s.wilds ∨ f.wilds ≤ (s.wilds.length : Int) then s
    else { s with people := ppl.set n { p with card := true }, wilds := s.wilds ++ [x.player] }
  else if x.kind = 4 then { s with people := ppl.set n { p with quit := true }, back := if x.player ∈ s.wilds ∧ f.freeze < x.hour then s.back + 1 else s.back, wilds := s.wilds.filter (fun k => k != x.player) }
  else if x.kind = 5 then { s with people := ppl.set n { p with sgn := true } }
  else { s with people := ppl.set n p }

def before (r : Int) (q : Rp) : Bool := decide (0 < r) && (decide (q.rank = 0) || decide (r < q.rank))
def rins (p : Rp) (out : List Rp) : List Rp := out.take (out.findIdx (before p.rank)) ++ p :: out.drop (out.findIdx (before p.rank))
def Rs.order (s : Rs) : List Rp := (s.people.filter Rp.counts).foldl (fun out p => rins p out) []
def rfill (f : Fd) : List Rp → List Int → Int → List Int
  | [], m, _ => m
  | p :: r, m, g => if (m.length : Int) < f.places ∧ (p.grd = false ∨ g < f.guards) then rfill f r (m ++ [p.player]) (if p.grd then g + 1 else g) else rfill f r m g
def rguards (l : List Rp) (m : List Int) : Int := ((l.filter fun p => p.grd && m.contains p.player).length : Int)
def rnext (f : Fd) (l : List Rp) (m : List Int) : Option Rp := l.find? fun p => p.sgn && !m.contains p.player && (!p.grd || decide (rguards l m < f.guards))
def rlater (f : Fd) (back : Int) (l : List Rp) : Nat → List Int → List Int
  | 0, m => m
  | n + 1, m => if (m.length : Int) < f.places + back then (match rnext f l m with | some p => rlater f back l n (m ++ [p.player]) | none => m) else m
def rone (f : Fd) (s : Rs) (x : Nt) : Rs :=
  let u := rtake f s x
  if f.freeze < x.hour then { u with ins := rlater f u.back u.order 200 (u.ins.filter fun k => u.order.any fun p => p.player == k) }
  else { u with ins := rfill f u.order [] 0 }

def Rp.is (p : Rp) (q : Pl) : Prop := q.ent = p.ent ∧ q.grd = p.grd ∧ q.card = p.card ∧ q.quit = p.quit ∧ q.sgn = p.sgn ∧ q.rank = p.rank
def Pl.blank (q : Pl) : Prop := q.ent = false ∧ q.grd = false ∧ q.card = false ∧ q.quit = false ∧ q.sgn = false ∧ q.rank = 0
structure Side (f : Fd) (r : Rs) (s : St) : Prop where
  nd : (r.people.map Rp.player).Nodup
  pl : ∀ p ∈ r.people, p.is (s.pl p.player)
  no : ∀ k, k ∉ r.people.map Rp.player → (s.pl k).blank
  turns : r.people.Pairwise (fun p q => p.ent = true → q.ent = true → (s.pl p.player).turn < (s.pl q.player).turn)
  below : ∀ p ∈ r.people, p.ent = true → (s.pl p.player).turn < s.turns
  wilds : r.wilds = s.cards
  ins : r.ins = s.main
  places : s.f.places = f.places + r.back
  fw : s.f.wilds = f.wilds
  fg : s.f.guards = f.guards
  fc : s.f.close = f.close
  fz : s.f.freeze = f.freeze

theorem with_map (s : Rs) (k : Int) : (s.with_ k).map Rp.player = if k ∈ s.people.map Rp.player then s.people.map Rp.player else s.people.map Rp.player ++ [k] := by
  unfold Rs.with_
  have e : (s.people.any fun p => p.player == k) = decide (k ∈ s.people.map Rp.player) := by
    rw [Bool.eq_iff_iff, List.any_eq_true, decide_eq_true_eq, List.mem_map]
    simp
  rw [e]
  by_cases h : k ∈ s.people.map Rp.player
  · rw [if_pos (by simpa using h), if_pos h]
  · rw [if_neg (by simpa using h), if_neg h, List.map_append]; rfl
theorem with_nd {s : Rs} (h : (s.people.map Rp.player).Nodup) (k : Int) : ((s.with_ k).map Rp.player).Nodup := by
  rw [with_map]
  split
  · exact h
  · rename_i hk
    rw [List.nodup_append]
    exact ⟨h, by simp, fun a ha b hb e => by simp at hb; subst hb; exact hk (e ▸ ha)⟩
theorem with_mem (s : Rs) (k : Int) : k ∈ (s.with_ k).map Rp.player := by
  rw [with_map]
  split
  · assumption
  · simp
theorem idxR_lt {l : List Rp} {k : Int} (h : k ∈ l.map Rp.player) : idxR l k < l.length ∧ ∃ p, l[idxR l k]? = some p ∧ p.player = k := by
  obtain ⟨p, hp, e⟩ := List.mem_map.1 h
  have hlt : idxR l k < l.length := List.findIdx_lt_length_of_exists ⟨p, hp, by simp [e]⟩
  refine ⟨hlt, l[idxR l k], List.getElem?_eq_getElem hlt, ?_⟩
  have := List.findIdx_getElem (w := hlt) (p := fun p : Rp => p.player == k)
  exact beq_iff_eq.1 this
theorem set_map {l : List Rp} {n : Nat} {p q : Rp} (h : l[n]? = some p) (e : q.player = p.player) : (l.set n q).map Rp.player = l.map Rp.player := by
  rw [List.map_set, e]
  refine List.ext_getElem? fun i => ?_
  rw [List.getElem?_set]
  split
  · rename_i hi
    subst hi
    split
    · rw [List.getElem?_map, h]; rfl
    · rename_i hn
      rw [List.getElem?_eq_none (by omega)]
  · rfl
theorem nd_inj {l : List Rp} (h : (l.map Rp.player).Nodup) {p q : Rp} (hp : p ∈ l) (hq : q ∈ l) (e : p.player = q.player) : p = q := by
  obtain ⟨i, hi, rfl⟩ := List.getElem_of_mem hp
  obtain ⟨j, hj, rfl⟩ := List.getElem_of_mem hq
  have hi' : i < (l.map Rp.player).length := by simpa using hi
  have hj' : j < (l.map Rp.player).length := by simpa using hj
  have hne := List.pairwise_iff_getElem.1 h
  rcases Nat.lt_trichotomy i j with c | c | c
  · have := hne i j hi' hj' c; simp at this; exact absurd e this
  · subst c; rfl
  · have := hne j i hj' hi' c; simp at this; exact absurd e.symm this

theorem Side.upd {f : Fd} {r : Rs} {s u : St} (h : Side f r s) (x : Nt) {q : Rp} {Q : Pl} {p : Rp} (hp : (r.with_ x.player)[idxR (r.with_ x.player) x.player]? = some p) (hq : q.player = x.player) (he : q.ent = p.ent) (hQ : q.is Q) (ht : Q.turn = (s.pl x.player).turn)
    (hu : ∀ k, u.pl k = if k = x.player then Q else s.pl k) (hut : u.turns = s.turns) {wl : List Int} {bk : Int} (hw : wl = u.cards) (hm : u.main = s.main) (hpl : u.f.places = f.places + bk) (h1 : u.f.wilds = f.wilds) (h2 : u.f.guards = f.guards) (h3 : u.f.close = f.close) (h4 : u.f.freeze = f.freeze) :
    Side f { people := (r.with_ x.player).set (idxR (r.with_ x.player) x.player) q, wilds := wl, back := bk, ins := r.ins } u := by
  have hpx : p.player = x.player := by
    obtain ⟨_, p', e1, e2⟩ := idxR_lt (with_mem r x.player)
    rw [hp] at e1
    rw [Option.some.inj e1]; exact e2
  have hmap := set_map (q := q) hp (hq.trans hpx.symm)
  have hnd := with_nd h.nd x.player
  have hpm : p ∈ r.with_ x.player := List.mem_of_getElem? hp
  have hin : ∀ z ∈ r.with_ x.player, z.player ≠ x.player → z ∈ r.people := by
    intro z hz hne
    unfold Rs.with_ at hz
    split at hz
    · exact hz
    · rcases List.mem_append.1 hz with h5 | h5
      · exact h5
      · simp at h5; rw [h5] at hne; exact absurd rfl hne
  have hmem : ∀ z ∈ (r.with_ x.player).set (idxR (r.with_ x.player) x.player) q, z = q ∨ (z ∈ r.people ∧ z.player ≠ x.player) := by
    intro z hz
    rcases List.mem_or_eq_of_mem_set hz with h5 | h5
    · by_cases e : z.player = x.player
      · left
      
        have hzp : z = p := nd_inj hnd h5 hpm (e.trans hpx.symm)
        obtain ⟨i, hi, e5⟩ := List.getElem_of_mem hz
        have e5' : ((r.with_ x.player).set (idxR (r.with_ x.player) x.player) q)[i]? = some z := by rw [List.getElem?_eq_getElem hi, e5]
        rw [List.getElem?_set] at e5'
        by_cases c : idxR (r.with_ x.player) x.player = i
        · rw [if_pos c] at e5'
          split at e5'
          · exact (Option.some.inj e5').symm
          · cases e5'
        · rw [if_neg c] at e5'
          exfalso
          have h6 := List.pairwise_iff_getElem.1 hnd
          have hi1 : i < (r.with_ x.player).length := (List.getElem?_eq_some_iff.1 e5').1
          have hi2 : idxR (r.with_ x.player) x.player < (r.with_ x.player).length := (List.getElem?_eq_some_iff.1 hp).1
          have g1 := (List.getElem?_eq_some_iff.1 e5').2
          have g2 := (List.getElem?_eq_some_iff.1 hp).2
          rcases Nat.lt_or_gt_of_ne c with c | c
          · have := h6 _ _ (by simpa using hi2) (by simpa using hi1) c
            simp only [List.getElem_map] at this
            rw [g1, g2, hzp] at this; exact this rfl
          · have := h6 _ _ (by simpa using hi1) (by simpa using hi2) c
            simp only [List.getElem_map] at this
            rw [g1, g2, hzp] at this; exact this rfl
      · exact .inr ⟨hin z h5 e, e⟩
    · exact .inl h5
  have hbl : ∀ k, k ∉ (r.with_ x.player).map Rp.player → k ≠ x.player ∧ k ∉ r.people.map Rp.player := by
    intro k hk
    rw [with_map] at hk
    split at hk
    · rename_i h5
      exact ⟨fun e => hk (e ▸ h5), hk⟩
    · rw [List.mem_append] at hk
      simp only [List.mem_singleton, not_or] at hk
      exact ⟨hk.2, hk.1⟩
  refine ⟨by rw [hmap]; exact hnd, fun z hz => ?_, fun k hk => ?_, ?_, fun z hz hz2 => ?_, hw, by rw [hm]; exact h.ins, hpl, h1, h2, h3, h4⟩
  · rcases hmem z hz with rfl | ⟨h5, h6⟩
    · rw [hq, hu, if_pos rfl]; exact hQ
    · rw [hu, if_neg h6]; exact h.pl z h5
  · change k ∉ ((r.with_ x.player).set (idxR (r.with_ x.player) x.player) q).map Rp.player at hk
    rw [hmap] at hk
    obtain ⟨h5, h6⟩ := hbl k hk
    rw [hu, if_neg h5]
    exact h.no k h6
  · -- the turns
    have hturn : ∀ k, (u.pl k).turn = (s.pl k).turn := fun k => by rw [hu]; split; (rename_i e; rw [e, ht]); rfl
    have hold : (r.with_ x.player).Pairwise (fun p q => p.ent = true → q.ent = true → (s.pl p.player).turn < (s.pl q.player).turn) := by
      unfold Rs.with_
      split
      · exact h.turns
      · rw [List.pairwise_append]
        exact ⟨h.turns, by simp, fun a _ b hb _ hb2 => by simp at hb; rw [hb] at hb2; cases hb2⟩
    show ((r.with_ x.player).set (idxR (r.with_ x.player) x.player) q).Pairwise _
    rw [List.pairwise_iff_getElem] at hold ⊢
    intro i j hi hj hij
    have hi' : i < (r.with_ x.player).length := by simpa using hi
    have hj' : j < (r.with_ x.player).length := by simpa using hj
    have key : ∀ a (ha : a < (r.with_ x.player).length) (ha2 : a < ((r.with_ x.player).set (idxR (r.with_ x.player) x.player) q).length), (((r.with_ x.player).set (idxR (r.with_ x.player) x.player) q)[a]).ent = ((r.with_ x.player)[a]).ent ∧ (((r.with_ x.player).set (idxR (r.with_ x.player) x.player) q)[a]).player = ((r.with_ x.player)[a]).player := by
      intro a ha ha2
      rw [List.getElem_set]
      split
      · rename_i c
        subst c
        have g := (List.getElem?_eq_some_iff.1 hp).2
        rw [g]
        exact ⟨he, hq.trans hpx.symm⟩
      · exact ⟨rfl, rfl⟩
    obtain ⟨k1, k2⟩ := key i hi' hi
    obtain ⟨k3, k4⟩ := key j hj' hj
    rw [k1, k2, k3, k4, hturn, hturn]
    exact hold i j hi' hj' hij
  · rcases hmem z hz with rfl | ⟨h5, h6⟩
    · rw [hq, hu, if_pos rfl, ht, hut]
      rw [he] at hz2
      have : p ∈ r.people := by
        unfold Rs.with_ at hpm
        split at hpm
        · exact hpm
        · rcases List.mem_append.1 hpm with h5 | h5
          · exact h5
          · simp at h5; rw [h5] at hz2; cases hz2
      have h7 := h.below p this hz2
      rw [hpx] at h7
      exact h7
    · rw [hu, if_neg h6, hut]
      exact h.below z h5 hz2

theorem with_is {f : Fd} {r : Rs} {s : St} (h : Side f r s) (k : Int) {p : Rp} (hp : p ∈ r.with_ k) (e : p.player = k) : p.is (s.pl k) := by
  unfold Rs.with_ at hp
  split at hp
  · have := h.pl p hp
    rw [e] at this
    exact this
  · rename_i hk
    rcases List.mem_append.1 hp with h5 | h5
    · have := h.pl p h5
      rw [e] at this
      exact this
    · simp only [List.mem_singleton] at h5
      subst h5
      have hno := h.no k (fun hm => hk (by
        obtain ⟨q, hq, eq⟩ := List.mem_map.1 hm
        rw [List.any_eq_true]
        exact ⟨q, hq, by simp [eq]⟩))
      exact ⟨hno.1, hno.2.1, hno.2.2.1, hno.2.2.2.1, hno.2.2.2.2.1, hno.2.2.2.2.2⟩
theorem side_same {f : Fd} {r : Rs} {s : St} (h : Side f r s) (k : Int) : Side f r (s.put k (s.pl k)) := by
  have e : (s.put k (s.pl k)).pl = s.pl := by
    funext j
    show (if j = k then s.pl k else s.pl j) = s.pl j
    split
    · rename_i e; rw [e]
    · rfl
  refine ⟨h.nd, fun p hp => ?_, fun j hj => ?_, ?_, fun p hp hp2 => ?_, h.wilds, h.ins, h.places, h.fw, h.fg, h.fc, h.fz⟩
  · rw [e]; exact h.pl p hp
  · rw [e]; exact h.no j hj
  · rw [e]; exact h.turns
  · rw [e]; exact h.below p hp hp2
theorem Side.enter {f : Fd} {r : Rs} {s : St} (h : Side f r s) (x : Nt) {p : Rp} (hp : (r.with_ x.player)[idxR (r.with_ x.player) x.player]? = some p) (hpx : p.player = x.player) :
    Side f { r with people := (r.with_ x.player).eraseIdx (idxR (r.with_ x.player) x.player) ++ [{ p with ent := true, rank := x.rank, grd := decide (x.kind = 2) }] } ({ s with turns := s.turns + 1 }.put x.player { s.pl x.player with ent := true, grd := decide (x.kind = 2), rank := x.rank, turn := s.turns }) := by
  have hnd := with_nd h.nd x.player
  have hlt := (List.getElem?_eq_some_iff.1 hp).1
  have hpe := (List.getElem?_eq_some_iff.1 hp).2
  have hsub : ((r.with_ x.player).eraseIdx (idxR (r.with_ x.player) x.player)).Sublist (r.with_ x.player) := List.eraseIdx_sublist _ _
  have hne : ∀ z ∈ (r.with_ x.player).eraseIdx (idxR (r.with_ x.player) x.player), z.player ≠ x.player := by
    intro z hz e
    have hz1 := hsub.subset hz
    have hzp : z = p := nd_inj hnd hz1 (List.mem_of_getElem? hp) (e.trans hpx.symm)
    obtain ⟨i, hi, hie⟩ := List.mem_eraseIdx_iff_getElem?.1 hz
    have hi1 := (List.getElem?_eq_some_iff.1 hie).1
    have hi2 := (List.getElem?_eq_some_iff.1 hie).2
    have h6 := List.pairwise_iff_getElem.1 hnd
    rcases Nat.lt_or_gt_of_ne hi with c | c
    · have := h6 i _ (by simpa using hi1) (by simpa using hlt) c
      simp only [List.getElem_map] at this
      rw [hi2, hpe, hzp] at this; exact this rfl
    · have := h6 _ i (by simpa using hlt) (by simpa using hi1) c
      simp only [List.getElem_map] at this
      rw [hi2, hpe, hzp] at this; exact this rfl
  have hin : ∀ z ∈ (r.with_ x.player).eraseIdx (idxR (r.with_ x.player) x.player), z ∈ r.people := by
    intro z hz
    have h5 := hsub.subset hz
    unfold Rs.with_ at h5
    split at h5
    · exact h5
    · rcases List.mem_append.1 h5 with h6 | h6
      · exact h6
      · simp only [List.mem_singleton] at h6
        have := hne z hz
        rw [h6] at this
        exact absurd rfl this
  have hpl : ∀ k, ({ s with turns := s.turns + 1 }.put x.player { s.pl x.player with ent := true, grd := decide (x.kind = 2), rank := x.rank, turn := s.turns } : St).pl k = if k = x.player then { s.pl x.player with ent := true, grd := decide (x.kind = 2), rank := x.rank, turn := s.turns } else s.pl k := fun k => rfl
  have his := with_is h x.player (List.mem_of_getElem? hp) hpx
  have hmemr : ∀ z ∈ r.people, z.player ≠ x.player → z ∈ (r.with_ x.player).eraseIdx (idxR (r.with_ x.player) x.player) := by
    intro z hz hzn
    have hzw : z ∈ r.with_ x.player := by
      unfold Rs.with_
      split
      · exact hz
      · exact List.mem_append_left _ hz
    obtain ⟨i, hi, hie⟩ := List.getElem_of_mem hzw
    refine List.mem_eraseIdx_iff_getElem?.2 ⟨i, fun c => ?_, by rw [List.getElem?_eq_getElem hi, hie]⟩
    subst c
    rw [hpe] at hie
    rw [← hie] at hzn
    exact hzn hpx
  refine ⟨?_, fun z hz => ?_, fun k hk => ?_, ?_, fun z hz hz2 => ?_, h.wilds, h.ins, h.places, h.fw, h.fg, h.fc, h.fz⟩
  · show (((r.with_ x.player).eraseIdx (idxR (r.with_ x.player) x.player) ++ [_]).map Rp.player).Nodup
    rw [List.map_append, List.nodup_append]
    refine ⟨List.Nodup.sublist (hsub.map Rp.player) hnd, by simp, fun a ha b hb e => ?_⟩
    simp only [List.map_cons, List.map_nil, List.mem_singleton] at hb
    obtain ⟨z, hz, rfl⟩ := List.mem_map.1 ha
    exact hne z hz (e.trans (hb.trans hpx))
  · rcases List.mem_append.1 hz with h5 | h5
    · rw [hpl, if_neg (hne z h5)]
      exact h.pl z (hin z h5)
    · simp only [List.mem_singleton] at h5
      subst h5
      show Rp.is _ (_ : Pl)
      rw [hpl]
      simp only [hpx, if_pos]
      exact ⟨rfl, rfl, his.2.2.1, his.2.2.2.1, his.2.2.2.2.1, rfl⟩
  · have hk1 : k ≠ x.player := fun e => hk (by
      rw [List.map_append, List.mem_append]
      exact .inr (by simp [e, hpx]))
    rw [hpl, if_neg hk1]
    refine h.no k (fun hm => hk ?_)
    obtain ⟨z, hz, e⟩ := List.mem_map.1 hm
    rw [List.map_append, List.mem_append]
    exact .inl (List.mem_map.2 ⟨z, hmemr z hz (fun c => hk1 (e.symm.trans c)), e⟩)
  · show List.Pairwise _ ((r.with_ x.player).eraseIdx (idxR (r.with_ x.player) x.player) ++ [_])
    rw [List.pairwise_append]
    refine ⟨?_, by simp, fun a ha b hb ha2 _ => ?_⟩
    · have hsr : ((r.with_ x.player).eraseIdx (idxR (r.with_ x.player) x.player)).Pairwise (fun p q => p.ent = true → q.ent = true → (s.pl p.player).turn < (s.pl q.player).turn) := by
        refine List.Pairwise.sublist hsub ?_
        unfold Rs.with_
        split
        · exact h.turns
        · rw [List.pairwise_append]
          exact ⟨h.turns, by simp, fun a _ b hb _ hb2 => by simp at hb; rw [hb] at hb2; cases hb2⟩
      refine List.Pairwise.imp_of_mem (fun {a b} ha hb hab c1 c2 => ?_) hsr
      rw [hpl, hpl, if_neg (hne a ha), if_neg (hne b hb)]
      exact hab c1 c2
    · simp only [List.mem_singleton] at hb
      subst hb
      rw [hpl, hpl, if_neg (hne a ha)]
      simp only [hpx, if_pos]
      exact h.below a (hin a ha) ha2
  · rcases List.mem_append.1 hz with h5 | h5
    · rw [hpl, if_neg (hne z h5)]
      have := h.below z (hin z h5) hz2
      show _ < s.turns + 1
      omega
    · simp only [List.mem_singleton] at h5
      subst h5
      rw [hpl]
      simp only [hpx, if_pos]
      show s.turns < s.turns + 1
      omega

theorem said_side {f : Fd} {r : Rs} {s : St} (h : Side f r s) (hc : CardsOk s) (x : Nt) : Side f (rtake f r x) (s.said x) := by
  obtain ⟨hlt, p, hp, hpx⟩ := idxR_lt (with_mem r x.player)
  have his := with_is h x.player (List.mem_of_getElem? hp) hpx
  have hget : (r.with_ x.player).getD (idxR (r.with_ x.player) x.player) (Rp.new x.player) = p := by rw [List.getD_eq_getElem?_getD, hp]; rfl
  obtain ⟨i1, i2, i3, i4, i5, i6⟩ := his
  unfold rtake St.said
  dsimp only
  rw [hget]
  by_cases k12 : x.kind = 1 ∨ x.kind = 2
  · rw [if_pos k12, if_pos k12]
    by_cases c : f.close < x.hour ∨ p.ent = true
    · rw [if_pos c, if_neg (by rw [h.fc, i1]; rintro ⟨c1, c2⟩; rcases c with c | c; (omega); rw [c2] at c; cases c)]
      exact side_same h x.player
    · have c1 : ¬ f.close < x.hour := fun e => c (.inl e)
      have c2 : p.ent = false := by cases e : p.ent with | true => exact absurd (.inr e) c | false => rfl
      rw [if_neg c, if_pos ⟨by rw [h.fc]; omega, by rw [i1]; exact c2⟩]
      exact h.enter x hp hpx
  · rw [if_neg k12, if_neg k12]
    by_cases k3 : x.kind = 3
    · rw [if_pos k3, if_pos k3]
      have hcd : x.player ∈ r.wilds ↔ p.card = true ∧ p.quit = false := by rw [h.wilds, hc x.player, i3, i4]
      have hlt' : late s.f x.hour = decide (f.freeze < x.hour) := by unfold late; rw [h.fz]
      by_cases c : f.freeze < x.hour ∨ p.quit = true ∨ x.player ∈ r.wilds ∨ f.wilds ≤ (r.wilds.length : Int)
      · rw [if_pos c, if_neg (by
          rw [hlt', i3, i4, h.fw, ← h.wilds]
          rintro ⟨c1, c2, c3, c4⟩
          rcases c with c | c | c | c
          · rw [decide_eq_true c] at c1; cases c1
          · rw [c3] at c; cases c
          · rw [hcd, c2] at c; cases c.1
          · omega)]
        exact side_same h x.player
      · have c1 : ¬ f.freeze < x.hour := fun e => c (.inl e)
        have c2 : p.quit = false := by cases e : p.quit with | true => exact absurd (.inr (.inl e)) c | false => rfl
        have c3 : x.player ∉ r.wilds := fun e => c (.inr (.inr (.inl e)))
        have c4 : ¬ f.wilds ≤ (r.wilds.length : Int) := fun e => c (.inr (.inr (.inr e)))
        have c5 : p.card = false := by cases e : p.card with | true => exact absurd (hcd.2 ⟨e, c2⟩) c3 | false => rfl
        rw [if_neg c, if_pos ⟨by rw [hlt', decide_eq_false c1], by rw [i3]; exact c5, by rw [i4]; exact c2, by rw [h.fw, ← h.wilds]; omega⟩]
        exact h.upd (q := { p with card := true }) (Q := { s.pl x.player with card := true }) (u := ({ s with cards := s.cards ++ [x.player] } : St).put x.player { s.pl x.player with card := true }) (wl := r.wilds ++ [x.player]) (bk := r.back) x hp hpx rfl ⟨i1, i2, rfl, i4, i5, i6⟩ rfl (fun k => rfl) rfl (by rw [h.wilds]; rfl) rfl h.places h.fw h.fg h.fc h.fz
    · rw [if_neg k3, if_neg k3]
      by_cases k4 : x.kind = 4
      · rw [if_pos k4, if_pos k4]
        have hcd : x.player ∈ r.wilds ↔ p.card = true ∧ p.quit = false := by rw [h.wilds, hc x.player, i3, i4]
        have hq : (late s.f x.hour = true ∧ (s.pl x.player).card = true ∧ (s.pl x.player).quit = false) ↔ (x.player ∈ r.wilds ∧ f.freeze < x.hour) := by
          unfold late
          rw [h.fz, i3, i4, hcd, decide_eq_true_eq]
          constructor
          · rintro ⟨c1, c2⟩; exact ⟨c2, c1⟩
          · rintro ⟨c1, c2⟩; exact ⟨c2, c1⟩
        by_cases c : x.player ∈ r.wilds ∧ f.freeze < x.hour
        · rw [if_pos c, if_pos (hq.2 c)]
          exact h.upd (q := { p with quit := true }) (Q := { s.pl x.player with quit := true }) (u := ({ s with f := { s.f with places := s.f.places + 1 }, cards := s.cards.filter (fun k => k != x.player) } : St).put x.player { s.pl x.player with quit := true }) (wl := r.wilds.filter (fun k => k != x.player)) (bk := r.back + 1) x hp hpx rfl ⟨i1, i2, i3, rfl, i5, i6⟩ rfl (fun k => rfl) rfl (by rw [h.wilds]; rfl) rfl (by show s.f.places + 1 = _; have := h.places; omega) h.fw h.fg h.fc h.fz
        · rw [if_neg c, if_neg (fun e => c (hq.1 e))]
          exact h.upd (q := { p with quit := true }) (Q := { s.pl x.player with quit := true }) (u := ({ s with cards := s.cards.filter (fun k => k != x.player) } : St).put x.player { s.pl x.player with quit := true }) (wl := r.wilds.filter (fun k => k != x.player)) (bk := r.back) x hp hpx rfl ⟨i1, i2, i3, rfl, i5, i6⟩ rfl (fun k => rfl) rfl (by rw [h.wilds]; rfl) rfl h.places h.fw h.fg h.fc h.fz
      · rw [if_neg k4, if_neg k4]
        by_cases k5 : x.kind = 5
        · rw [if_pos k5, if_pos k5]
          exact h.upd (q := { p with sgn := true }) (Q := { s.pl x.player with sgn := true }) (u := s.put x.player { s.pl x.player with sgn := true }) (wl := r.wilds) (bk := r.back) x hp hpx rfl ⟨i1, i2, i3, i4, rfl, i6⟩ rfl (fun k => rfl) rfl h.wilds rfl h.places h.fw h.fg h.fc h.fz
        · rw [if_neg k5, if_neg k5]
          exact h.upd (q := p) (Q := s.pl x.player) (u := s.put x.player (s.pl x.player)) (wl := r.wilds) (bk := r.back) x hp hpx rfl ⟨i1, i2, i3, i4, i5, i6⟩ rfl (fun k => rfl) rfl h.wilds rfl h.places h.fw h.fg h.fc h.fz
end E
end Go.Proofs.Ytdhaalonnmajkaa

namespace Go.Proofs.Ytdhaalonnmajkaa
namespace E

theorem rtake_rank {f : Fd} {r : Rs} (h : ∀ p ∈ r.people, 0 ≤ p.rank) (x : Nt) (hx : 0 ≤ x.rank) : ∀ p ∈ (rtake f r x).people, 0 ≤ p.rank := by
  have hw : ∀ p ∈ r.with_ x.player, 0 ≤ p.rank := by
    intro p hp
    unfold Rs.with_ at hp
    split at hp
    · exact h p hp
    · rcases List.mem_append.1 hp with h1 | h1
      · exact h p h1
      · simp only [List.mem_singleton] at h1
        rw [h1]; exact Int.le_refl _
  have hd : 0 ≤ ((r.with_ x.player).getD (idxR (r.with_ x.player) x.player) (Rp.new x.player)).rank := by
    rw [List.getD_eq_getElem?_getD]
    cases e : (r.with_ x.player)[idxR (r.with_ x.player) x.player]? with
    | none => exact Int.le_refl _
    | some p => exact hw p (List.mem_of_getElem? e)
  have hset : ∀ (n : Nat) (q : Rp), 0 ≤ q.rank → ∀ p ∈ (r.with_ x.player).set n q, 0 ≤ p.rank := by
    intro n q hq p hp
    rcases List.mem_or_eq_of_mem_set hp with h1 | h1
    · exact hw p h1
    · rw [h1]; exact hq
  unfold rtake
  dsimp only
  repeat' split
  all_goals first
    | exact h
    | exact hset _ _ hd
    | (intro p hp
       rcases List.mem_append.1 hp with h1 | h1
       · exact hw p ((List.eraseIdx_sublist _ _).subset h1)
       · simp only [List.mem_singleton] at h1
         rw [h1]; exact hx)

def Wr (s : St) (a b : Rp) : Prop := 0 ≤ cmpP (s.pl b.player) (s.pl a.player)
theorem wr_iff (s : St) {a b : Rp} (ha : (s.pl a.player).rank = a.rank) (hb : (s.pl b.player).rank = b.rank) (h0 : 0 ≤ a.rank) (h1 : 0 ≤ b.rank) :
    Wr s a b ↔ ¬ ((b.rank ≠ 0 ∧ a.rank = 0) ∨ (b.rank ≠ 0 ∧ a.rank ≠ 0 ∧ b.rank < a.rank) ∨ (b.rank = a.rank ∧ (s.pl b.player).turn < (s.pl a.player).turn)) := by
  unfold Wr
  have := cmpP_neg (s.pl b.player) (s.pl a.player)
  rw [ha, hb] at this
  have hz : ∀ z : Int, one (z == 0) = if z = 0 then 1 else 0 := fun z => by
    unfold one
    by_cases e : z = 0
    · subst e; rfl
    · rw [if_neg e, if_neg (by simpa using e)]
  rw [hz, hz] at this
  constructor
  · intro hc hn
    have h2 : cmpP (s.pl b.player) (s.pl a.player) < 0 := this.2 (by split <;> split <;> omega)
    omega
  · intro hn
    rcases Int.lt_or_le (cmpP (s.pl b.player) (s.pl a.player)) 0 with h2 | h2
    · exfalso
      have h3 := this.1 h2
      apply hn
      revert h3
      split <;> split <;> omega
    · exact h2
theorem rins_sorted (s : St) {p : Rp} {out : List Rp} (hp : (s.pl p.player).rank = p.rank) (hp0 : 0 ≤ p.rank) (hr : ∀ q ∈ out, (s.pl q.player).rank = q.rank ∧ 0 ≤ q.rank) (ht : ∀ q ∈ out, (s.pl q.player).turn < (s.pl p.player).turn) (hs : out.Pairwise (Wr s)) : (rins p out).Pairwise (Wr s) := by
  unfold rins
  obtain ⟨n, hn⟩ : ∃ n, out.findIdx (before p.rank) = n := ⟨_, rfl⟩
  rw [hn]
  have hsplit := List.take_append_drop n out
  have hs' : (out.take n ++ out.drop n).Pairwise (Wr s) := by rw [hsplit]; exact hs
  obtain ⟨h1, h2, h3⟩ := List.pairwise_append.1 hs'
  have hpre : ∀ q ∈ out.take n, Wr s q p := by
    intro q hq
    have hqo := List.mem_of_mem_take hq
    obtain ⟨i, hi, hie⟩ := List.getElem_of_mem hq
    have hi' : i < n := by rw [List.length_take] at hi; omega
    have hnb := List.not_of_lt_findIdx (p := before p.rank) (xs := out) (i := i) (by rw [hn]; exact hi')
    rw [List.getElem_take] at hie
    rw [hie] at hnb
    have hnb : ¬ (before p.rank q = true) := by rw [hnb]; decide
    unfold before at hnb
    simp only [Bool.and_eq_true, Bool.or_eq_true, decide_eq_true_eq] at hnb
    have hq1 := hr q hqo
    have hq2 := ht q hqo
    rw [wr_iff s hq1.1 hp hq1.2 hp0]
    omega
  have hpost : ∀ q ∈ out.drop n, Wr s p q := by
    intro q hq
    have hqo := List.mem_of_mem_drop hq
    have hlt : n < out.length := by
      rcases Nat.lt_or_ge n out.length with c | c
      · exact c
      · rw [List.drop_eq_nil_of_le c] at hq; cases hq
    have hb : before p.rank out[n] = true := by
      subst hn
      exact List.findIdx_getElem
    unfold before at hb
    simp only [Bool.and_eq_true, Bool.or_eq_true, decide_eq_true_eq] at hb
    have h0m : out[n] ∈ out := List.getElem_mem _
    have h01 := hr _ h0m
    have hq1 := hr q hqo
    have hq2 := ht q hqo
    have hle : q = out[n] ∨ Wr s out[n] q := by
      rw [List.drop_eq_getElem_cons hlt] at hq h2
      rcases List.mem_cons.1 hq with c | c
      · exact .inl c
      · exact .inr ((List.pairwise_cons.1 h2).1 q c)
    rw [wr_iff s hp hq1.1 hp0 hq1.2]
    rcases hle with c | c
    · rw [c] at hq2 ⊢
      omega
    · rw [wr_iff s h01.1 hq1.1 h01.2 hq1.2] at c
      omega
  rw [List.pairwise_append]
  refine ⟨h1, List.pairwise_cons.2 ⟨hpost, h2⟩, fun a ha b hb => ?_⟩
  rcases List.mem_cons.1 hb with c | c
  · rw [c]; exact hpre a ha
  · exact h3 a ha b c
theorem rins_perm (p : Rp) (out : List Rp) : (rins p out).Perm (out ++ [p]) := by
  unfold rins
  refine (List.perm_middle).trans ?_
  rw [List.take_append_drop]
  exact (List.perm_append_singleton p out).symm
theorem rfold_sorted (s : St) : ∀ (l out : List Rp), (∀ q ∈ out ++ l, (s.pl q.player).rank = q.rank ∧ 0 ≤ q.rank) → (∀ q ∈ out, ∀ p ∈ l, (s.pl q.player).turn < (s.pl p.player).turn) → l.Pairwise (fun a b => (s.pl a.player).turn < (s.pl b.player).turn) → out.Pairwise (Wr s) →
    (l.foldl (fun out p => rins p out) out).Pairwise (Wr s) ∧ (l.foldl (fun out p => rins p out) out).Perm (out ++ l)
  | [], out, _, _, _, hs => ⟨hs, by simp⟩
  | p :: l, out, hr, ht, hl, hs => by
    obtain ⟨l1, l2⟩ := List.pairwise_cons.1 hl
    have hp := hr p (by simp)
    have hperm := rins_perm p out
    have h1 := rins_sorted s hp.1 hp.2 (fun q hq => hr q (List.mem_append_left _ hq)) (fun q hq => ht q hq p (List.mem_cons_self ..)) hs
    have hm : ∀ q, q ∈ rins p out ↔ q ∈ out ∨ q = p := fun q => by rw [hperm.mem_iff, List.mem_append, List.mem_singleton]
    obtain ⟨h2, h3⟩ := rfold_sorted s l (rins p out) (fun q hq => by
        rcases List.mem_append.1 hq with c | c
        · rcases (hm q).1 c with c | c
          · exact hr q (List.mem_append_left _ c)
          · rw [c]; exact hp
        · exact hr q (List.mem_append_right _ (List.mem_cons_of_mem _ c))) (fun q hq z hz => by
        rcases (hm q).1 hq with c | c
        · exact ht q c z (List.mem_cons_of_mem _ hz)
        · rw [c]; exact l1 z hz) l2 h1
    refine ⟨h2, h3.trans ?_⟩
    refine (List.Perm.append_right l hperm).trans ?_
    rw [List.append_assoc]; exact List.Perm.refl _

theorem counts_entry {p : Rp} {q : Pl} (h : p.is q) : q.entry = p.counts := by
  obtain ⟨h1, _, h3, h4, _, _⟩ := h
  unfold Pl.entry Rp.counts
  rw [h1, h3, h4]
theorem order_side {f : Fd} {r : Rs} {s : St} (h : Side f r s) (ok : StOk s) (hr : ∀ p ∈ r.people, 0 ≤ p.rank) : r.order.map Rp.player = s.order ∧ (∀ p ∈ r.order, p ∈ r.people ∧ p.counts = true) ∧ (r.order.map Rp.player).Nodup := by
  have hfm : ∀ p ∈ r.people.filter Rp.counts, p ∈ r.people ∧ p.counts = true := fun p hp => List.mem_filter.1 hp
  have hce : ∀ p : Rp, p.counts = true → p.ent = true := fun p hp => by
    unfold Rp.counts at hp
    simp only [Bool.and_eq_true] at hp
    exact hp.1.1
  obtain ⟨h1, h2⟩ := rfold_sorted s (r.people.filter Rp.counts) [] (fun q hq => by
      have := (hfm q (by simpa using hq)).1
      exact ⟨(h.pl q this).2.2.2.2.2, hr q this⟩) (fun q hq => by cases hq) (by
      have hpw := List.Pairwise.filter Rp.counts h.turns
      refine List.Pairwise.imp_of_mem (fun {a b} ha hb hab => hab (hce a (hfm a ha).2) (hce b (hfm b hb).2)) hpw) List.Pairwise.nil
  change r.order.Pairwise (Wr s) at h1
  change r.order.Perm ([] ++ r.people.filter Rp.counts) at h2
  rw [List.nil_append] at h2
  have hmem : ∀ p ∈ r.order, p ∈ r.people ∧ p.counts = true := fun p hp => hfm p (h2.mem_iff.1 hp)
  have hnd0 : ((r.people.filter Rp.counts).map Rp.player).Nodup := List.Nodup.sublist ((List.filter_sublist).map Rp.player) h.nd
  have hnd : (r.order.map Rp.player).Nodup := (h2.map Rp.player).nodup_iff.2 hnd0
  refine ⟨order_eq ok ?_ ?_, hmem, hnd⟩
  · refine (h2.map Rp.player).trans ?_
    rw [List.perm_ext_iff_of_nodup hnd0 (ok.known.filter _)]
    intro k
    rw [List.mem_map, List.mem_filter]
    constructor
    · rintro ⟨p, hp, rfl⟩
      obtain ⟨c1, c2⟩ := hfm p hp
      have he : (s.pl p.player).entry = true := (counts_entry (h.pl p c1)).trans c2
      refine ⟨?_, he⟩
      rcases Classical.em (p.player ∈ s.known) with c | c
      · exact c
      · rw [ok.zero _ c] at he; cases he
    · rintro ⟨hk, he⟩
      rcases Classical.em (k ∈ r.people.map Rp.player) with c | c
      · obtain ⟨p, hp, e⟩ := List.mem_map.1 c
        refine ⟨p, List.mem_filter.2 ⟨hp, ?_⟩, e⟩
        rw [← counts_entry (h.pl p hp), e]; exact he
      · have := (h.no k c).1
        have h5 := entry_ent he
        rw [this] at h5; cases h5
  · rw [List.pairwise_map]
    exact h1

theorem rfill_side {f : Fd} {s : St} (hp : s.f.places = f.places) (hg : s.f.guards = f.guards) : ∀ (l : List Rp) (m : List Int) (g : Int), (∀ p ∈ l, (s.pl p.player).grd = p.grd) → rfill f l m g = s.fill false (l.map Rp.player) m g
  | [], _, _, _ => rfl
  | p :: r, m, g, h => by
    have hp1 := h p (List.mem_cons_self ..)
    have ih := fun m g => rfill_side hp hg r m g (fun q hq => h q (List.mem_cons_of_mem _ hq))
    rw [List.map_cons, rfill, St.fill, hp, hg, hp1]
    have e : (if p.grd then g + 1 else g) = g + one p.grd := by cases p.grd <;> simp [one]
    rw [e, ih, ih]
    by_cases c : (m.length : Int) < f.places ∧ (p.grd = false ∨ g < f.guards)
    · rw [if_pos c, if_pos ⟨c.1, .inr rfl, c.2.symm⟩]
    · rw [if_neg c, if_neg (fun hh => c ⟨hh.1, hh.2.2.symm⟩)]

theorem rguards_app {l : List Rp} (hn : (l.map Rp.player).Nodup) {m : List Int} {p : Rp} (hp : p ∈ l) (hm : p.player ∉ m) : rguards l (m ++ [p.player]) = rguards l m + one p.grd := by
  have key : ∀ (l : List Rp), (l.map Rp.player).Nodup → p ∈ l → (l.filter fun q => q.grd && (m ++ [p.player]).contains q.player).length = (l.filter fun q => q.grd && m.contains q.player).length + (if p.grd then 1 else 0) := by
    intro l
    induction l with
    | nil => intro _ h; cases h
    | cons a r ih =>
      intro hn hp
      rw [List.map_cons, List.nodup_cons] at hn
      have hcon : ∀ z : Rp, (m ++ [p.player]).contains z.player = (m.contains z.player || (z.player == p.player)) := fun z => by
        rw [List.contains_append]; congr 1; simp only [List.contains_cons, List.contains_nil, Bool.or_false]
      rcases List.mem_cons.1 hp with e | e
      · subst e
        have hr : (r.filter fun q => q.grd && (m ++ [p.player]).contains q.player) = r.filter fun q => q.grd && m.contains q.player := List.filter_congr fun q hq => by
          have : q.player ≠ p.player := fun c => hn.1 (c ▸ List.mem_map.2 ⟨q, hq, rfl⟩)
          rw [hcon, beq_false_of_ne this, Bool.or_false]
        rw [List.filter_cons, List.filter_cons, hr, hcon]
        have h1 : m.contains p.player = false := by rw [List.contains_eq_mem]; exact decide_eq_false hm
        rw [h1]
        cases p.grd <;> simp
      · have hne : a.player ≠ p.player := fun c => hn.1 (c ▸ List.mem_map.2 ⟨p, e, rfl⟩)
        have h5 := ih hn.2 e
        rw [List.filter_cons, List.filter_cons, hcon, beq_false_of_ne hne, Bool.or_false]
        split
        · rw [List.length_cons, List.length_cons, h5]; omega
        · exact h5
  unfold rguards
  rw [key l hn hp]
  cases p.grd <;> simp [one]
theorem rlater_fill {f : Fd} {s : St} (back : Int) (hp : s.f.places = f.places + back) (hg : s.f.guards = f.guards) (l : List Rp) (hn : (l.map Rp.player).Nodup) (hpl : ∀ p ∈ l, (s.pl p.player).grd = p.grd ∧ (s.pl p.player).sgn = p.sgn) :
    ∀ (l2 l1 : List Rp) (n : Nat) (m : List Int) (g : Int), l = l1 ++ l2 → l2.length ≤ n → g = rguards l m → (∀ p ∈ l1, p.player ∈ m ∨ p.sgn = false ∨ (p.grd = true ∧ f.guards ≤ g)) →
      rlater f back l n m = s.fill true ((l2.filter fun p => !m.contains p.player).map Rp.player) m g
  | [], l1, n, m, g, hl, hln, hgm, h1 => by
    have hnone : rnext f l m = none := by
      unfold rnext
      rw [List.find?_eq_none]
      intro q hq hc
      rw [hl, List.append_nil] at hq
      simp only [Bool.and_eq_true, Bool.not_eq_true', Bool.or_eq_true, List.contains_eq_mem, decide_eq_false_iff_not, decide_eq_true_eq] at hc
      rcases h1 q hq with c | c | ⟨c1, c2⟩
      · exact hc.1.2 c
      · rw [c] at hc; cases hc.1.1
      · rcases hc.2 with c | c
        · rw [c1] at c; cases c
        · omega
    show rlater f back l n m = m
    match n with
    | 0 => rfl
    | n + 1 =>
      unfold rlater
      rw [hnone]
      split <;> rfl
  | p :: r, l1, n, m, g, hl, hln, hgm, h1 => by
    have hpm : p ∈ l := by rw [hl]; simp
    have hl' : l = (l1 ++ [p]) ++ r := by rw [hl]; simp
    rw [List.length_cons] at hln
    by_cases hin : p.player ∈ m
    · rw [List.filter_cons_of_neg (by simpa using hin)]
      exact rlater_fill back hp hg l hn hpl r (l1 ++ [p]) n m g hl' (by omega) hgm (fun q hq => by
        rcases List.mem_append.1 hq with c | c
        · exact h1 q c
        · simp only [List.mem_singleton] at c
          rw [c]; exact .inl hin)
    · rw [List.filter_cons_of_pos (by simpa using hin), List.map_cons]
      unfold St.fill
      rw [(hpl p hpm).1, (hpl p hpm).2, hp, hg]
      by_cases hfull : (m.length : Int) < f.places + back
      · by_cases hel : p.sgn = true ∧ (p.grd = false ∨ g < f.guards)
        · rw [if_pos ⟨hfull, .inl hel.1, hel.2.symm⟩]
          have hnext : rnext f l m = some p := by
            unfold rnext
            rw [List.find?_eq_some_iff_append]
            refine ⟨?_, l1, r, hl, fun q hq => ?_⟩
            · rw [hel.1]
              simp only [Bool.true_and, Bool.and_eq_true, Bool.not_eq_true', List.contains_eq_mem, decide_eq_false_iff_not, Bool.or_eq_true, decide_eq_true_eq]
              exact ⟨hin, hel.2.imp id (fun c => by rw [← hgm]; exact c)⟩
            · simp only [Bool.not_eq_true', Bool.and_eq_false_imp, Bool.and_eq_true, List.contains_eq_mem, decide_eq_false_iff_not, Bool.or_eq_false_iff]
              rintro ⟨c1, c2⟩
              rcases h1 q hq with c | c | ⟨c3, c4⟩
              · exact absurd c c2
              · rw [c] at c1; cases c1
              · exact ⟨by rw [c3]; rfl, by omega⟩
          match n, hln with
          | n + 1, hln =>
            unfold rlater
            rw [if_pos hfull, hnext]
            dsimp only
            have hg2 := rguards_app hn hpm hin
            have hfilt : (r.filter fun q => !m.contains q.player) = r.filter fun q => !(m ++ [p.player]).contains q.player := List.filter_congr fun q hq => by
              have hne : q.player ≠ p.player := by
                rw [hl, List.map_append, List.map_cons] at hn
                have h5 := (List.nodup_cons.1 (List.nodup_append.1 hn).2.1).1
                exact fun c => h5 (c ▸ List.mem_map.2 ⟨q, hq, rfl⟩)
              rw [List.contains_append]
              have : [p.player].contains q.player = false := by simp [hne]
              rw [this, Bool.or_false]
            rw [hfilt]
            exact rlater_fill back hp hg l hn hpl r (l1 ++ [p]) n (m ++ [p.player]) (g + one p.grd) hl' (by omega) (by rw [hg2, hgm]) (fun q hq => by
              have hb := one_bd p.grd
              rcases List.mem_append.1 hq with c | c
              · rcases h1 q c with c | c | ⟨c1, c2⟩
                · exact .inl (List.mem_append_left _ c)
                · exact .inr (.inl c)
                · exact .inr (.inr ⟨c1, by omega⟩)
              · simp only [List.mem_singleton] at c
                rw [c]; exact .inl (by simp))
        · rw [if_neg (fun hh => hel ⟨hh.2.1.elim id (fun c => by cases c), hh.2.2.symm⟩)]
          exact rlater_fill back hp hg l hn hpl r (l1 ++ [p]) n m g hl' (by omega) hgm (fun q hq => by
            rcases List.mem_append.1 hq with c | c
            · exact h1 q c
            · simp only [List.mem_singleton] at c
              rw [c]
              cases es : p.sgn with
              | false => exact .inr (.inl rfl)
              | true =>
                have : ¬ (p.grd = false ∨ g < f.guards) := fun c => hel ⟨es, c⟩
                refine .inr (.inr ⟨?_, by omega⟩)
                cases eg : p.grd with
                | true => rfl
                | false => exact absurd (.inl eg) this)
      · rw [if_neg (fun hh => hfull hh.1), fill_full true _ _ _ (by rw [hp]; omega)]
        match n, hln with
        | n + 1, _ =>
          unfold rlater
          rw [if_neg hfull]
end E
end Go.Proofs.Ytdhaalonnmajkaa

namespace Go.Proofs.Ytdhaalonnmajkaa
open Go.RowKit
attribute [local go_sem ↓] Go.wp_at_zero Go.wp_at_succ

end Go.Proofs.Ytdhaalonnmajkaa

namespace Go.Proofs.Ytdhaalonnmajkaa
open Go.RowKit

namespace E
def cntG (f : Fd) (h : Int) (l : List Nt) (xs : List Int) : Int := (xs.map fun k => one (decide ((entF f h k l).kind = 2))).sum
theorem known_said (s : St) (x : Nt) : (s.said x).known.length ≤ s.known.length + 1 := by
  have hp : ∀ k : Int, (if k ∈ s.known then s.known else s.known ++ [k]).length ≤ s.known.length + 1 := fun k => by split <;> simp
  unfold St.said
  dsimp only
  repeat' split
  all_goals exact hp _
end E

end Go.Proofs.Ytdhaalonnmajkaa

namespace Go.Proofs.Ytdhaalonnmajkaa
namespace E

theorem filter_map_player (l : List Rp) (q : Int → Bool) : (l.filter fun p => q p.player).map Rp.player = (l.map Rp.player).filter q := by
  rw [List.filter_map]; rfl
theorem rguards_of {f : Fd} {r : Rs} {s : St} (h : Side f r s) (hmem : ∀ p ∈ r.order, p ∈ r.people) (hnd : (r.order.map Rp.player).Nodup) {m : List Int} (hm : m.Nodup) (hin : ∀ k ∈ m, k ∈ r.order.map Rp.player) : rguards r.order m = s.guardsOf m := by
  have e1 : rguards r.order m = ((((r.order.map Rp.player).filter fun k => (s.pl k).grd && m.contains k).length : Nat) : Int) := by
    unfold rguards
    rw [← filter_map_player, List.length_map]
    congr 2
    exact List.filter_congr fun p hp => by rw [(h.pl p (hmem p hp)).2.1]
  have e2 : ∀ m : List Int, s.guardsOf m = ((m.filter fun k => (s.pl k).grd).length : Int) := by
    intro m
    induction m with
    | nil => rfl
    | cons a t ih =>
      have e : s.guardsOf (a :: t) = one (s.pl a).grd + s.guardsOf t := by simp [St.guardsOf]
      rw [e, ih, List.filter_cons]
      cases (s.pl a).grd <;> simp [one] <;> omega
  rw [e1, e2 m]
  congr 1
  refine List.Perm.length_eq ((List.perm_ext_iff_of_nodup (hnd.filter _) (hm.filter _)).2 fun k => ?_)
  rw [List.mem_filter, List.mem_filter, Bool.and_eq_true, List.contains_eq_mem, decide_eq_true_eq]
  exact ⟨fun ⟨_, c1, c2⟩ => ⟨c2, c1⟩, fun ⟨c1, c2⟩ => ⟨hin k c1, c2, c1⟩⟩
theorem side_ins {f : Fd} {r : Rs} {s : St} (h : Side f r s) {m : List Int} : Side f { r with ins := m } { s with main := m } :=
  ⟨h.nd, h.pl, h.no, h.turns, h.below, h.wilds, rfl, h.places, h.fw, h.fg, h.fc, h.fz⟩
theorem rtake_back {f : Fd} {r : Rs} (x : Nt) (hx : ¬ f.freeze < x.hour) : (rtake f r x).back = r.back := by
  unfold rtake
  dsimp only
  repeat' split
  all_goals first
    | rfl
    | (rename_i hh; exact absurd hh.2 hx)
theorem rtake_ins {f : Fd} {r : Rs} (x : Nt) : (rtake f r x).ins = r.ins := by
  unfold rtake
  dsimp only
  repeat' split
  all_goals rfl

theorem rone_side {f : Fd} {r : Rs} {s : St} (h : Side f r s) (hs : StOk s) (hT : 0 ≤ s.turns) (hc : CardsOk s) (hmn : s.main.Nodup) (hr : ∀ p ∈ r.people, 0 ≤ p.rank) (x : Nt) (hx : 0 ≤ x.player ∧ x.player ≤ 999) (hx2 : 0 ≤ x.rank) (hb : ¬ f.freeze < x.hour → r.back = 0) (hlen : s.known.length ≤ 199) :
    Side f (rone f r x) (s.take x) ∧ (∀ p ∈ (rone f r x).people, 0 ≤ p.rank) ∧ (¬ f.freeze < x.hour → (rone f r x).back = 0) := by
  have hu := said_side h hc x
  have hok := said_ok hs x hx hT
  have hru := rtake_rank hr x hx2 (f := f)
  have hor := order_side hu hok.1 hru
  have hmem : ∀ p ∈ (rtake f r x).order, p ∈ (rtake f r x).people := fun p hp => (hor.2.1 p hp).1
  have hlate : late s.f x.hour = decide (f.freeze < x.hour) := by unfold late; rw [h.fz]
  have hmain := said_main s x
  have hins := rtake_ins (f := f) (r := r) x
  obtain ⟨u, eu⟩ : ∃ u, rtake f r x = u := ⟨_, rfl⟩
  obtain ⟨v, ev⟩ : ∃ v, s.said x = v := ⟨_, rfl⟩
  have htk : s.take x = v.settle (decide (f.freeze < x.hour)) := by rw [← hlate, ← ev]; rfl
  have hback := rtake_back (f := f) (r := r) x
  have hkl := known_said s x
  have hro : rone f r x = if f.freeze < x.hour then { u with ins := rlater f u.back u.order 200 (u.ins.filter fun k => u.order.any fun p => p.player == k) } else { u with ins := rfill f u.order [] 0 } := by rw [← eu]; rfl
  rw [eu] at hu hru hor hmem hins hback
  rw [ev] at hu hok hor hmain hkl
  rw [htk, hro]
  by_cases c : f.freeze < x.hour
  · rw [if_pos c, decide_eq_true c]
    refine ⟨?_, hru, fun c' => absurd c c'⟩
    have hm0 : (u.ins.filter fun k => u.order.any fun p => p.player == k) = v.main.filter fun k => true && (v.pl k).entry := by
      rw [hu.ins]
      refine List.filter_congr fun k hk => ?_
      rw [Bool.true_and, Bool.eq_iff_iff, List.any_eq_true]
      have hkk := hok.1.main k hk
      constructor
      · rintro ⟨p, hp, e⟩
        have : k ∈ v.order := by rw [← hor.1]; exact List.mem_map.2 ⟨p, hp, beq_iff_eq.1 e⟩
        exact (order_mem.1 this).2
      · intro e
        have : k ∈ u.order.map Rp.player := by rw [hor.1]; exact order_mem.2 ⟨hkk, e⟩
        obtain ⟨p, hp, e2⟩ := List.mem_map.1 this
        exact ⟨p, hp, by simp [e2]⟩
    have hmnd : (v.main.filter fun k => true && (v.pl k).entry).Nodup := List.Nodup.sublist List.filter_sublist (by rw [hmain]; exact hmn)
    have hmin : ∀ k ∈ (v.main.filter fun k => true && (v.pl k).entry), k ∈ u.order.map Rp.player := fun k hk => by
      obtain ⟨k1, k2⟩ := List.mem_filter.1 hk
      rw [hor.1]
      exact order_mem.2 ⟨hok.1.main k k1, by simpa using k2⟩
    have hol : u.order.length ≤ 200 := by
      have h1 : (u.order.map Rp.player).length = v.order.length := by rw [hor.1]
      rw [List.length_map] at h1
      have h2 : v.order.length ≤ v.known.length := by unfold St.order; rw [List.length_mergeSort]; exact List.length_filter_le _ _
      omega
    have hf := rlater_fill (s := v) u.back hu.places hu.fg u.order hor.2.2 (fun p hp => ⟨(hu.pl p (hmem p hp)).2.1, (hu.pl p (hmem p hp)).2.2.2.2.1⟩) u.order [] 200 (v.main.filter fun k => true && (v.pl k).entry) (rguards u.order (v.main.filter fun k => true && (v.pl k).entry)) rfl hol rfl (fun p hp => by cases hp)
    have hset : (v.settle true) = { v with main := rlater f u.back u.order 200 (u.ins.filter fun k => u.order.any fun p => p.player == k) } := by
      rw [hm0, hf, rguards_of hu hmem hor.2.2 hmnd hmin]
      unfold St.settle
      dsimp only
      congr 1
      rw [filter_map_player u.order (fun k => !(v.main.filter fun k => true && (v.pl k).entry).contains k), hor.1]
      rfl
    rw [hset]
    exact side_ins hu
  · rw [if_neg c, decide_eq_false c]
    refine ⟨?_, hru, fun _ => (hback c).trans (hb c)⟩
    have hb0 : u.back = 0 := (hback c).trans (hb c)
    have hset : (v.settle false) = { v with main := rfill f u.order [] 0 } := by
      rw [rfill_side (s := v) (by have := hu.places; omega) hu.fg u.order [] 0 (fun p hp => (hu.pl p (hmem p hp)).2.1), hor.1]
      have h1 := settle_early v
      have h2 : v.settle false = { v with main := (v.settle false).main } := rfl
      rw [h2, h1]
      rfl
    rw [hset]
    exact side_ins hu

theorem side_new (f : Fd) : Side f Rs.new (St.new f) :=
  ⟨List.nodup_nil, (fun p hp => by cases hp), fun k _ => ⟨rfl, rfl, rfl, rfl, rfl, rfl⟩, List.Pairwise.nil, (fun p hp => by cases hp), rfl, rfl, (by show f.places = f.places + 0; omega), rfl, rfl, rfl, rfl⟩
theorem rfold_side {f : Fd} : ∀ (l : List Nt) (r : Rs) (s : St), Side f r s → StOk s → 0 ≤ s.turns → Plc s → (∀ p ∈ r.people, 0 ≤ p.rank) → (∀ x ∈ l, validNotice x = true) → l.Pairwise (fun a b => a.hour ≤ b.hour) → (r.back = 0 ∨ ∀ x ∈ l, f.freeze < x.hour) → s.known.length + l.length ≤ 199 →
    Side f (l.foldl (rone f) r) (l.foldl St.take s) ∧ (∀ p ∈ (l.foldl (rone f) r).people, 0 ≤ p.rank)
  | [], _, _, h, _, _, _, hr, _, _, _, _ => ⟨h, hr⟩
  | x :: l, r, s, h, hs, hT, hp, hr, hv, hw, hb, hk => by
    have hxv := hv x (List.mem_cons_self ..)
    have hx := valid_player hxv
    have hx2 : 0 ≤ x.rank := by
      have hv2 := hxv
      unfold validNotice within at hv2
      simp only [Bool.and_eq_true, decide_eq_true_eq] at hv2
      have hlo : 0 ≤ lowOf x.kind := by unfold lowOf; repeat' split
                                        all_goals decide
      omega
    obtain ⟨w1, w2⟩ := List.pairwise_cons.1 hw
    rw [List.length_cons] at hk
    obtain ⟨h1, h2, h3⟩ := rone_side h hs hT hp.cards hp.mnd hr x hx hx2 (fun c => by
      rcases hb with c2 | c2
      · exact c2
      · exact absurd (c2 x (List.mem_cons_self ..)) c) (by omega)
    have hok := E.take_ok hs x hx hT
    refine rfold_side l _ _ h1 hok.1 hok.2 (plc_take hs hT hp x hx) h2 (fun y hy => hv y (List.mem_cons_of_mem _ hy)) w2 ?_ ?_
    · by_cases c : f.freeze < x.hour
      · exact .inr fun y hy => Int.lt_of_lt_of_le c (w1 y hy)
      · exact .inl (h3 c)
    · have h4 : (s.take x).known.length ≤ s.known.length + 1 := known_said s x
      omega
def rafter (f : Fd) (d : List Nt) (H : Int) : Rs := (d.filter fun x => decide (x.hour ≤ H)).foldl (rone f) Rs.new
theorem after_side {f : Fd} {l d : List Nt} (hd : diffs l = some d) (hv : validField f = true) (H : Int) : Side f (rafter f d H) (atL f H d) ∧ (∀ p ∈ (rafter f d H).people, 0 ≤ p.rank) := by
  obtain ⟨hl, ht, hm⟩ := diffs_spec hd
  have hdl := diffs_len hd
  refine rfold_side _ Rs.new (St.new f) (side_new f) (new_ok f) (Int.le_refl _) (plc_new hv) (fun p hp => by cases hp) (fun x hx => ht.valid x (List.mem_filter.1 hx).1) (List.Pairwise.sublist List.filter_sublist (taken_hours ht)) (.inl rfl) ?_
  have h1 : (St.new f).known.length = 0 := rfl
  have h2 := List.length_filter_le (fun x => decide (x.hour ≤ H)) d
  omega
theorem out_side {f : Fd} {r : Rs} {s : St} (h : Side f r s) (ok : StOk s) (hr : ∀ p ∈ r.people, 0 ≤ p.rank) : (r.order.filter fun p => !r.ins.contains p.player).map Rp.player = s.alts := by
  rw [filter_map_player r.order (fun k => !r.ins.contains k), (order_side h ok hr).1, h.ins]
  rfl
end E
end Go.Proofs.Ytdhaalonnmajkaa

namespace Go.Proofs.Ytdhaalonnmajkaa
open Go.RowKit Go.Sort
attribute [local go_sem ↓] Go.wp_at_zero Go.wp_at_succ

theorem flatN_div {xs : List E.Nt} {j : Nat} {u : Value} (h : (flatN xs)[j]? = some u) : ∃ x, xs[j / 5]? = some x ∧ (nc x)[j % 5]? = some u := by
  have hj : j < xs.length * 5 := by rw [← flatN_length]; exact (List.getElem?_eq_some_iff.1 h).1
  have hk : j / 5 < xs.length := by omega
  refine ⟨xs[j / 5], List.getElem?_eq_getElem hk, ?_⟩
  rw [← flatN_at xs (j / 5) _ (j % 5) (List.getElem?_eq_getElem hk) (by omega), ← h]
  congr 1
  omega
theorem RdN.cellAt {w : World} {B : Nat} {ad : Addr} {xs : List E.Nt} (h : RdN w B (some ad) xs) {j : Nat} {u : Value} (hj : (flatN xs)[j]? = some u) : w.cell? (ad.add j) = some u := by
  obtain ⟨x, hx, hu⟩ := flatN_div hj
  obtain ⟨b, o, e, _, c0, c1, c2, c3, c4⟩ := h (j / 5) x hx
  have e' := Option.some.inj e
  subst e'
  rw [add_plain]
  have hm : j % 5 < 5 := by omega
  have hd : o + j = o + j / 5 * 5 + j % 5 := by omega
  rw [hd]
  unfold nc at hu
  match hq : j % 5, hm with
  | 0, _ => rw [hq] at hu; rw [← Option.some.inj hu]; exact c0
  | 1, _ => rw [hq] at hu; rw [← Option.some.inj hu]; exact c1
  | 2, _ => rw [hq] at hu; rw [← Option.some.inj hu]; exact c2
  | 3, _ => rw [hq] at hu; rw [← Option.some.inj hu]; exact c3
  | 4, _ => rw [hq] at hu; rw [← Option.some.inj hu]; exact c4
theorem run_app_Ns {w : World} (ty : TypeId) (base : Nat) (v : Value) (ps : List E.Nt) (m0 : Nat) (hown : w.ownsRow base 40 5 v m0 (flatN ps)) (hlen : ps.length = m0)
    (A : Option Addr) (n c : Nat) (xs : List E.Nt) (hn : xs.length = n) (hr : RdN w w.heap.size A xs) (hA : A = none → c = 0) (h0 : m0 ≤ 1000) (h1 : n ≤ 1000) (hbase : base ≤ w.heap.size) :
    ∃ A' c' w', (Builtin.append_ #[24, 24] ty #[v, .slice A n c]).run Try.prog w = .ok (.slice A' (m0 + n) c') w' ∧ w'.ownsRow base 40 5 (.slice A' (m0 + n) c') (m0 + n) (flatN (ps ++ xs)) ∧ w.grownBy w' v.ownBlock := by
  obtain ⟨i, hi, hz0, hz1, hz2⟩ := info_parts nt_info
  rcases A with _ | ad
  · have hx0 : xs = [] := by
      match xs, hr with
      | [], _ => rfl
      | x :: r, hr => obtain ⟨_, _, e, _⟩ := hr 0 x rfl; cases e
    subst hx0
    have hn0 : n = 0 := by simpa using hn.symm
    subst hn0
    have hc0 := hA rfl
    subst hc0
    obtain ⟨A', c', rfl⟩ := own_form hown
    have hrun := run_append_owned_none (P := Try.prog) (w := w) base 24 ty 40 i 5 Try.underlying24 hi (.slice A' m0 c') m0 (flatN ps) hown
    exact ⟨A', c', w, hrun, by simpa using hown, World.grownBy.refl w _⟩
  · obtain ⟨v', w', hrun, h2, h3, _, _⟩ := run_append_own_at (P := Try.prog) w base 24 ty 40 i _ 5 40 Try.underlying24 hi hz0 hz1 hz2 (by rfl) (by decide) v m0 (flatN ps) hown ad n c (flatN xs) (by rw [flatN_length, hn]) (by
      intro j u hj
      exact hr.cellAt hj) (flatN_one xs) (by unfold maxLen; omega) (by omega) hbase
    obtain ⟨A', c', rfl⟩ := own_form h2
    exact ⟨A', c', w', hrun, by rw [flatN_app]; exact h2, h3⟩
theorem wpList_app_Ns {w : World} {ops : Array Oper} {rest : List Oper} {o : Oper} {a : Act} {Q : Exit → Act → World → Prop} (hgd : o.guard = none) (s x : Operand)
    (ho : o.op = .call { callee := .builtin .append, args := #[s, x], argTypes := #[24, 24] }) (base : Nat) (v : Value) (ps : List E.Nt) (m0 : Nat) (hs : a.eval s = v) (hown : w.ownsRow base 40 5 v m0 (flatN ps)) (hlen : ps.length = m0)
    (A : Option Addr) (n c : Nat) (xs : List E.Nt) (hx : a.eval x = .slice A n c) (hn : xs.length = n) (hr : RdN w w.heap.size A xs) (hA : A = none → c = 0) (h0 : m0 ≤ 1000) (h1 : n ≤ 1000) (hbase : base ≤ w.heap.size) (N : Nat) (hN : m0 + n = N)
    (h : ∀ A' c' w', w'.ownsRow base 40 5 (.slice A' N c') N (flatN (ps ++ xs)) → w.grownBy w' v.ownBlock → wpList Try.prog ops Q rest (a.put o.dst (.slice A' N c')) w') :
    wpList Try.prog ops Q (o :: rest) a w := by
  subst hN
  refine wpList_plain hgd fun K hK => ?_
  obtain ⟨A', c', w', hr', h2, h3⟩ := run_app_Ns o.type base v ps m0 hown hlen A n c xs hn hr hA h0 h1 hbase
  unfold Oper.wp execOp
  simp only [ho, resolve, invoke, builtin, Sem.run_bind, Sem.run_pure, Result.andThen_ok, List.map_toArray, List.map_cons, List.map_nil, hs, hx, hr']
  exact hK _ _ (h A' c' w' h2 h3)
theorem ownsN_empty {w : World} {q B : Nat} (hq : w.heap[q]? = some (.cells #[] 40 (0, 0))) (h : B ≤ q) : w.ownsRow B 40 5 (.slice (some ⟨q, 0, Option.none⟩) 0 0) 0 (flatN []) :=
  ⟨rfl, .inr ⟨q, 0, #[], rfl, h, hq, Nat.le_refl _, Nat.zero_le _, rfl, rfl⟩⟩
theorem ownsN_nil (w : World) (B : Nat) : w.ownsRow B 40 5 (.slice Option.none 0 0) 0 (flatN []) := ⟨rfl, .inl ⟨rfl, rfl⟩⟩

def set5 (L : List Value) (o : Nat) (y : E.Nt) : List Value := ((((L.set o (.int .i64 y.id)).set (o + 1) (.int .i64 y.hour)).set (o + 2) (.int .i64 y.kind)).set (o + 3) (.int .i64 y.player)).set (o + 4) (.int .i64 y.rank)
theorem set5_flat : ∀ (xs : List E.Nt) (k : Nat) (y : E.Nt), set5 (flatN xs) (k * 5) y = flatN (xs.set k y)
  | [], k, y => by simp [flatN, set5]
  | x :: r, 0, y => by
    show set5 (nc x ++ flatN r) 0 y = nc y ++ flatN r
    rfl
  | x :: r, k + 1, y => by
    have ih := set5_flat r k y
    have e : (k + 1) * 5 = k * 5 + 5 := by omega
    rw [e]
    show set5 (nc x ++ flatN r) (k * 5 + 5) y = nc x ++ flatN (r.set k y)
    rw [← ih]
    rfl
theorem set5_take (L : List Value) (o n : Nat) (y : E.Nt) : (set5 L o y).take n = set5 (L.take n) o y := by
  unfold set5
  simp only [List.take_set]
theorem heap_set5 {w : World} {g : Nat} {cur : Array Value} {t : TypeId} (h : w.heap[g]? = some (.cells cur t (0, 0))) (o : Nat) (y : E.Nt) : ∃ cur', (w.setCells g o (nc y)).heap[g]? = some (.cells cur' t (0, 0)) ∧ cur'.toList = set5 cur.toList o y := by
  have h1 := blk_set h o (.int .i64 y.id)
  have h2 := blk_set h1 (o + 1) (.int .i64 y.hour)
  have h3 := blk_set h2 (o + 2) (.int .i64 y.kind)
  have h4 := blk_set h3 (o + 3) (.int .i64 y.player)
  have h5 := blk_set h4 (o + 4) (.int .i64 y.rank)
  refine ⟨_, h5, ?_⟩
  simp only [Array.toList_setIfInBounds]
  rfl
theorem grown_set5 (w : World) (g o : Nat) (y : E.Nt) : w.grownBy (w.setCells g o (nc y)) (some g) := by
  have e : w.setCells g o (nc y) = ((((w.setCell ⟨g, o, Option.none⟩ (.int .i64 y.id)).setCell ⟨g, o + 1, Option.none⟩ (.int .i64 y.hour)).setCell ⟨g, o + 2, Option.none⟩ (.int .i64 y.kind)).setCell ⟨g, o + 3, Option.none⟩ (.int .i64 y.player)).setCell ⟨g, o + 4, Option.none⟩ (.int .i64 y.rank) := rfl
  rw [e]
  exact gr_trans (gr_trans (gr_trans (gr_trans (gr_set _ _ _ _) (gr_set _ _ _ _)) (gr_set _ _ _ _)) (gr_set _ _ _ _)) (gr_set _ _ _ _)
theorem own_set5 {w : World} {base g N c : Nat} {ms : List E.Nt} (h : w.ownsRow base 40 5 (.slice (some ⟨g, 0, Option.none⟩) N c) N (flatN ms)) (hlen : ms.length = N) (k : Nat) (y : E.Nt) : (w.setCells g (k * 5) (nc y)).ownsRow base 40 5 (.slice (some ⟨g, 0, Option.none⟩) N c) N (flatN (ms.set k y)) := by
  obtain ⟨h1, ⟨h2, _⟩ | ⟨g', cap, cur, e, hb, hblk, hc1, hc2, hsz, htk⟩⟩ := h
  · cases h2
  · simp only [Value.slice.injEq, Option.some.injEq, Addr.mk.injEq] at e
    obtain ⟨⟨rfl, _⟩, _, rfl⟩ := e
    obtain ⟨cur', hb', hl'⟩ := heap_set5 hblk (k * 5) y
    refine ⟨by rw [flatN_length, List.length_set, hlen], .inr ⟨g, c, cur', rfl, hb, hb', hc1, hc2, ?_, ?_⟩⟩
    · have : cur'.size = cur.size := by
        rw [← Array.length_toList, hl', ← Array.length_toList]
        unfold set5
        simp only [List.length_set]
      rw [this, hsz]
    · rw [hl', set5_take, htk, set5_flat]
theorem own_there {w : World} {base g N c : Nat} {ms : List E.Nt} (h : w.ownsRow base 40 5 (.slice (some ⟨g, 0, Option.none⟩) N c) N (flatN ms)) {k : Nat} (hk : k < N) : w.there g (k * 5) 5 := by
  obtain ⟨h1, ⟨h2, _⟩ | ⟨g', cap, cur, e, hb, hblk, hc1, hc2, hsz, htk⟩⟩ := h
  · cases h2
  · simp only [Value.slice.injEq, Option.some.injEq, Addr.mk.injEq] at e
    obtain ⟨⟨rfl, _⟩, _, rfl⟩ := e
    intro j hj
    refine ⟨?_, blk_frozen hblk _⟩
    rw [blk_cell hblk]
    have : k * 5 + j < cur.size := by rw [hsz]; have := Nat.mul_le_mul_right 5 (show k + 1 ≤ c by omega); omega
    rw [Array.getElem?_eq_getElem this]
    rfl
theorem nc_one (y : E.Nt) : (nc y).toArray.all (·.oneCell') = true := all_oneCell_toArray (fun v hv => by
  simp only [nc, List.mem_cons, List.not_mem_nil, or_false] at hv
  rcases hv with rfl | rfl | rfl | rfl | rfl <;> rfl)
theorem ntSize : (Try.prog.info? 40).map (·.size) = some 5 := by kernel_rfl

theorem same_any (A1 A2 A3 B1 B2 B3 : Option Addr) (c1 c2 c3 d1 d2 d3 : Nat) (M C O : List Int) (P : Int) (w : World) (hM : M.length ≤ 1000) (hC : C.length ≤ 1000) (hO : O.length ≤ 1000)
    (h1 : RdI w w.heap.size A1 M) (h2 : RdI w w.heap.size A2 C) (h3 : RdI w w.heap.size A3 O) (k1 : RdI w w.heap.size B1 M) (k2 : RdI w w.heap.size B2 C) (k3 : RdI w w.heap.size B3 O) :
    Calls Try.prog 18 #[.agg #[.slice A1 M.length c1, .slice A2 C.length c2, .slice A3 O.length c3, .int .i64 P], .agg #[.slice B1 M.length d1, .slice B2 C.length d2, .slice B3 O.length d3, .int .i64 P]] w fun e w' => e = .returned (.bool true) ∧ Below w.heap.size w w' := by
  have H1 := hide h1
  have H2 := hide h2
  have H3 := hide h3
  have K1 := hide k1
  have K2 := hide k2
  have K3 := hide k3
  have HM := hide hM
  have HC := hide hC
  have HO := hide hO
  clear h1 h2 h3 k1 k2 k3 hM hC hO
  go_enter Try.func18, Try.ntmps18
  have hb0 : Below w.heap.size w ((w.alloc (.cells #[.slice A1 M.length c1, .slice A2 C.length c2, .slice A3 O.length c3, .int .i64 P] 33)).alloc (.cells #[.slice B1 M.length d1, .slice B2 C.length d2, .slice B3 O.length d3, .int .i64 P] 33)) := by (repeat' first | exact zbR _ _ | assumption | refine zbD ?_ | refine zbA ?_ ?_ _ | refine zbS ?_ ?_ _ | refine zbT ?_ (by assumption) ?_ | (simp; done) | (simp; omega) | omega)
  go_upto_region 1 with fail
  obtain ⟨w0, hw0⟩ : ∃ w0, (w.alloc (.cells #[.slice A1 M.length c1, .slice A2 C.length c2, .slice A3 O.length c3, .int .i64 P] 33)).alloc (.cells #[.slice B1 M.length d1, .slice B2 C.length d2, .slice B3 O.length d3, .int .i64 P] 33) = w0 := ⟨_, rfl⟩
  have hs0 : w0.heap.size = w.heap.size + 2 := by rw [← hw0]; simp
  have HF := hide (show w0.heap[w.heap.size]? = some (.cells #[.slice A1 M.length c1, .slice A2 C.length c2, .slice A3 O.length c3, .int .i64 P] 33 (0, 0)) by rw [← hw0]; exact (Below.heap_alloc _ _ _ (by first | (simp; done) | (simp; omega) | omega)).trans (World.alloc_heap_new _ _))
  have HG := hide (show w0.heap[w.heap.size + 1]? = some (.cells #[.slice B1 M.length d1, .slice B2 C.length d2, .slice B3 O.length d3, .int .i64 P] 33 (0, 0)) by rw [← hw0]; exact (congrArg _ (by simp)).trans (World.alloc_heap_new _ _))
  rw [hw0] at hb0 ⊢
  clear hw0
  have HB0 := hide hb0
  obtain ⟨p, hp⟩ : ∃ p, w.heap.size = p := ⟨_, rfl⟩
  obtain ⟨q, hq⟩ : ∃ q, w.heap.size + 1 = q := ⟨_, rfl⟩
  rw [hp] at HF
  rw [hq] at HG
  have HPQ := hide (show p < w0.heap.size ∧ q < w0.heap.size by omega)
  (try rw [hq])
  rw [hp] at *
  clear hs0 hb0
  have a0 : w0.cell? ⟨p, 0, none⟩ = some (.slice A1 M.length c1) := (blk_cell HF.out 0).trans rfl
  have a1 : w0.cell? ⟨p, 1, none⟩ = some (.slice A2 C.length c2) := (blk_cell HF.out 1).trans rfl
  have a2 : w0.cell? ⟨p, 2, none⟩ = some (.slice A3 O.length c3) := (blk_cell HF.out 2).trans rfl
  have a3 : w0.cell? ⟨p, 3, none⟩ = some (.int .i64 P) := (blk_cell HF.out 3).trans rfl
  have b0 : w0.cell? ⟨q, 0, none⟩ = some (.slice B1 M.length d1) := (blk_cell HG.out 0).trans rfl
  have b1 : w0.cell? ⟨q, 1, none⟩ = some (.slice B2 C.length d2) := (blk_cell HG.out 1).trans rfl
  have b2 : w0.cell? ⟨q, 2, none⟩ = some (.slice B3 O.length d3) := (blk_cell HG.out 2).trans rfl
  have b3 : w0.cell? ⟨q, 3, none⟩ = some (.int .i64 P) := (blk_cell HG.out 3).trans rfl
  have lp := HPQ.out.1
  have lq := HPQ.out.2
  have H00 := hide (Below.refl w0.heap.size w0)
  have SM := fun (W : World) (hb : Below w0.heap.size w0 W) => sameInts_eq A1 B1 M.length c1 d1 M W rfl (((H1.out.below HB0.out).mono HB0.out.size).below hb |>.mono hb.size) (((K1.out.below HB0.out).mono HB0.out.size).below hb |>.mono hb.size) (by have := HM.out; omega)
  have SC := fun (W : World) (hb : Below w0.heap.size w0 W) => sameInts_eq A2 B2 C.length c2 d2 C W rfl (((H2.out.below HB0.out).mono HB0.out.size).below hb |>.mono hb.size) (((K2.out.below HB0.out).mono HB0.out.size).below hb |>.mono hb.size) (by have := HC.out; omega)
  have SO := fun (W : World) (hb : Below w0.heap.size w0 W) => sameInts_eq A3 B3 O.length c3 d3 O W rfl (((H3.out.below HB0.out).mono HB0.out.size).below hb |>.mono hb.size) (((K3.out.below HB0.out).mono HB0.out.size).below hb |>.mono hb.size) (by have := HO.out; omega)
  go_wp2_with (first | (go_at_call 27; with_reducible refine (SM w0 ?hb).mono ?_; (case hb => exact H00.out); rintro e w1 ⟨rfl, hb1⟩; have H01 := hide (zbT H00.out hb1 H00.out.size); clear hb1; have HFn1 := hide ((H01.out.block _ (blk_lt HF.out)).trans HF.out); have HGn1 := hide ((H01.out.block _ (blk_lt HG.out)).trans HG.out); have a10 : w1.cell? ⟨p, 0, none⟩ = some (.slice A1 M.length c1) := (blk_cell HFn1.out 0).trans rfl; have b10 : w1.cell? ⟨q, 0, none⟩ = some (.slice B1 M.length d1) := (blk_cell HGn1.out 0).trans rfl; have a11 : w1.cell? ⟨p, 1, none⟩ = some (.slice A2 C.length c2) := (blk_cell HFn1.out 1).trans rfl; have b11 : w1.cell? ⟨q, 1, none⟩ = some (.slice B2 C.length d2) := (blk_cell HGn1.out 1).trans rfl; have a12 : w1.cell? ⟨p, 2, none⟩ = some (.slice A3 O.length c3) := (blk_cell HFn1.out 2).trans rfl; have b12 : w1.cell? ⟨q, 2, none⟩ = some (.slice B3 O.length d3) := (blk_cell HGn1.out 2).trans rfl; have a13 : w1.cell? ⟨p, 3, none⟩ = some (.int .i64 P) := (blk_cell HFn1.out 3).trans rfl; have b13 : w1.cell? ⟨q, 3, none⟩ = some (.int .i64 P) := (blk_cell HGn1.out 3).trans rfl; have lp1 := blk_lt HFn1.out; have lq1 := blk_lt HGn1.out) | (go_at_call 27; with_reducible refine (SC w1 ?hb).mono ?_; (case hb => exact H01.out); rintro e w2 ⟨rfl, hb1⟩; have H02 := hide (zbT H01.out hb1 H01.out.size); clear hb1; have HFn2 := hide ((H02.out.block _ (blk_lt HF.out)).trans HF.out); have HGn2 := hide ((H02.out.block _ (blk_lt HG.out)).trans HG.out); have a20 : w2.cell? ⟨p, 0, none⟩ = some (.slice A1 M.length c1) := (blk_cell HFn2.out 0).trans rfl; have b20 : w2.cell? ⟨q, 0, none⟩ = some (.slice B1 M.length d1) := (blk_cell HGn2.out 0).trans rfl; have a21 : w2.cell? ⟨p, 1, none⟩ = some (.slice A2 C.length c2) := (blk_cell HFn2.out 1).trans rfl; have b21 : w2.cell? ⟨q, 1, none⟩ = some (.slice B2 C.length d2) := (blk_cell HGn2.out 1).trans rfl; have a22 : w2.cell? ⟨p, 2, none⟩ = some (.slice A3 O.length c3) := (blk_cell HFn2.out 2).trans rfl; have b22 : w2.cell? ⟨q, 2, none⟩ = some (.slice B3 O.length d3) := (blk_cell HGn2.out 2).trans rfl; have a23 : w2.cell? ⟨p, 3, none⟩ = some (.int .i64 P) := (blk_cell HFn2.out 3).trans rfl; have b23 : w2.cell? ⟨q, 3, none⟩ = some (.int .i64 P) := (blk_cell HGn2.out 3).trans rfl; have lp2 := blk_lt HFn2.out; have lq2 := blk_lt HGn2.out) | (go_at_call 27; with_reducible refine (SO w2 ?hb).mono ?_; (case hb => exact H02.out); rintro e w3 ⟨rfl, hb1⟩; have H03 := hide (zbT H02.out hb1 H02.out.size); clear hb1; have HFn3 := hide ((H03.out.block _ (blk_lt HF.out)).trans HF.out); have HGn3 := hide ((H03.out.block _ (blk_lt HG.out)).trans HG.out); have a30 : w3.cell? ⟨p, 0, none⟩ = some (.slice A1 M.length c1) := (blk_cell HFn3.out 0).trans rfl; have b30 : w3.cell? ⟨q, 0, none⟩ = some (.slice B1 M.length d1) := (blk_cell HGn3.out 0).trans rfl; have a31 : w3.cell? ⟨p, 1, none⟩ = some (.slice A2 C.length c2) := (blk_cell HFn3.out 1).trans rfl; have b31 : w3.cell? ⟨q, 1, none⟩ = some (.slice B2 C.length d2) := (blk_cell HGn3.out 1).trans rfl; have a32 : w3.cell? ⟨p, 2, none⟩ = some (.slice A3 O.length c3) := (blk_cell HFn3.out 2).trans rfl; have b32 : w3.cell? ⟨q, 2, none⟩ = some (.slice B3 O.length d3) := (blk_cell HGn3.out 2).trans rfl; have a33 : w3.cell? ⟨p, 3, none⟩ = some (.int .i64 P) := (blk_cell HFn3.out 3).trans rfl; have b33 : w3.cell? ⟨q, 3, none⟩ = some (.int .i64 P) := (blk_cell HGn3.out 3).trans rfl; have lp3 := blk_lt HFn3.out; have lq3 := blk_lt HGn3.out))
  go_ret
  exact ⟨rfl, HB0.out.trans (H03.out.mono HB0.out.size)⟩
end Go.Proofs.Ytdhaalonnmajkaa

namespace Go.Proofs.Ytdhaalonnmajkaa
open Go.RowKit

namespace E
structure PlcAll (f : Fd) (h : Int) (l : List Nt) (M C O B : List Int) (P : Int) : Prop where
  open_ : 0 ≤ P
  wilds : (C.length : Int) ≤ f.wilds
  nodup : (M ++ C ++ O).Nodup
  guards : cntG f h l M ≤ f.guards
  sum : (M.length : Int) + P = f.places + (if f.freeze < h then ((B.filter (fun k => !C.contains k)).length : Int) else 0)
structure PlcOne (f : Fd) (h : Int) (l : List Nt) (M C : List Int) (i : Nat) (k : Int) (s1 s2 : Int) : Prop where
  stand : StandVal f l h k = .tuple #[.int .i64 s1, .int .i64 s2, .int .i64 0]
  quit : ∀ x ∈ l, ¬ (x.player = k ∧ x.kind = 4 ∧ x.hour ≤ h)
  ent : s1 ≠ 2 → (entF f h k l).hour ≤ 9999
end E
end Go.Proofs.Ytdhaalonnmajkaa

namespace Go.Proofs.Ytdhaalonnmajkaa
open Go.RowKit

namespace E
end E

theorem step_store_mid {P : Program} {w : World} {ops : Array Oper} {o : Oper} {a : Act} {K : Act → World → Prop} {Q : Exit → Act → World → Prop} {E : Prop} (hgd : o.guard = none) (ty : TypeId) (x y : Operand) (ho : o.op = .store ty x y)
    (b off : Nat) (cells : Array Value) (hx : a.eval x = .pointer (some ⟨b, off, none⟩)) (hy : a.eval y = .agg cells) (ht : w.there b off cells.size) (hi : (P.info? ty).map (·.size) = some cells.size) (h1 : cells.all (·.oneCell') = true)
    (h : K (a.put o.dst undef) (w.setCells b off cells.toList)) : if Region.wanted o (yielded ops a.tmps) = true then Oper.wp P o a w K Q else E := by
  have hw : Region.wanted o (yielded ops a.tmps) = true := by simp [Region.wanted, hgd]
  rw [if_pos hw]
  exact wp_store_mid ty x y ho b off cells hx hy ht hi h1 h
theorem own_form5 {w : World} {base N c : Nat} {A : Option Addr} {ms : List E.Nt} (h : w.ownsRow base 40 5 (.slice A N c) N (flatN ms)) (hN : 0 < N) : ∃ g, A = some ⟨g, 0, none⟩ := by
  obtain ⟨g, e, _⟩ := own_slice h hN
  exact ⟨g, e⟩
end Go.Proofs.Ytdhaalonnmajkaa

namespace Go.Proofs.Ytdhaalonnmajkaa
open Go.RowKit Go.Sort
attribute [local go_sem ↓] Go.wp_at_zero Go.wp_at_succ

def pc (p : E.Rp) : List Value := [.int .i64 p.player, .int .i64 p.rank, .bool p.grd, .bool p.ent, .bool p.quit, .bool p.sgn, .bool p.card]
def flatP (xs : List E.Rp) : List Value := xs.flatMap pc
def RdP (w : World) (B : Nat) (A : Option Addr) (xs : List E.Rp) : Prop :=
  ∀ (k : Nat) (p : E.Rp), xs[k]? = some p → ∃ b o : Nat, A = some ⟨b, o, none⟩ ∧ b < B ∧ w.cell? ⟨b, o + k * 7, none⟩ = some (.int .i64 p.player) ∧ w.cell? ⟨b, o + k * 7 + 1, none⟩ = some (.int .i64 p.rank) ∧ w.cell? ⟨b, o + k * 7 + 2, none⟩ = some (.bool p.grd) ∧ w.cell? ⟨b, o + k * 7 + 3, none⟩ = some (.bool p.ent) ∧ w.cell? ⟨b, o + k * 7 + 4, none⟩ = some (.bool p.quit) ∧ w.cell? ⟨b, o + k * 7 + 5, none⟩ = some (.bool p.sgn) ∧ w.cell? ⟨b, o + k * 7 + 6, none⟩ = some (.bool p.card)
theorem RdP.below {w w' : World} {B : Nat} {A : Option Addr} {xs : List E.Rp} (h : RdP w B A xs) (hb : Below B w w') : RdP w' B A xs := fun k p hk => by
  obtain ⟨b, o, e, hB, c0, c1, c2, c3, c4, c5, c6⟩ := h k p hk
  exact ⟨b, o, e, hB, (hb.cell (p := ⟨b, _, none⟩) hB).trans c0, (hb.cell (p := ⟨b, _, none⟩) hB).trans c1, (hb.cell (p := ⟨b, _, none⟩) hB).trans c2, (hb.cell (p := ⟨b, _, none⟩) hB).trans c3, (hb.cell (p := ⟨b, _, none⟩) hB).trans c4, (hb.cell (p := ⟨b, _, none⟩) hB).trans c5, (hb.cell (p := ⟨b, _, none⟩) hB).trans c6⟩
theorem RdP.mono {w : World} {B B' : Nat} {A : Option Addr} {xs : List E.Rp} (h : RdP w B A xs) (hB : B ≤ B') : RdP w B' A xs := fun k p hk => by
  obtain ⟨b, o, e, h1, r⟩ := h k p hk
  exact ⟨b, o, e, by omega, r⟩
theorem RdP.nil (w : World) (B : Nat) (A : Option Addr) : RdP w B A [] := fun k p h => by simp at h
theorem flatP_length (xs : List E.Rp) : (flatP xs).length = xs.length * 7 := by
  induction xs with
  | nil => rfl
  | cons a r ih =>
    have : flatP (a :: r) = pc a ++ flatP r := rfl
    rw [this, List.length_append, ih, List.length_cons]
    show 7 + _ = _
    omega
theorem flatP_app (l r : List E.Rp) : flatP (l ++ r) = flatP l ++ flatP r := by unfold flatP; simp
theorem flatP_one (xs : List E.Rp) : ∀ u ∈ flatP xs, u.oneCell' = true := by
  intro u hu
  obtain ⟨p, _, hp⟩ := List.mem_flatMap.1 hu
  simp only [pc, List.mem_cons, List.not_mem_nil, or_false] at hp
  rcases hp with rfl | rfl | rfl | rfl | rfl | rfl | rfl <;> rfl
theorem flatP_at : ∀ (xs : List E.Rp) (k : Nat) (p : E.Rp) (i : Nat), xs[k]? = some p → i < 7 → (flatP xs)[k * 7 + i]? = (pc p)[i]?
  | a :: r, 0, p, i, h, hi => by
    have e : a = p := Option.some.inj h
    subst e
    show (pc a ++ flatP r)[0 * 7 + i]? = _
    rw [Nat.zero_mul, Nat.zero_add, List.getElem?_append_left (by show i < 7; exact hi)]
  | a :: r, k + 1, p, i, h, hi => by
    have h' : r[k]? = some p := h
    show (pc a ++ flatP r)[(k + 1) * 7 + i]? = _
    rw [List.getElem?_append_right (by show 7 ≤ _; omega)]
    have e : (k + 1) * 7 + i - (pc a).length = k * 7 + i := by show (k + 1) * 7 + i - 7 = _; omega
    rw [e]
    exact flatP_at r k p i h' hi
theorem owns_RdP {w : World} {base : Nat} {A : Option Addr} {n c : Nat} {xs : List E.Rp} (h : w.ownsRow base 99 7 (.slice A n c) n (flatP xs)) (hn : xs.length = n) : RdP w w.heap.size A xs := by
  intro k p hk
  have hkl : k < n := by rw [← hn]; exact (List.getElem?_eq_some_iff.1 hk).1
  obtain ⟨g, cap, e, hbg, hh⟩ := h.form (by omega)
  have e' : A = some ⟨g, 0, none⟩ ∧ c = cap := by
    simp only [Value.slice.injEq] at e
    exact ⟨e.1, e.2.2⟩
  obtain ⟨rfl, rfl⟩ := e'
  have at_ : ∀ i, i < 7 → w.cell? ⟨g, 0 + k * 7 + i, none⟩ = (pc p)[i]? := fun i hi => by
    rw [Nat.zero_add, h.cellAt (k * 7 + i) (by have := Nat.mul_le_mul_right 7 (show k + 1 ≤ n by omega); omega)]
    exact flatP_at xs k p i hk hi
  exact ⟨g, 0, rfl, (h.lt g rfl).2, at_ 0 (by omega), at_ 1 (by omega), at_ 2 (by omega), at_ 3 (by omega), at_ 4 (by omega), at_ 5 (by omega), at_ 6 (by omega)⟩

set_option maxHeartbeats 1600000 in
theorem In_any (A : Option Addr) (n c : Nat) (xs : List Int) (y : Int) (w : World) (hn : xs.length = n) (hr : RdI w w.heap.size A xs) (hm : n ≤ 1000000) :
    Calls Try.prog 50 #[.slice A n c, .int .i64 y] w fun e w' => e = .returned (.bool (xs.contains y)) ∧ w = w' := by
  have HN := hide hn
  have HR := hide hr
  obtain ⟨q, hq⟩ : ∃ q, xs.contains y = q := ⟨_, rfl⟩
  rw [hq]
  have HQ := hide hq
  clear hn hr hq
  go_enter Try.func50, Try.ntmps50
  go_wp2_with fail
  go_loop [5] (fun i => ∃ k : Nat, k ≤ n ∧ i = .int .i64 k ∧ Hid (∀ j, j < k → xs[j]? ≠ some y)) (fun i => n - (intOf i).toNat)
  case atStart => exact ⟨0, by omega, rfl, hide (fun j hj => by omega)⟩
  case round =>
    obtain ⟨k, hk, rfl, HZ⟩ := hrel
    by_cases hlt : k < n
    · obtain ⟨x, hx⟩ : ∃ q, xs[k]? = some q := ⟨_, List.getElem?_eq_getElem (by have := HN.out; omega)⟩
      obtain ⟨b, o, hA, hbB, c0⟩ := HR.out k x hx
      subst hA
      have HX := hide hx
      clear hx
      have hlt' : (k : Int) < (n : Int) := by omega
      have hk0 : (0 : Int) ≤ (k : Int) := by omega
      cases h0 : (x == y)
      · have HX0 := hide (show x ≠ y by simpa using h0)
        go_wp2_with fail
        go_round
        case rel => exact ⟨k + 1, by omega, by go_num, hide (fun j hj => by
          rcases Nat.lt_or_ge j k with h | h
          · exact HZ.out j h
          · have : j = k := by omega
            rw [this, HX.out]
            intro e
            exact HX0.out (Option.some.inj e))⟩
        case measure => simp [intOf]; omega
      · have HX0 := hide (show x = y by simpa using h0)
        go_wp2_with fail
        go_ret
        have hq : q = true := HQ.out.symm.trans (by rw [List.contains_eq_mem, decide_eq_true_eq, ← HX0.out]; exact List.mem_of_getElem? HX.out)
        subst hq
        exact ⟨rfl, rfl⟩
    · have hkn : k = n := by omega
      subst hkn
      go_wp2_with fail
      go_ret
      have hq : q = false := HQ.out.symm.trans (by
        rw [List.contains_eq_mem, decide_eq_false_iff_not]
        intro hmem
        obtain ⟨j, hj⟩ := List.mem_iff_getElem?.1 hmem
        exact HZ.out j (by have := (List.getElem?_eq_some_iff.1 hj).1; have := HN.out; omega) hj)
      subst hq
      exact ⟨rfl, rfl⟩


theorem idx_hit {xs : List Int} {y : Int} {k : Nat} (h : ∀ j, j < k → xs[j]? ≠ some y) (hk : xs[k]? = some y) : E.idx xs y = (k : Int) := by
  unfold E.idx
  have : xs.findIdx? (· == y) = some k := by
    rw [List.findIdx?_eq_some_iff_getElem]
    obtain ⟨h1, h2⟩ := List.getElem?_eq_some_iff.1 hk
    refine ⟨h1, by simp [h2], fun j hj => ?_⟩
    simp only [beq_iff_eq]
    intro e
    exact h j hj (by rw [List.getElem?_eq_getElem (by omega), e])
  rw [this]
theorem idx_miss {xs : List Int} {y : Int} (h : ∀ j, j < xs.length → xs[j]? ≠ some y) : E.idx xs y = -1 := E.idx_no fun hm => by
  obtain ⟨j, hj⟩ := List.mem_iff_getElem?.1 hm
  exact h j (List.getElem?_eq_some_iff.1 hj).1 hj
set_option maxHeartbeats 1600000 in
theorem place_any (A : Option Addr) (n c : Nat) (xs : List Int) (y : Int) (w : World) (hn : xs.length = n) (hr : RdI w w.heap.size A xs) (hm : n ≤ 1000000) :
    Calls Try.prog 54 #[.slice A n c, .int .i64 y] w fun e w' => e = .returned (.int .i64 (E.idx xs y + 1)) ∧ w = w' := by
  have HN := hide hn
  have HR := hide hr
  clear hn hr
  go_enter Try.func54, Try.ntmps54
  go_wp2_with fail
  go_loop [5] (fun i => ∃ k : Nat, k ≤ n ∧ i = .int .i64 k ∧ Hid (∀ j, j < k → xs[j]? ≠ some y)) (fun i => n - (intOf i).toNat)
  case atStart => exact ⟨0, by omega, rfl, hide (fun j hj => by omega)⟩
  case round =>
    obtain ⟨k, hk, rfl, HZ⟩ := hrel
    by_cases hlt : k < n
    · obtain ⟨x, hx⟩ : ∃ q, xs[k]? = some q := ⟨_, List.getElem?_eq_getElem (by have := HN.out; omega)⟩
      obtain ⟨b, o, hA, hbB, c0⟩ := HR.out k x hx
      subst hA
      have HX := hide hx
      clear hx
      have hlt' : (k : Int) < (n : Int) := by omega
      have hk0 : (0 : Int) ≤ (k : Int) := by omega
      cases h0 : (x == y)
      · have HX0 := hide (show x ≠ y by simpa using h0)
        go_wp2_with fail
        go_round
        case rel => exact ⟨k + 1, by omega, by go_num, hide (fun j hj => by
          rcases Nat.lt_or_ge j k with h | h
          · exact HZ.out j h
          · have : j = k := by omega
            rw [this, HX.out]
            intro e
            exact HX0.out (Option.some.inj e))⟩
        case measure => simp [intOf]; omega
      · have HX0 := hide (show x = y by simpa using h0)
        go_wp2_with fail
        go_ret
        exact ⟨(show _ = Ending.returned (.int .i64 ((k : Int) + 1)) from rfl).trans (by rw [idx_hit HZ.out (by rw [HX.out, HX0.out])]), rfl⟩
    · have hkn : k = n := by omega
      subst hkn
      go_wp2_with fail
      go_ret
      exact ⟨by rw [idx_miss (fun j hj => HZ.out j (by have := HN.out; omega))]; rfl, rfl⟩

set_option maxHeartbeats 1600000 in
theorem without_any (A : Option Addr) (n c : Nat) (xs : List Int) (y : Int) (w : World) (hn : xs.length = n) (hr : RdI w w.heap.size A xs) (hm : n ≤ 900) :
    Calls Try.prog 84 #[.slice A n c, .int .i64 y] w fun e w' => ∃ A' c', e = .returned (.slice A' (xs.filter fun k => k != y).length c') ∧ w'.ownsRow w.heap.size 3 1 (.slice A' (xs.filter fun k => k != y).length c') (xs.filter fun k => k != y).length (flatI (xs.filter fun k => k != y)) ∧ Below w.heap.size w w' := by
  have HN := hide hn
  have HR := hide hr
  clear hn hr
  go_enter Try.func84, Try.ntmps84
  go_wp2_with fail
  go_loopw [5, 6] (fun bf i wr => ∃ (k : Nat) (A2 : Option Addr) (m c2 : Nat), k ≤ n ∧ bf = .slice A2 m c2 ∧ i = .int .i64 k ∧ Hid (m = ((xs.take k).filter fun k => k != y).length) ∧ Hid (wr.ownsRow w.heap.size 3 1 (.slice A2 m c2) m (flatI ((xs.take k).filter fun k => k != y))) ∧ Hid (Below w.heap.size w wr)) (fun _ i _ => n - (intOf i).toNat)
  case atStart => exact ⟨0, none, 0, 0, by omega, rfl, rfl, hide rfl, hide ⟨rfl, .inl ⟨rfl, rfl⟩⟩, hide (Below.refl _ _)⟩
  case round =>
    obtain ⟨k, A2, m, c2, hk, rfl, rfl, HM, HO, HB⟩ := hrel
    by_cases hlt : k < n
    · obtain ⟨x, hx⟩ : ∃ q, xs[k]? = some q := ⟨_, List.getElem?_eq_getElem (by have := HN.out; omega)⟩
      obtain ⟨b, o, hA, hbB, c0⟩ := (HR.out.below HB.out) k x hx
      subst hA
      have htk : xs.take (k + 1) = xs.take k ++ [x] := by rw [List.take_add_one, hx]; rfl
      have HTK := hide htk
      have HX := hide hx
      have hm9 : m ≤ 900 := by have h1 := List.length_filter_le (fun k => k != y) (xs.take k); have h2 := HM.out; rw [List.length_take] at h1; omega
      have hlw : b < wr.heap.size := Nat.lt_of_lt_of_le hbB HB.out.size
      clear hx htk
      have hlt' : (k : Int) < (n : Int) := by omega
      have hk0 : (0 : Int) ≤ (k : Int) := by omega
      cases h0 : (x != y)
      · have HX0 := hide h0
        go_wp2_with fail
        go_roundw
        case rel => exact ⟨k + 1, A2, m, c2, by omega, rfl, by go_num, hide (by rw [HTK.out, List.filter_append, List.filter_cons_of_neg (by rw [HX0.out]; decide), List.length_append, HM.out]; rfl), hide (by rw [HTK.out, List.filter_append, List.filter_cons_of_neg (by rw [HX0.out]; decide), List.filter_nil, List.append_nil]; exact HO.out), HB⟩
        case measure => simp [intOf]; omega
      · have HX0 := hide h0
        go_wp2_with (at_builtin; refine wpList_app_at rfl (.tmp 19) (.tmp 24) rfl w.heap.size (.slice A2 m c2) ((xs.take k).filter fun k => k != y) m rfl (HO.out.alloc _) (some ⟨_, 0, none⟩) 1 1 [x] rfl rfl (rdI_one (World.alloc_heap_new _ _)) (fun e => by cases e) (by omega) (by omega) (by have := HB.out.size; simp; omega) ?_; intro A3 c3 w9 hown2 hgrow; have HO2 := hide hown2; have HB9 := hide ((zbA HB.out HB.out.size _).trans (grown_below (B := w.heap.size) hgrow (by have := HB.out.size; simp; omega) (fun g hg => (HO.out.lt g hg).1))); clear hown2 hgrow)
        go_roundw
        case rel => exact ⟨k + 1, A3, m + 1, c3, by omega, rfl, by go_num, hide (by rw [HTK.out, List.filter_append, List.filter_cons_of_pos (by rw [HX0.out]), List.length_append, HM.out]; rfl), hide (by rw [HTK.out, List.filter_append, List.filter_cons_of_pos (by rw [HX0.out]), List.filter_nil]; exact HO2.out), HB9⟩
        case measure => simp [intOf]; omega
    · have hkn : k = n := by omega
      subst hkn
      have htk : xs.take k = xs := List.take_of_length_le (by have := HN.out; omega)
      have hmm := HM.out
      rw [htk] at hmm
      subst hmm
      have HO2 := hide HO.out
      rw [htk] at HO2
      clear htk
      go_wp2_with fail
      go_ret
      exact ⟨A2, c2, rfl, HO2.out, HB.out⟩

set_option maxHeartbeats 1600000 in
theorem counts_any (p : E.Rp) (w : World) :
    Calls Try.prog 68 #[.agg #[.int .i64 p.player, .int .i64 p.rank, .bool p.grd, .bool p.ent, .bool p.quit, .bool p.sgn, .bool p.card]] w fun e w' => e = .returned (.bool p.counts) ∧ Below w.heap.size w w' := by
  obtain ⟨a, r, g, e, q, s, cd⟩ := p
  unfold E.Rp.counts
  dsimp only
  cases e <;> cases q <;> cases cd <;>
    (go_enter Try.func68, Try.ntmps68
     go_wp2_with fail
     go_ret
     exact ⟨rfl, by (repeat' first | exact zbR _ _ | assumption | refine zbD ?_ | refine zbA ?_ ?_ _ | refine zbS ?_ ?_ _ | refine zbT ?_ (by assumption) ?_ | (simp; done) | (simp; omega) | omega)⟩)

theorem idxR_hit {ps : List E.Rp} {y : Int} {k : Nat} {p : E.Rp} (h : ∀ j q, j < k → ps[j]? = some q → q.player ≠ y) (hk : ps[k]? = some p) (e : p.player = y) : E.idxR ps y = k := by
  unfold E.idxR
  obtain ⟨h1, h2⟩ := List.getElem?_eq_some_iff.1 hk
  rw [List.findIdx_eq h1]
  refine ⟨by rw [h2]; simp [e], fun j hj => ?_⟩
  have := h j ps[j] hj (List.getElem?_eq_getElem (by omega))
  simpa using this
def atV (ps : List E.Rp) (y : Int) : Int := if ps.any (fun p => p.player == y) then (E.idxR ps y : Int) else -1
set_option maxHeartbeats 1600000 in
theorem at_ref (A : Option Addr) (n c : Nat) (ps : List E.Rp) (A2 : Option Addr) (n2 c2 : Nat) (bk : Int) (A3 : Option Addr) (n3 c3 : Nat) (y : Int) (w : World) (hn : ps.length = n) (hr : RdP w w.heap.size A ps) (hm : n ≤ 1000000) :
    Calls Try.prog 83 #[.agg #[.slice A n c, .slice A2 n2 c2, .int .i64 bk, .slice A3 n3 c3], .int .i64 y] w fun e w' => e = .returned (.int .i64 (atV ps y)) ∧ Below w.heap.size w w' := by
  have HN := hide hn
  have HR := hide hr
  clear hn hr
  go_enter Try.func83, Try.ntmps83
  go_upto_region 1 with fail
  obtain ⟨w0, hw0⟩ : ∃ q, w.alloc (.cells #[.slice A n c, .slice A2 n2 c2, .int .i64 bk, .slice A3 n3 c3] 78) = q := ⟨_, rfl⟩
  have HB0 := hide (show Below w.heap.size w w0 by rw [← hw0]; (repeat' first | exact zbR _ _ | assumption | refine zbD ?_ | refine zbA ?_ ?_ _ | refine zbS ?_ ?_ _ | refine zbT ?_ (by assumption) ?_ | (simp; done) | (simp; omega) | omega))
  have HF0 := hide (show w0.heap[w.heap.size]? = some (.cells #[.slice A n c, .slice A2 n2 c2, .int .i64 bk, .slice A3 n3 c3] 78 (0, 0)) by rw [← hw0]; exact World.alloc_heap_new _ _)
  rw [hw0]
  clear hw0
  have HR0 := hide (HR.out.below HB0.out)
  have y0 : w0.cell? ⟨w.heap.size, 0, none⟩ = some (.slice A n c) := (blk_cell HF0.out 0).trans rfl
  have l0 := blk_lt HF0.out
  go_wp2_with fail
  go_loop [5] (fun i => ∃ k : Nat, k ≤ n ∧ i = .int .i64 k ∧ Hid (∀ j q, j < k → ps[j]? = some q → q.player ≠ y)) (fun i => n - (intOf i).toNat)
  case atStart => exact ⟨0, by omega, rfl, hide (fun j q hj => by omega)⟩
  case round =>
    obtain ⟨k, hk, rfl, HZ⟩ := hrel
    by_cases hlt : k < n
    · obtain ⟨x, hx⟩ : ∃ q, ps[k]? = some q := ⟨_, List.getElem?_eq_getElem (by have := HN.out; omega)⟩
      obtain ⟨b, o, hA, hbB, d0, d1, d2, d3, d4, d5, d6⟩ := HR0.out k x hx
      subst hA
      have HX := hide hx
      clear hx
      have hlt' : (k : Int) < (n : Int) := by omega
      have hk0 : (0 : Int) ≤ (k : Int) := by omega
      cases h0 : (x.player == y)
      · have HX0 := hide (show x.player ≠ y by simpa using h0)
        go_wp2_with fail
        go_round
        case rel => exact ⟨k + 1, by omega, by go_num, hide (fun j q hj hq => by
          rcases Nat.lt_or_ge j k with h | h
          · exact HZ.out j q h hq
          · have : j = k := by omega
            rw [this, HX.out] at hq
            rw [← Option.some.inj hq]
            exact HX0.out)⟩
        case measure => simp [intOf]; omega
      · have HX0 := hide (show x.player = y by simpa using h0)
        go_wp2_with fail
        go_ret
        refine ⟨(show _ = Ending.returned (.int .i64 (k : Int)) from rfl).trans ?_, HB0.out⟩
        unfold atV
        rw [if_pos (List.any_eq_true.2 ⟨x, List.mem_of_getElem? HX.out, by simp [HX0.out]⟩), idxR_hit HZ.out HX.out HX0.out]
    · have hkn : k = n := by omega
      subst hkn
      go_wp2_with fail
      go_ret
      refine ⟨(show _ = Ending.returned (.int .i64 (-1)) from rfl).trans ?_, HB0.out⟩
      unfold atV
      rw [if_neg (fun hh => by
        obtain ⟨q, hq, e⟩ := List.any_eq_true.1 hh
        obtain ⟨j, hj⟩ := List.mem_iff_getElem?.1 hq
        exact HZ.out j q (by have := (List.getElem?_eq_some_iff.1 hj).1; have := HN.out; omega) hj (by simpa using e))]

end Go.Proofs.Ytdhaalonnmajkaa

namespace Go.Proofs.Ytdhaalonnmajkaa
open Go.RowKit Go.Sort

theorem person_info : (Try.prog.info? 99).map (fun i => (i.zero, i.size, i.bytes)) = some (some (.agg #[.int .i64 0, .int .i64 0, .bool false, .bool false, .bool false, .bool false, .bool false]), 7, 24) := by kernel_rfl
theorem flatP_div {xs : List E.Rp} {j : Nat} {u : Value} (h : (flatP xs)[j]? = some u) : ∃ x, xs[j / 7]? = some x ∧ (pc x)[j % 7]? = some u := by
  have hj : j < xs.length * 7 := by rw [← flatP_length]; exact (List.getElem?_eq_some_iff.1 h).1
  have hk : j / 7 < xs.length := by omega
  refine ⟨xs[j / 7], List.getElem?_eq_getElem hk, ?_⟩
  rw [← flatP_at xs (j / 7) _ (j % 7) (List.getElem?_eq_getElem hk) (by omega), ← h]
  congr 1
  omega
theorem RdP.cellAt {w : World} {B : Nat} {ad : Addr} {xs : List E.Rp} (h : RdP w B (some ad) xs) {j : Nat} {u : Value} (hj : (flatP xs)[j]? = some u) : w.cell? (ad.add j) = some u := by
  obtain ⟨x, hx, hu⟩ := flatP_div hj
  obtain ⟨b, o, e, _, c0, c1, c2, c3, c4, c5, c6⟩ := h (j / 7) x hx
  have e' := Option.some.inj e
  subst e'
  rw [add_plain]
  have hm : j % 7 < 7 := by omega
  have hd : o + j = o + j / 7 * 7 + j % 7 := by omega
  rw [hd]
  unfold pc at hu
  match hq : j % 7, hm with
  | 0, _ => rw [hq] at hu; rw [← Option.some.inj hu]; exact c0
  | 1, _ => rw [hq] at hu; rw [← Option.some.inj hu]; exact c1
  | 2, _ => rw [hq] at hu; rw [← Option.some.inj hu]; exact c2
  | 3, _ => rw [hq] at hu; rw [← Option.some.inj hu]; exact c3
  | 4, _ => rw [hq] at hu; rw [← Option.some.inj hu]; exact c4
  | 5, _ => rw [hq] at hu; rw [← Option.some.inj hu]; exact c5
  | 6, _ => rw [hq] at hu; rw [← Option.some.inj hu]; exact c6
theorem run_app_Ps {w : World} (ty : TypeId) (base : Nat) (v : Value) (ps : List E.Rp) (m0 : Nat) (hown : w.ownsRow base 99 7 v m0 (flatP ps)) (hlen : ps.length = m0)
    (A : Option Addr) (n c : Nat) (xs : List E.Rp) (hn : xs.length = n) (hr : RdP w w.heap.size A xs) (hA : A = none → c = 0) (h0 : m0 ≤ 1000) (h1 : n ≤ 1000) (hbase : base ≤ w.heap.size) :
    ∃ A' c' w', (Builtin.append_ #[76, 76] ty #[v, .slice A n c]).run Try.prog w = .ok (.slice A' (m0 + n) c') w' ∧ w'.ownsRow base 99 7 (.slice A' (m0 + n) c') (m0 + n) (flatP (ps ++ xs)) ∧ w.grownBy w' v.ownBlock := by
  obtain ⟨i, hi, hz0, hz1, hz2⟩ := info_parts person_info
  rcases A with _ | ad
  · have hx0 : xs = [] := by
      match xs, hr with
      | [], _ => rfl
      | x :: r, hr => obtain ⟨_, _, e, _⟩ := hr 0 x rfl; cases e
    subst hx0
    have hn0 : n = 0 := by simpa using hn.symm
    subst hn0
    have hc0 := hA rfl
    subst hc0
    obtain ⟨A', c', rfl⟩ := own_form hown
    have hrun := run_append_owned_none (P := Try.prog) (w := w) base 76 ty 99 i 7 Try.underlying76 hi (.slice A' m0 c') m0 (flatP ps) hown
    exact ⟨A', c', w, hrun, by simpa using hown, World.grownBy.refl w _⟩
  · obtain ⟨v', w', hrun, h2, h3, _, _⟩ := run_append_own_at (P := Try.prog) w base 76 ty 99 i _ 7 24 Try.underlying76 hi hz0 hz1 hz2 (by rfl) (by decide) v m0 (flatP ps) hown ad n c (flatP xs) (by rw [flatP_length, hn]) (by
      intro j u hj
      exact hr.cellAt hj) (flatP_one xs) (by unfold maxLen; omega) (by omega) hbase
    obtain ⟨A', c', rfl⟩ := own_form h2
    exact ⟨A', c', w', hrun, by rw [flatP_app]; exact h2, h3⟩
theorem step_app_Ps {w : World} {ops : Array Oper} {o : Oper} {a : Act} {K : Act → World → Prop} {Q : Exit → Act → World → Prop} {E' : Prop} (hgd : o.guard = none) (s x : Operand)
    (ho : o.op = .call { callee := .builtin .append, args := #[s, x], argTypes := #[76, 76] }) (base : Nat) (v : Value) (ps : List E.Rp) (m0 : Nat) (hs : a.eval s = v) (hown : w.ownsRow base 99 7 v m0 (flatP ps)) (hlen : ps.length = m0)
    (A : Option Addr) (n c : Nat) (xs : List E.Rp) (hx : a.eval x = .slice A n c) (hn : xs.length = n) (hr : RdP w w.heap.size A xs) (hA : A = none → c = 0) (h0 : m0 ≤ 1000) (h1 : n ≤ 1000) (hbase : base ≤ w.heap.size) (N : Nat) (hN : m0 + n = N)
    (h : ∀ A' c' w', w'.ownsRow base 99 7 (.slice A' N c') N (flatP (ps ++ xs)) → w.grownBy w' v.ownBlock → K (a.put o.dst (.slice A' N c')) w') :
    if Region.wanted o (yielded ops a.tmps) = true then Oper.wp Try.prog o a w K Q else E' := by
  subst hN
  have hw : Region.wanted o (yielded ops a.tmps) = true := by simp [Region.wanted, hgd]
  rw [if_pos hw]
  obtain ⟨A', c', w', hr', h2, h3⟩ := run_app_Ps o.type base v ps m0 hown hlen A n c xs hn hr hA h0 h1 hbase
  unfold Oper.wp execOp
  simp only [ho, resolve, invoke, builtin, Sem.run_bind, Sem.run_pure, Result.andThen_ok, List.map_toArray, List.map_cons, List.map_nil, hs, hx, hr']
  exact h A' c' w' h2 h3
theorem ownsP_empty {w : World} {q B : Nat} (hq : w.heap[q]? = some (.cells #[] 99 (0, 0))) (h : B ≤ q) : w.ownsRow B 99 7 (.slice (some ⟨q, 0, Option.none⟩) 0 0) 0 (flatP []) :=
  ⟨rfl, .inr ⟨q, 0, #[], rfl, h, hq, Nat.le_refl _, Nat.zero_le _, rfl, rfl⟩⟩
theorem ownsP_nil (w : World) (B : Nat) : w.ownsRow B 99 7 (.slice Option.none 0 0) 0 (flatP []) := ⟨rfl, .inl ⟨rfl, rfl⟩⟩
theorem rdP_one {w : World} {q : Nat} {p : E.Rp} (hq : w.heap[q]? = some (.cells (pc p).toArray 99 (0, 0))) : RdP w w.heap.size (some ⟨q, 0, Option.none⟩) [p] := by
  intro k y hk
  match k, hk with
  | 0, hk =>
    have hy : p = y := Option.some.inj hk
    subst hy
    exact ⟨_, 0, rfl, blk_lt hq, (blk_cell hq 0).trans rfl, (blk_cell hq 1).trans rfl, (blk_cell hq 2).trans rfl, (blk_cell hq 3).trans rfl, (blk_cell hq 4).trans rfl, (blk_cell hq 5).trans rfl, (blk_cell hq 6).trans rfl⟩
  | k + 1, hk => cases hk
theorem RdP.take {w : World} {B : Nat} {A : Option Addr} {xs : List E.Rp} (h : RdP w B A xs) (n : Nat) : RdP w B A (xs.take n) := fun k p hk => by
  rw [List.getElem?_take] at hk
  split at hk
  · exact h k p hk
  · cases hk
theorem RdP.drop {w : World} {B b o : Nat} {xs : List E.Rp} (h : RdP w B (some ⟨b, o, Option.none⟩) xs) (n : Nat) : RdP w B (some ⟨b, o + n * 7, Option.none⟩) (xs.drop n) := fun k p hk => by
  rw [List.getElem?_drop] at hk
  obtain ⟨b', o', e, hB, c⟩ := h (n + k) p hk
  simp only [Option.some.injEq, Addr.mk.injEq, and_true] at e
  obtain ⟨rfl, rfl⟩ := e
  have e1 : o + (n + k) * 7 = o + n * 7 + k * 7 := by rw [Nat.add_mul]; omega
  rw [e1] at c
  exact ⟨b, o + n * 7, rfl, hB, c⟩

def ordF (ps : List E.Rp) : List E.Rp := (ps.filter E.Rp.counts).foldl (fun out p => E.rins p out) []
def OrderP : Prop := ∀ (An : Option Addr) (nn cn : Nat) (ps : List E.Rp) (A2 : Option Addr) (n2 c2 : Nat) (bk : Int) (A3 : Option Addr) (n3 c3 : Nat) (w : World), ps.length = nn → RdP w w.heap.size An ps → nn ≤ 400 →
    Calls Try.prog 49 #[.agg #[.slice An nn cn, .slice A2 n2 c2, .int .i64 bk, .slice A3 n3 c3]] w fun e w' => ∃ A m c, e = .returned (.slice A m c) ∧ (ordF ps).length = m ∧ w'.ownsRow w.heap.size 99 7 (.slice A m c) m (flatP (ordF ps)) ∧ Below w.heap.size w w'
theorem rins_length (p : E.Rp) (out : List E.Rp) : (E.rins p out).length = out.length + 1 := by
  rw [(E.rins_perm p out).length_eq, List.length_append]; rfl
theorem ordF_length : ∀ ps : List E.Rp, (ordF ps).length ≤ ps.length := by
  intro ps
  have key : ∀ (l out : List E.Rp), (l.foldl (fun out p => E.rins p out) out).length = out.length + l.length := by
    intro l
    induction l with
    | nil => intro out; simp
    | cons a r ih => intro out; rw [List.foldl_cons, ih, rins_length, List.length_cons]; omega
  unfold ordF
  rw [key]
  have := List.length_filter_le E.Rp.counts ps
  simp; omega

namespace E
theorem scan_step {ps : List Rp} {r : Int} {k : Nat} {q : Rp} (hq : ps[k]? = some q) : k + (ps.drop k).findIdx (before r) = if before r q = true then k else k + 1 + (ps.drop (k + 1)).findIdx (before r) := by
  obtain ⟨h1, h2⟩ := List.getElem?_eq_some_iff.1 hq
  rw [List.drop_eq_getElem_cons h1, h2, List.findIdx_cons]
  cases before r q <;> simp <;> omega
end E
end Go.Proofs.Ytdhaalonnmajkaa

namespace Go.Proofs.Ytdhaalonnmajkaa
open Go

section
variable {P : Program} {ops : Array Oper} {md : Region.Mode} {w : World}

def upTo (N : Nat) : Nat → Array Bool
  | 0 => Array.replicate N false
  | k + 1 => (upTo N k).setIfInBounds k true
structure GateAt (md : Region.Mode) (ops : Array Oper) (k n : Nat) (listed : Array Bool) : Prop where
  size : listed.size = ops.size
  closed : ∀ j oj, ops[j]? = some oj → listed.getD j false = true → ∀ e ∈ oj.after, Region.binds md e = true → listed.getD e.on false = true
  low : ∀ i, i < k → listed.getD i false = true
  high : ∀ t, n ≤ t → t < ops.size → listed.getD t true = false

theorem GateAt.put {k n i : Nat} {listed : Array Bool} (h : GateAt md ops k n listed) (hi : i ∈ Region.ready md ops listed) (hn : i < n) : GateAt md ops k n (listed.setIfInBounds i true) := by
  obtain ⟨_, oi, ho, hd⟩ := mem_ready.1 hi
  refine ⟨by rw [Array.size_setIfInBounds]; exact h.size, ?_, fun j hj => getD_set_true (h.low j hj), ?_⟩
  · intro j oj hj hl e he hb
    refine getD_set_true ?_
    rcases Nat.decEq i j with hne | heq
    · rw [getD_set_ne false hne] at hl
      exact h.closed j oj hj hl e he hb
    · subst heq
      rw [ho] at hj
      rw [← Option.some.inj hj] at he
      exact hd e he hb
  · intro t ht hs
    rw [getD_set_ne true (by omega)]
    exact h.high t ht hs

end
end Go.Proofs.Ytdhaalonnmajkaa
