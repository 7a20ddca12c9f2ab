/-
  For every field, all notices and whatever two hours are asked for the law EntryStays returns true and leaves its arguments as they were. No condition.
-/
import Derived.Test.YtlfifgmbiejaiaaZB02
import Derived.Test.YtlfifgmbiejaiaaZB06
namespace Go.Proofs.Ytlfifgmbiejaiaa
namespace E

def St.greedy (s : St) : List Int := St.fill s false s.order [] 0
theorem fill_keep {s : St} (lt : Bool) {m : Int} : ∀ (l acc : List Int) (g : Int), m ∈ acc → m ∈ s.fill lt l acc g
  | [], _, _, h => h
  | a :: r, acc, g, h => by
    unfold St.fill
    split
    · exact fill_keep lt r _ _ (List.mem_append_left _ h)
    · exact fill_keep lt r _ _ h
theorem fill_congr {s u : St} (hp : u.f.places = s.f.places) (hg : u.f.guards = s.f.guards) (hk : ∀ k, (u.pl k).grd = (s.pl k).grd) : ∀ (l acc : List Int) (g : Int), u.fill false l acc g = s.fill false l acc g
  | [], _, _ => rfl
  | a :: r, acc, g => by
    unfold St.fill
    rw [hp, hg, hk a]
    simp only [or_true, true_and]
    rw [fill_congr hp hg hk r, fill_congr hp hg hk r]
theorem one_bd (b : Bool) : 0 ≤ one b ∧ one b ≤ 1 := by unfold one; split <;> omega

theorem fill_drop (s : St) (r0 m : Int) (hm : m ≠ r0) : ∀ (l acc1 acc2 : List Int) (g1 g2 : Int), (s.f.places ≤ (acc1.length : Int) ∨ (g2 ≤ g1 ∧ acc2.length ≤ acc1.length ∧ g1 - g2 ≤ (acc1.length : Int) - (acc2.length : Int))) → (m ∈ acc1 → m ∈ acc2) → m ∈ s.fill false l acc1 g1 → m ∈ s.fill false (l.filter fun k => k != r0) acc2 g2
  | [], acc1, acc2, g1, g2, _, ha, h => ha h
  | a :: r, acc1, acc2, g1, g2, hi, ha, h => by
    have hb := one_bd (s.pl a).grd
    unfold St.fill at h
    simp only [or_true, true_and] at h
    by_cases e : a = r0
    · subst e
      have hf : (a :: r).filter (fun k => k != a) = r.filter (fun k => k != a) := by simp
      rw [hf]
      split at h
      · refine fill_drop s a m hm r (acc1 ++ [a]) acc2 _ g2 ?_ (fun hx => ?_) h
        · rw [List.length_append]
          simp only [List.length_singleton]
          rcases hi with hi | hi
          · left; push_cast; omega
          · right; refine ⟨by omega, by omega, by push_cast; omega⟩
        · rcases List.mem_append.1 hx with hx | hx
          · exact ha hx
          · simp at hx; exact absurd hx hm
      · exact fill_drop s a m hm r acc1 acc2 g1 g2 hi ha h
    · have hf : (a :: r).filter (fun k => k != r0) = a :: r.filter (fun k => k != r0) := by simp [e]
      rw [hf]
      unfold St.fill
      simp only [or_true, true_and]
      split at h
      · rename_i hc
        have hi' : g2 ≤ g1 ∧ acc2.length ≤ acc1.length ∧ g1 - g2 ≤ (acc1.length : Int) - (acc2.length : Int) := by
          rcases hi with hi | hi
          · omega
          · exact hi
        rw [if_pos ⟨by omega, hc.2.imp (fun h => by omega) id⟩]
        refine fill_drop s r0 m hm r (acc1 ++ [a]) (acc2 ++ [a]) _ _ (.inr ?_) (fun hx => ?_) h
        · rw [List.length_append, List.length_append]
          simp only [List.length_singleton]
          refine ⟨by omega, by omega, by push_cast; omega⟩
        · rcases List.mem_append.1 hx with hx | hx
          · exact List.mem_append_left _ (ha hx)
          · exact List.mem_append_right _ hx
      · rename_i hc
        by_cases hfull : s.f.places ≤ (acc1.length : Int)
        · split
          · exact fill_drop s r0 m hm r acc1 (acc2 ++ [a]) g1 _ (.inl hfull) (fun hx => List.mem_append_left _ (ha hx)) h
          · exact fill_drop s r0 m hm r acc1 acc2 g1 g2 (.inl hfull) ha h
        · have hi' : g2 ≤ g1 ∧ acc2.length ≤ acc1.length ∧ g1 - g2 ≤ (acc1.length : Int) - (acc2.length : Int) := hi.resolve_left hfull
          have hg : ¬ (g1 < s.f.guards ∨ (s.pl a).grd = false) := fun hh => hc ⟨by omega, hh⟩
          have hg1 : s.f.guards ≤ g1 := by
            rcases Int.lt_or_le g1 s.f.guards with h1 | h1
            · exact absurd (.inl h1) hg
            · exact h1
          have hgr : (s.pl a).grd = true := by
            cases hq : (s.pl a).grd with
            | true => rfl
            | false => exact absurd (.inr hq) hg
          split
          · rename_i hc2
            have h2 : g2 < s.f.guards := hc2.2.resolve_right (by rw [hgr]; simp)
            have h1' : one (s.pl a).grd = 1 := by rw [hgr]; rfl
            refine fill_drop s r0 m hm r acc1 (acc2 ++ [a]) g1 _ (.inr ?_) (fun hx => List.mem_append_left _ (ha hx)) h
            rw [List.length_append, h1']
            simp only [List.length_singleton]
            refine ⟨by omega, by omega, by push_cast; omega⟩
          · exact fill_drop s r0 m hm r acc1 acc2 g1 g2 (.inr hi') ha h

structure Late (s u : St) (x : Nt) : Prop where
  ent : ∀ k, (u.pl k).ent = (s.pl k).ent
  rank : ∀ k, (u.pl k).rank = (s.pl k).rank
  turn : ∀ k, (u.pl k).turn = (s.pl k).turn
  grd : ∀ k, (u.pl k).grd = (s.pl k).grd
  other : ∀ k, k ≠ x.player → u.pl k = s.pl k
  quit : ∀ k, (u.pl k).quit = ((s.pl k).quit || (decide (x.kind = 4) && decide (k = x.player)))
  card : ∀ k, (s.pl k).card = true → (u.pl k).card = true
  known : ∀ k, k ∈ u.known ↔ k ∈ s.known ∨ k = x.player
  main : u.main = s.main
  guards : u.f.guards = s.f.guards
  close : u.f.close = s.f.close
  freeze : u.f.freeze = s.f.freeze
  places : late s.f x.hour = false → u.f.places = s.f.places

theorem put_known {s : St} {k : Int} {p : Pl} (j : Int) : j ∈ (s.put k p).known ↔ j ∈ s.known ∨ j = k := by
  unfold St.put
  by_cases e : k ∈ s.known
  · simp only [if_pos e]
    exact ⟨.inl, fun h => h.elim id (fun h => h ▸ e)⟩
  · simp [if_neg e]
theorem put_late {s s0 : St} {x : Nt} {p : Pl} (hp : s0.pl = s.pl) (hk : s0.known = s.known) (hm : s0.main = s.main) (h1 : p.ent = (s.pl x.player).ent) (h2 : p.rank = (s.pl x.player).rank) (h3 : p.turn = (s.pl x.player).turn) (h4 : p.grd = (s.pl x.player).grd) (h5 : p.quit = ((s.pl x.player).quit || decide (x.kind = 4))) (h6 : (s.pl x.player).card = true → p.card = true)
    (h7 : s0.f.guards = s.f.guards) (h8 : s0.f.close = s.f.close) (h9 : s0.f.freeze = s.f.freeze) (h10 : late s.f x.hour = false → s0.f.places = s.f.places) : Late s (s0.put x.player p) x := by
  have e : ∀ k, (s0.put x.player p).pl k = if k = x.player then p else s.pl k := fun k => by unfold St.put; rw [hp]
  refine ⟨fun k => ?_, fun k => ?_, fun k => ?_, fun k => ?_, fun k hk' => ?_, fun k => ?_, fun k hc => ?_, fun k => ?_, hm, h7, h8, h9, h10⟩
  · rw [e]; split; (rename_i h; rw [h, h1]); rfl
  · rw [e]; split; (rename_i h; rw [h, h2]); rfl
  · rw [e]; split; (rename_i h; rw [h, h3]); rfl
  · rw [e]; split; (rename_i h; rw [h, h4]); rfl
  · rw [e, if_neg hk']
  · rw [e]
    by_cases h : k = x.player
    · rw [if_pos h, h5, h]; simp
    · rw [if_neg h]; simp [h]
  · rw [e]; split; (rename_i h; rw [h] at hc; exact h6 hc); exact hc
  · rw [put_known, hk]
theorem said_lateS (s : St) (x : Nt) (hc : s.f.close < x.hour) : Late s (s.said x) x := by
  unfold St.said
  dsimp only
  by_cases k12 : x.kind = 1 ∨ x.kind = 2
  · have hk4 : decide (x.kind = 4) = false := by rcases k12 with e | e <;> rw [e] <;> rfl
    rw [if_pos k12, if_neg (by rintro ⟨h1, _⟩; omega)]
    exact put_late rfl rfl rfl rfl rfl rfl rfl (by rw [hk4]; simp) id rfl rfl rfl (fun _ => rfl)
  · rw [if_neg k12]
    by_cases k3 : x.kind = 3
    · have hk4 : decide (x.kind = 4) = false := by rw [k3]; rfl
      rw [if_pos k3]
      split
      · exact put_late rfl rfl rfl rfl rfl rfl rfl (by rw [hk4]; simp) (fun _ => rfl) rfl rfl rfl (fun _ => rfl)
      · exact put_late rfl rfl rfl rfl rfl rfl rfl (by rw [hk4]; simp) id rfl rfl rfl (fun _ => rfl)
    · rw [if_neg k3]
      by_cases k4 : x.kind = 4
      · rw [if_pos k4]
        by_cases hcond : late s.f x.hour = true ∧ (s.pl x.player).card = true ∧ (s.pl x.player).quit = false
        · rw [if_pos hcond]
          exact put_late rfl rfl rfl rfl rfl rfl rfl (by rw [k4]; simp) id rfl rfl rfl (fun h => by rw [hcond.1] at h; cases h)
        · rw [if_neg hcond]
          exact put_late rfl rfl rfl rfl rfl rfl rfl (by rw [k4]; simp) id rfl rfl rfl (fun _ => rfl)
      · have hk4 : decide (x.kind = 4) = false := decide_eq_false k4
        rw [if_neg k4]
        split
        · exact put_late rfl rfl rfl rfl rfl rfl rfl (by rw [hk4]; simp) id rfl rfl rfl (fun _ => rfl)
        · exact put_late rfl rfl rfl rfl rfl rfl rfl (by rw [hk4]; simp) id rfl rfl rfl (fun _ => rfl)

theorem entry_down {s u : St} {x : Nt} (h : Late s u x) {k : Int} (he : (u.pl k).entry = true) : (s.pl k).entry = true := by
  unfold Pl.entry at *
  simp only [Bool.and_eq_true, Bool.not_eq_true'] at *
  obtain ⟨⟨h1, h2⟩, h3⟩ := he
  refine ⟨⟨by rw [← h.ent]; exact h1, ?_⟩, ?_⟩
  · have := h.quit k
    rw [h2] at this
    cases hq : (s.pl k).quit with
    | false => rfl
    | true => rw [hq] at this; simp at this
  · cases hq : (s.pl k).card with
    | false => rfl
    | true => rw [h.card k hq] at h3; cases h3
theorem late_order {s u : St} {x : Nt} (hs : StOk s) (hu : StOk u) (h : Late s u x) : u.order = s.order.filter (fun k => (u.pl k).entry) := by
  symm
  refine order_eq hu ?_ ?_
  · refine (List.perm_ext_iff_of_nodup ((order_nodup hs).filter _) (hu.known.filter _)).2 (fun k => ?_)
    rw [List.mem_filter, List.mem_filter, order_mem, h.known]
    constructor
    · rintro ⟨⟨h1, _⟩, h2⟩; exact ⟨.inl h1, h2⟩
    · rintro ⟨h1, h2⟩
      have h3 := entry_down h h2
      refine ⟨⟨?_, h3⟩, h2⟩
      by_cases hk : k ∈ s.known
      · exact hk
      · rw [hs.zero k hk] at h3; cases h3
  · refine List.Pairwise.sublist List.filter_sublist ?_
    have ho := List.pairwise_mergeSort (le := s.leP) (leP_trans s) (leP_total s) (s.known.filter (fun k => (s.pl k).entry))
    refine List.Pairwise.imp (fun {a b} hab => ?_) ho
    unfold St.leP at hab
    have := of_decide_eq_true hab
    unfold cmpP at this ⊢
    rw [h.rank, h.rank, h.turn, h.turn]
    exact this
theorem settle_early (u : St) : (u.settle false).main = u.greedy := by
  unfold St.settle St.greedy
  dsimp only
  have e1 : u.main.filter (fun k => false && (u.pl k).entry) = [] := by simp
  rw [e1]
  have e2 : ({ u with main := [] } : St).alts = u.order := by
    unfold St.alts
    show (St.order u).filter _ = _
    simp
  rw [e2]
  rfl

theorem greedy_take (s : St) (x : Nt) : (s.take x).greedy = (s.said x).greedy := by
  unfold St.greedy
  exact fill_congr (s := s.said x) (u := s.take x) rfl rfl (fun _ => rfl) _ _ _

theorem stay_step {s : St} (hs : StOk s) (hT : 0 ≤ s.turns) (x : Nt) (hx : 0 ≤ x.player ∧ x.player ≤ 999) (hc : s.f.close < x.hour) (hg : late s.f x.hour = false → s.main = s.greedy) {m : Int} (hm : m ∈ s.main) (he : ((s.said x).pl m).entry = true) : m ∈ (s.take x).main := by
  have hL := said_lateS s x hc
  have hu := (said_ok hs x hx hT).1
  unfold St.take
  cases hlt : late s.f x.hour with
  | true =>
    unfold St.settle
    dsimp only
    refine fill_keep _ _ _ _ (List.mem_filter.2 ⟨by rw [hL.main]; exact hm, by simpa using he⟩)
  | false =>
    rw [settle_early]
    unfold St.greedy
    rw [fill_congr (hL.places hlt) hL.guards hL.grd, late_order hs hu hL]
    have hm' : m ∈ s.fill false s.order [] 0 := by have := hg hlt; rw [this] at hm; exact hm
    by_cases hp : ((s.said x).pl x.player).entry = true
    · have : s.order.filter (fun k => ((s.said x).pl k).entry) = s.order := by
        rw [List.filter_eq_self]
        intro k hk
        by_cases e : k = x.player
        · rw [e]; exact hp
        · rw [hL.other k e]; exact (order_mem.1 hk).2
      rw [this]
      exact hm'
    · have hne : m ≠ x.player := fun e => hp (e ▸ he)
      have : s.order.filter (fun k => ((s.said x).pl k).entry) = s.order.filter (fun k => k != x.player) := by
        refine List.filter_congr (fun k hk => ?_)
        by_cases e : k = x.player
        · subst e
          have : ((s.said x).pl x.player).entry = false := by simpa using hp
          rw [this]; simp
        · rw [hL.other k e, (order_mem.1 hk).2]; simp [e]
      rw [this]
      exact fill_drop s x.player m hne s.order [] [] 0 0 (.inr ⟨by omega, by omega, by omega⟩) id hm'

theorem main_entry (s : St) (x : Nt) : ∀ k ∈ (s.take x).main, ((s.take x).pl k).entry = true := by
  intro k hk
  have : ∀ (l acc : List Int) (g : Int) (lt : Bool), (∀ k ∈ l, ((s.said x).pl k).entry = true) → (∀ k ∈ acc, ((s.said x).pl k).entry = true) → ∀ k ∈ (s.said x).fill lt l acc g, ((s.said x).pl k).entry = true := fun l acc g lt h1 h2 => fill_known lt (fun k => ((s.said x).pl k).entry = true) l acc g h1 h2
  refine this _ _ _ _ (fun j hj => ?_) (fun j hj => ?_) k hk
  · have := (List.mem_filter.1 hj).1
    exact (order_mem.1 this).2
  · have := (List.mem_filter.1 hj).2
    simp only [Bool.and_eq_true] at this
    exact this.2

def CardsOk (s : St) : Prop := ∀ k, k ∈ s.cards ↔ (s.pl k).card = true ∧ (s.pl k).quit = false
theorem cards_new (f : Fd) : CardsOk (St.new f) := fun k => by simp [St.new, Pl.zero]
theorem cards_said {s : St} (h : CardsOk s) (x : Nt) : CardsOk (s.said x) := by
  have put : ∀ (s0 : St) (p : Pl), s0.pl = s.pl → s0.cards = s.cards → p.card = (s.pl x.player).card → p.quit = (s.pl x.player).quit → CardsOk (s0.put x.player p) := by
    intro s0 p h1 h2 h3 h4 k
    have e : (s0.put x.player p).pl k = if k = x.player then p else s.pl k := by unfold St.put; rw [h1]
    have e2 : (s0.put x.player p).cards = s.cards := h2
    rw [e, e2, h k]
    split
    · rename_i hk; rw [hk, h3, h4]
    · rfl
  unfold St.said
  dsimp only
  split
  · split
    · exact put _ _ rfl rfl rfl rfl
    · exact put _ _ rfl rfl rfl rfl
  · split
    · split
      · rename_i hc
        intro k
        show k ∈ s.cards ++ [x.player] ↔ _
        have e : (({ s with cards := s.cards ++ [x.player] } : St).put x.player { s.pl x.player with card := true }).pl k = if k = x.player then { s.pl x.player with card := true } else s.pl k := rfl
        rw [e, List.mem_append, List.mem_singleton, h k]
        split
        · rename_i hk; subst hk; simp [hc.2.2.1]
        · rename_i hk; simp [hk]
      · exact put _ _ rfl rfl rfl rfl
    · split
      · intro k
        show k ∈ s.cards.filter (fun k => k != x.player) ↔ _
        rw [List.mem_filter, h k]
        show _ ↔ (if k = x.player then ({ s.pl x.player with quit := true } : Pl) else s.pl k).card = true ∧ (if k = x.player then ({ s.pl x.player with quit := true } : Pl) else s.pl k).quit = false
        by_cases hk : k = x.player
        · simp [hk]
        · simp [hk]
      · split
        · exact put _ _ rfl rfl rfl rfl
        · exact put _ _ rfl rfl rfl rfl
theorem cards_take {s : St} (h : CardsOk s) (x : Nt) : CardsOk (s.take x) := cards_said h x

theorem said_fd (s : St) (x : Nt) : (s.said x).f.close = s.f.close := by
  unfold St.said
  dsimp only
  repeat' split
  all_goals (first | rfl | (simp only [St.put]; split <;> rfl))

structure Way (s : St) (m : Int) : Prop where
  ok : StOk s
  turns : 0 ≤ s.turns
  ent : (s.pl m).ent = true
  iff : m ∈ s.main ↔ (s.pl m).entry = true

theorem way_step {s : St} {m : Int} (h : Way s m) (x : Nt) (hx : 0 ≤ x.player ∧ x.player ≤ 999) (hc : s.f.close < x.hour) (hg : late s.f x.hour = false → s.main = s.greedy) : Way (s.take x) m ∧ ((s.take x).pl m).quit = ((s.pl m).quit || (decide (x.kind = 4) && decide (m = x.player))) := by
  have hL := said_lateS s x hc
  refine ⟨⟨(take_ok h.ok x hx h.turns).1, (take_ok h.ok x hx h.turns).2, (hL.ent m).trans h.ent, fun hm => main_entry s x m hm, fun he => ?_⟩, hL.quit m⟩
  exact stay_step h.ok h.turns x hx hc hg (h.iff.2 (entry_down hL he)) he

theorem way_fold {m : Int} (c z : Int) : ∀ (r : List Nt) (s : St), Way s m → s.f.close = c → s.f.freeze = z → (∀ x ∈ r, 0 ≤ x.player ∧ x.player ≤ 999) → (∀ x ∈ r, c < x.hour) → r.Pairwise (fun a b => a.hour ≤ b.hour) → ((∃ x ∈ r, x.hour ≤ z) → s.main = s.greedy) →
    Way (r.foldl St.take s) m ∧ (((r.foldl St.take s).pl m).quit = true ↔ (s.pl m).quit = true ∨ ∃ x ∈ r, x.kind = 4 ∧ x.player = m)
  | [], s, h, _, _, _, _, _, _ => ⟨h, by simp⟩
  | x :: r, s, h, h1, h2, hp, hc, hs, hg => by
    have hx := hp x (List.mem_cons_self ..)
    have hcx := hc x (List.mem_cons_self ..)
    obtain ⟨hs1, hs2⟩ := List.pairwise_cons.1 hs
    obtain ⟨hw, hq⟩ := way_step h x hx (by rw [h1]; exact hcx) (fun hl => hg ⟨x, List.mem_cons_self .., by unfold late at hl; have := of_decide_eq_false hl; rw [h2] at this; omega⟩)
    have ih := way_fold c z r (s.take x) hw ((said_fd s x).trans h1) ((said_freeze s x).trans h2) (fun y hy => hp y (List.mem_cons_of_mem _ hy)) (fun y hy => hc y (List.mem_cons_of_mem _ hy)) hs2 (fun ⟨y, hy, hyz⟩ => by
      have hxz : x.hour ≤ z := Int.le_trans (hs1 y hy) hyz
      have hl : late s.f x.hour = false := by unfold late; rw [h2]; exact decide_eq_false (by omega)
      show ((s.said x).settle (late s.f x.hour)).main = _
      rw [hl, settle_early, greedy_take])
    refine ⟨ih.1, ih.2.trans ?_⟩
    rw [hq]
    simp only [Bool.or_eq_true, Bool.and_eq_true, decide_eq_true_eq, List.mem_cons]
    constructor
    · rintro ((h3 | ⟨h3, h4⟩) | ⟨y, hy, h3⟩)
      · exact .inl h3
      · exact .inr ⟨x, .inl rfl, h3, h4.symm⟩
      · exact .inr ⟨y, .inr hy, h3⟩
    · rintro (h3 | ⟨y, rfl | hy, h3, h4⟩)
      · exact .inl (.inl h3)
      · exact .inl (.inr ⟨h3, h4.symm⟩)
      · exact .inr ⟨y, hy, h3, h4⟩

theorem cards_fold : ∀ (r : List Nt) (s : St), CardsOk s → CardsOk (r.foldl St.take s)
  | [], _, h => h
  | x :: r, _, h => cards_fold r _ (cards_take h x)
theorem fold_fd : ∀ (r : List Nt) (s : St), (r.foldl St.take s).f.close = s.f.close ∧ (r.foldl St.take s).f.freeze = s.f.freeze
  | [], _ => ⟨rfl, rfl⟩
  | x :: r, s => by
    obtain ⟨h1, h2⟩ := fold_fd r (s.take x)
    exact ⟨h1.trans (said_fd s x), h2.trans (said_freeze s x)⟩
theorem fold_main : ∀ (r : List Nt) (s : St), (∀ k ∈ s.main, (s.pl k).entry = true) → ∀ k ∈ (r.foldl St.take s).main, ((r.foldl St.take s).pl k).entry = true
  | [], _, h => h
  | x :: r, s, _ => fold_main r _ (main_entry s x)
theorem fold_greedy (z : Int) : ∀ (r : List Nt) (s : St), s.f.freeze = z → (∀ x ∈ r, x.hour ≤ z) → s.main = s.greedy → (r.foldl St.take s).main = (r.foldl St.take s).greedy
  | [], _, _, _, h => h
  | x :: r, s, hz, hr, h => by
    refine fold_greedy z r (s.take x) ((said_freeze s x).trans hz) (fun y hy => hr y (List.mem_cons_of_mem _ hy)) ?_
    have hl : late s.f x.hour = false := by unfold late; rw [hz]; have := hr x (List.mem_cons_self ..); exact decide_eq_false (by omega)
    show ((s.said x).settle (late s.f x.hour)).main = _
    rw [hl, settle_early, greedy_take]
theorem greedy_new (f : Fd) : (St.new f).main = (St.new f).greedy := by
  unfold St.greedy St.order St.new
  simp [St.fill]
theorem filter_split {h1 h2 : Int} (h12 : h1 ≤ h2) : ∀ (d : List Nt), d.Pairwise (fun a b => a.hour ≤ b.hour) → d.filter (fun x => decide (x.hour ≤ h2)) = d.filter (fun x => decide (x.hour ≤ h1)) ++ d.filter (fun x => decide (h1 < x.hour) && decide (x.hour ≤ h2))
  | [], _ => rfl
  | x :: r, hs => by
    obtain ⟨hs1, hs2⟩ := List.pairwise_cons.1 hs
    by_cases e : x.hour ≤ h1
    · have e2 : x.hour ≤ h2 := by omega
      rw [List.filter_cons_of_pos (by simpa using e2), List.filter_cons_of_pos (by simpa using e), List.filter_cons_of_neg (by simp; omega), List.cons_append, filter_split h12 r hs2]
    · have e1 : r.filter (fun x => decide (x.hour ≤ h1)) = [] := List.filter_eq_nil_iff.2 (fun y hy => by have := hs1 y hy; simp; omega)
      rw [List.filter_cons_of_neg (l := r) (p := fun x => decide (x.hour ≤ h1)) (by simpa using e), e1, List.nil_append]
      refine List.filter_congr (fun y hy => ?_)
      have hy1 : h1 < y.hour := by
        rcases List.mem_cons.1 hy with h | h
        · subst h; omega
        · have := hs1 y h; omega
      simp [hy1]

theorem stays {f : Fd} {d : List Nt} (ht : Taken d) {h1 h2 : Int} (hc : f.close ≤ h1) (h12 : h1 ≤ h2) {m : Int} (hm : m ∈ (atL f h1 d).main) :
    m ∈ (atL f h2 d).main ↔ ¬ (m ∈ (atL f h2 d).cards ∨ ∃ x ∈ d, x.player = m ∧ x.kind = 4 ∧ h1 < x.hour ∧ x.hour ≤ h2) := by
  have hp : ∀ x ∈ d, 0 ≤ x.player ∧ x.player ≤ 999 := fun x hx => valid_player (ht.valid x hx)
  have hs := taken_hours ht
  obtain ⟨hok, hT⟩ := atL_ok f h1 hp
  have hfd := fold_fd (d.filter (fun x => decide (x.hour ≤ h1))) (St.new f)
  have hent := fold_main (d.filter (fun x => decide (x.hour ≤ h1))) (St.new f) (fun k hk => by cases hk) m hm
  have e2 : atL f h2 d = (d.filter (fun x => decide (h1 < x.hour) && decide (x.hour ≤ h2))).foldl St.take (atL f h1 d) := by
    unfold atL
    rw [filter_split h12 d hs, List.foldl_append]
  have hway : Way (atL f h1 d) m := ⟨hok, hT, entry_ent hent, fun _ => hent, fun _ => hm⟩
  have hmem : ∀ x, x ∈ d.filter (fun x => decide (h1 < x.hour) && decide (x.hour ≤ h2)) ↔ x ∈ d ∧ h1 < x.hour ∧ x.hour ≤ h2 := fun x => by simp [List.mem_filter]
  have hf := way_fold f.close f.freeze _ (atL f h1 d) hway hfd.1 hfd.2 (fun x hx => hp x ((hmem x).1 hx).1) (fun x hx => by have := ((hmem x).1 hx).2.1; omega) (List.Pairwise.sublist List.filter_sublist hs) (fun ⟨y, hy, hyz⟩ => by
    refine fold_greedy f.freeze _ (St.new f) rfl (fun x hx => ?_) (greedy_new f)
    have h3 := ((hmem y).1 hy).2.1
    have h4 := (List.mem_filter.1 hx).2
    simp at h4
    omega)
  rw [← e2] at hf
  have hcd : CardsOk (atL f h2 d) := cards_fold _ _ (cards_new f)
  obtain ⟨hw, hq⟩ := hf
  have hq0 : ((atL f h1 d).pl m).quit = false := by
    unfold Pl.entry at hent
    simp only [Bool.and_eq_true, Bool.not_eq_true'] at hent
    exact hent.1.2
  have hq' : ((atL f h2 d).pl m).quit = true ↔ ∃ x ∈ d, x.player = m ∧ x.kind = 4 ∧ h1 < x.hour ∧ x.hour ≤ h2 := by
    rw [hq, hq0]
    constructor
    · rintro (h | ⟨x, hx, h3, h4⟩)
      · cases h
      · exact ⟨x, ((hmem x).1 hx).1, h4, h3, ((hmem x).1 hx).2⟩
    · rintro ⟨x, hx, h3, h4, h5⟩
      exact .inr ⟨x, (hmem x).2 ⟨hx, h5⟩, h4, h3⟩
  rw [← hq', hcd m, hw.iff]
  unfold Pl.entry
  rw [hw.ent]
  cases ((atL f h2 d).pl m).quit <;> cases ((atL f h2 d).pl m).card <;> simp
end E
end Go.Proofs.Ytlfifgmbiejaiaa

namespace Go.Proofs.Ytlfifgmbiejaiaa
open Go.RowKit
attribute [local go_sem ↓] Go.wp_at_zero Go.wp_at_succ

namespace E
theorem fold_bd : ∀ (l : List Nt) (s : St) (k : Nat), Bd k s → Bd (k + l.length) (l.foldl St.take s)
  | [], _, _, h => h
  | x :: r, s, k, h => by
    have := fold_bd r (s.take x) (k + 1) (take_bd h x)
    rw [List.length_cons]
    rw [show k + 1 + r.length = k + (r.length + 1) by omega] at this
    exact this
theorem atL_len {f : Fd} {h : Int} {d : List Nt} (h0 : 0 ≤ f.places) (h1 : f.places ≤ 32) (hl : d.length ≤ 60) : (atL f h d).main.length ≤ 1000 ∧ (atL f h d).cards.length ≤ 1000 := by
  have := fold_bd (d.filter (fun x => decide (x.hour ≤ h))) (St.new f) 0 (new_bd h0 h1)
  have h2 := this.main
  have h3 := this.cards
  have h4 := List.length_filter_le (fun x => decide (x.hour ≤ h)) d
  exact ⟨Nat.le_trans h2 (by omega), Nat.le_trans h3 (by omega)⟩
end E
theorem list_ok (f : E.Fd) (A : Option Addr) (n c : Nat) (l : List E.Nt) (h : Int) (d : List E.Nt) (M C : List Int) (w : World) (hn : l.length = n) (hr : RdN w w.heap.size A l) (hid : ∀ x ∈ l, (Lit.int .i64 x.id).wf = true) (hm : n ≤ 1000000) (hd : E.diffs l = some d) (he : E.errE f l h 0 = 0) (hM : (E.atL f h d).main = M) (hC : (E.atL f h d).cards = C) :
    Calls Try.prog 14 #[.agg #[.int .i64 f.places, .int .i64 f.wilds, .int .i64 f.guards, .int .i64 f.close, .int .i64 f.freeze], .slice A n c, .int .i64 h] w fun e w' => ∃ A1 c1 A2 c2 A3 c3 n3 P, e = .returned (.tuple #[.agg #[.slice A1 M.length c1, .slice A2 C.length c2, .slice A3 n3 c3, .int .i64 P], .int .i64 0]) ∧ RdI w' w'.heap.size A1 M ∧ RdI w' w'.heap.size A2 C ∧ Below w.heap.size w w' := by
  refine (List_any f A n c l h w hn hr hid hm).mono ?_
  rintro e w' ⟨(⟨h0, _⟩ | ⟨_, d', A1, c1, A2, c2, A3, c3, hd', rfl, h1, h2, h3⟩), hb⟩
  · exact absurd he h0
  · have e0 : d' = d := by rw [hd] at hd'; exact (Option.some.inj hd').symm
    subst e0
    have r1 := owns_RdI h1 rfl
    have r2 := owns_RdI h2 rfl
    rw [hM] at r1
    rw [hC] at r2
    exact ⟨A1, c1, A2, c2, A3, c3, _, _, by rw [hM, hC], r1, r2, hb⟩

set_option maxHeartbeats 1600000 in
theorem has_any (A : Option Addr) (n c : Nat) (xs : List Int) (y : Int) (w : World) (hn : xs.length = n) (hr : RdI w w.heap.size A xs) (hm : n ≤ 1000000) :
    Calls Try.prog 21 #[.slice A n c, .int .i64 y] w fun e w' => e = .returned (.bool (xs.contains y)) ∧ w = w' := by
  have HN := hide hn
  have HR := hide hr
  obtain ⟨q, hq⟩ : ∃ q, xs.contains y = q := ⟨_, rfl⟩
  rw [hq]
  have HQ := hide hq
  clear hn hr hq
  go_enter Try.func21, Try.ntmps21
  go_wp2_with fail
  go_loop [5] (fun i => ∃ k : Nat, k ≤ n ∧ i = .int .i64 k ∧ Hid (∀ j, j < k → xs[j]? ≠ some y)) (fun i => n - (intOf i).toNat)
  case atStart => exact ⟨0, by omega, rfl, hide (fun j hj => by omega)⟩
  case round =>
    obtain ⟨k, hk, rfl, HZ⟩ := hrel
    by_cases hlt : k < n
    · obtain ⟨x, hx⟩ : ∃ q, xs[k]? = some q := ⟨_, List.getElem?_eq_getElem (by have := HN.out; omega)⟩
      obtain ⟨b, o, hA, hbB, c0⟩ := HR.out k x hx
      subst hA
      have HX := hide hx
      clear hx
      have hlt' : (k : Int) < (n : Int) := by omega
      have hk0 : (0 : Int) ≤ (k : Int) := by omega
      cases h0 : (x == y)
      · have HX0 := hide (show x ≠ y by simpa using h0)
        go_wp2_with fail
        go_round
        case rel => exact ⟨k + 1, by omega, by go_num, hide (fun j hj => by
          rcases Nat.lt_or_ge j k with h | h
          · exact HZ.out j h
          · have : j = k := by omega
            rw [this, HX.out]
            intro e
            exact HX0.out (Option.some.inj e))⟩
        case measure => simp [intOf]; omega
      · have HX0 := hide (show x = y by simpa using h0)
        go_wp2_with fail
        go_ret
        have hq : q = true := HQ.out.symm.trans (by rw [List.contains_eq_mem, decide_eq_true_eq, ← HX0.out]; exact List.mem_of_getElem? HX.out)
        subst hq
        exact ⟨rfl, rfl⟩
    · have hkn : k = n := by omega
      subst hkn
      go_wp2_with fail
      go_ret
      have hq : q = false := HQ.out.symm.trans (by
        rw [List.contains_eq_mem, decide_eq_false_iff_not]
        intro hmem
        obtain ⟨j, hj⟩ := List.mem_iff_getElem?.1 hmem
        exact HZ.out j (by have := (List.getElem?_eq_some_iff.1 hj).1; have := HN.out; omega) hj)
      subst hq
      exact ⟨rfl, rfl⟩

set_option maxHeartbeats 6400000 in
set_option maxRecDepth 100000 in
theorem staysLaw_any (f : E.Fd) (A : Option Addr) (n c : Nat) (l : List E.Nt) (a s : Int) (w : World) (hn : l.length = n) (hr : RdN w w.heap.size A l) (hid : ∀ x ∈ l, (Lit.int .i64 x.id).wf = true) (hm : n ≤ 1000000) :
    Calls Try.prog 7 #[.agg #[.int .i64 f.places, .int .i64 f.wilds, .int .i64 f.guards, .int .i64 f.close, .int .i64 f.freeze], .slice A n c, .agg #[.int .i64 a, .int .i64 s]] w fun e w' => e = .returned (.bool true) ∧ Below w.heap.size w w' := by
  have HN := hide hn
  have HR := hide hr
  have HID := hide hid
  have HM := hide hm
  clear hn hr hid hm
  obtain ⟨rd, hrd⟩ : ∃ rd, E.readyB f l n = rd := ⟨_, rfl⟩
  have HRD := hide hrd
  obtain ⟨i1, hi1⟩ : ∃ ih, E.within a 0 9999 = ih := ⟨_, rfl⟩
  have HI1 := hide hi1
  obtain ⟨i2, hi2⟩ : ∃ ih, E.within s 0 9999 = ih := ⟨_, rfl⟩
  have HI2 := hide hi2
  clear hrd hi1 hi2
  cases rd
  · go_enter Try.func7, Try.ntmps7
    obtain ⟨w0, hw0⟩ : ∃ w0, (w.alloc (.cells #[.int .i64 f.places, .int .i64 f.wilds, .int .i64 f.guards, .int .i64 f.close, .int .i64 f.freeze] 23)).alloc (.cells #[.int .i64 a, .int .i64 s] 52) = w0 := ⟨_, rfl⟩
    have HB0 := hide (show Below w.heap.size w w0 by rw [← hw0]; (repeat' first | exact zbR _ _ | assumption | refine zbD ?_ | refine zbA ?_ ?_ _ | refine zbS ?_ ?_ _ | refine zbT ?_ (by assumption) ?_ | (simp; done) | (simp; omega) | omega))
    have HS0 := hide (show w0.heap.size = w.heap.size + 1 + 1 by rw [← hw0]; simp)
    have HF0 := hide (show w0.heap[w.heap.size]? = some (.cells #[.int .i64 f.places, .int .i64 f.wilds, .int .i64 f.guards, .int .i64 f.close, .int .i64 f.freeze] 23 (0, 0)) by rw [← hw0]; exact (Below.heap_alloc _ _ _ (by first | (simp; done) | (simp; omega) | omega)).trans (World.alloc_heap_new _ _))
    have HA0 := hide (show w0.heap[w.heap.size + 1]? = some (.cells #[.int .i64 a, .int .i64 s] 52 (0, 0)) by rw [← hw0]; exact (congrArg _ (by simp)).trans (World.alloc_heap_new _ _))
    have HR0 := hide ((HR.out.below HB0.out).mono HB0.out.size)
    have HW0 := hide hw0
    clear hw0
    go_wp2_with (first | (go_at_call 19; rw [HW0.out]; refine (ready_any f A n c l w0 HN.out HR0.out HM.out).mono ?_; rintro e w1 ⟨rfl, hb1⟩; rw [HRD.out]; have HB1 := hide hb1; clear hb1; have HF1 := hide ((HB1.out).block w.heap.size (by have := HS0.out; omega) |>.trans HF0.out); have HA1 := hide ((HB1.out).block (w.heap.size + 1) (by have := HS0.out; omega) |>.trans HA0.out); have x10 : w1.cell? ⟨w.heap.size, 0, none⟩ = some (.int .i64 f.places) := (blk_cell HF1.out 0).trans rfl; have x11 : w1.cell? ⟨w.heap.size, 1, none⟩ = some (.int .i64 f.wilds) := (blk_cell HF1.out 1).trans rfl; have x12 : w1.cell? ⟨w.heap.size, 2, none⟩ = some (.int .i64 f.guards) := (blk_cell HF1.out 2).trans rfl; have x13 : w1.cell? ⟨w.heap.size, 3, none⟩ = some (.int .i64 f.close) := (blk_cell HF1.out 3).trans rfl; have x14 : w1.cell? ⟨w.heap.size, 4, none⟩ = some (.int .i64 f.freeze) := (blk_cell HF1.out 4).trans rfl; have y10 : w1.cell? ⟨w.heap.size + 1, 0, none⟩ = some (.int .i64 a) := (blk_cell HA1.out 0).trans rfl; have y11 : w1.cell? ⟨w.heap.size + 1, 1, none⟩ = some (.int .i64 s) := (blk_cell HA1.out 1).trans rfl; have l10 := blk_lt HF1.out; have l11 := blk_lt HA1.out) | (go_at_call 20; with_reducible refine (isHour_any a _).mono ?_; rintro e w' ⟨rfl, rfl⟩; rw [HI1.out]) | (go_at_call 20; with_reducible refine (isHour_any s _).mono ?_; rintro e w' ⟨rfl, rfl⟩; rw [HI2.out]) | (go_at_call 11; refine (works_any _).mono ?_; rintro e w9 ⟨rfl, hb9⟩; have HB9 := hide (zbT HB1.out hb9 HB1.out.size); clear hb9))
    go_ret
    exact ⟨rfl, HB0.out.trans (HB9.out.mono HB0.out.size)⟩
  · cases i1
    · go_enter Try.func7, Try.ntmps7
      obtain ⟨w0, hw0⟩ : ∃ w0, (w.alloc (.cells #[.int .i64 f.places, .int .i64 f.wilds, .int .i64 f.guards, .int .i64 f.close, .int .i64 f.freeze] 23)).alloc (.cells #[.int .i64 a, .int .i64 s] 52) = w0 := ⟨_, rfl⟩
      have HB0 := hide (show Below w.heap.size w w0 by rw [← hw0]; (repeat' first | exact zbR _ _ | assumption | refine zbD ?_ | refine zbA ?_ ?_ _ | refine zbS ?_ ?_ _ | refine zbT ?_ (by assumption) ?_ | (simp; done) | (simp; omega) | omega))
      have HS0 := hide (show w0.heap.size = w.heap.size + 1 + 1 by rw [← hw0]; simp)
      have HF0 := hide (show w0.heap[w.heap.size]? = some (.cells #[.int .i64 f.places, .int .i64 f.wilds, .int .i64 f.guards, .int .i64 f.close, .int .i64 f.freeze] 23 (0, 0)) by rw [← hw0]; exact (Below.heap_alloc _ _ _ (by first | (simp; done) | (simp; omega) | omega)).trans (World.alloc_heap_new _ _))
      have HA0 := hide (show w0.heap[w.heap.size + 1]? = some (.cells #[.int .i64 a, .int .i64 s] 52 (0, 0)) by rw [← hw0]; exact (congrArg _ (by simp)).trans (World.alloc_heap_new _ _))
      have HR0 := hide ((HR.out.below HB0.out).mono HB0.out.size)
      have HW0 := hide hw0
      clear hw0
      go_wp2_with (first | (go_at_call 19; rw [HW0.out]; refine (ready_any f A n c l w0 HN.out HR0.out HM.out).mono ?_; rintro e w1 ⟨rfl, hb1⟩; rw [HRD.out]; have HB1 := hide hb1; clear hb1; have HF1 := hide ((HB1.out).block w.heap.size (by have := HS0.out; omega) |>.trans HF0.out); have HA1 := hide ((HB1.out).block (w.heap.size + 1) (by have := HS0.out; omega) |>.trans HA0.out); have x10 : w1.cell? ⟨w.heap.size, 0, none⟩ = some (.int .i64 f.places) := (blk_cell HF1.out 0).trans rfl; have x11 : w1.cell? ⟨w.heap.size, 1, none⟩ = some (.int .i64 f.wilds) := (blk_cell HF1.out 1).trans rfl; have x12 : w1.cell? ⟨w.heap.size, 2, none⟩ = some (.int .i64 f.guards) := (blk_cell HF1.out 2).trans rfl; have x13 : w1.cell? ⟨w.heap.size, 3, none⟩ = some (.int .i64 f.close) := (blk_cell HF1.out 3).trans rfl; have x14 : w1.cell? ⟨w.heap.size, 4, none⟩ = some (.int .i64 f.freeze) := (blk_cell HF1.out 4).trans rfl; have y10 : w1.cell? ⟨w.heap.size + 1, 0, none⟩ = some (.int .i64 a) := (blk_cell HA1.out 0).trans rfl; have y11 : w1.cell? ⟨w.heap.size + 1, 1, none⟩ = some (.int .i64 s) := (blk_cell HA1.out 1).trans rfl; have l10 := blk_lt HF1.out; have l11 := blk_lt HA1.out) | (go_at_call 20; with_reducible refine (isHour_any a _).mono ?_; rintro e w' ⟨rfl, rfl⟩; rw [HI1.out]) | (go_at_call 20; with_reducible refine (isHour_any s _).mono ?_; rintro e w' ⟨rfl, rfl⟩; rw [HI2.out]) | (go_at_call 11; refine (works_any _).mono ?_; rintro e w9 ⟨rfl, hb9⟩; have HB9 := hide (zbT HB1.out hb9 HB1.out.size); clear hb9))
      go_ret
      exact ⟨rfl, HB0.out.trans (HB9.out.mono HB0.out.size)⟩
    · cases i2
      · go_enter Try.func7, Try.ntmps7
        obtain ⟨w0, hw0⟩ : ∃ w0, (w.alloc (.cells #[.int .i64 f.places, .int .i64 f.wilds, .int .i64 f.guards, .int .i64 f.close, .int .i64 f.freeze] 23)).alloc (.cells #[.int .i64 a, .int .i64 s] 52) = w0 := ⟨_, rfl⟩
        have HB0 := hide (show Below w.heap.size w w0 by rw [← hw0]; (repeat' first | exact zbR _ _ | assumption | refine zbD ?_ | refine zbA ?_ ?_ _ | refine zbS ?_ ?_ _ | refine zbT ?_ (by assumption) ?_ | (simp; done) | (simp; omega) | omega))
        have HS0 := hide (show w0.heap.size = w.heap.size + 1 + 1 by rw [← hw0]; simp)
        have HF0 := hide (show w0.heap[w.heap.size]? = some (.cells #[.int .i64 f.places, .int .i64 f.wilds, .int .i64 f.guards, .int .i64 f.close, .int .i64 f.freeze] 23 (0, 0)) by rw [← hw0]; exact (Below.heap_alloc _ _ _ (by first | (simp; done) | (simp; omega) | omega)).trans (World.alloc_heap_new _ _))
        have HA0 := hide (show w0.heap[w.heap.size + 1]? = some (.cells #[.int .i64 a, .int .i64 s] 52 (0, 0)) by rw [← hw0]; exact (congrArg _ (by simp)).trans (World.alloc_heap_new _ _))
        have HR0 := hide ((HR.out.below HB0.out).mono HB0.out.size)
        have HW0 := hide hw0
        clear hw0
        go_wp2_with (first | (go_at_call 19; rw [HW0.out]; refine (ready_any f A n c l w0 HN.out HR0.out HM.out).mono ?_; rintro e w1 ⟨rfl, hb1⟩; rw [HRD.out]; have HB1 := hide hb1; clear hb1; have HF1 := hide ((HB1.out).block w.heap.size (by have := HS0.out; omega) |>.trans HF0.out); have HA1 := hide ((HB1.out).block (w.heap.size + 1) (by have := HS0.out; omega) |>.trans HA0.out); have x10 : w1.cell? ⟨w.heap.size, 0, none⟩ = some (.int .i64 f.places) := (blk_cell HF1.out 0).trans rfl; have x11 : w1.cell? ⟨w.heap.size, 1, none⟩ = some (.int .i64 f.wilds) := (blk_cell HF1.out 1).trans rfl; have x12 : w1.cell? ⟨w.heap.size, 2, none⟩ = some (.int .i64 f.guards) := (blk_cell HF1.out 2).trans rfl; have x13 : w1.cell? ⟨w.heap.size, 3, none⟩ = some (.int .i64 f.close) := (blk_cell HF1.out 3).trans rfl; have x14 : w1.cell? ⟨w.heap.size, 4, none⟩ = some (.int .i64 f.freeze) := (blk_cell HF1.out 4).trans rfl; have y10 : w1.cell? ⟨w.heap.size + 1, 0, none⟩ = some (.int .i64 a) := (blk_cell HA1.out 0).trans rfl; have y11 : w1.cell? ⟨w.heap.size + 1, 1, none⟩ = some (.int .i64 s) := (blk_cell HA1.out 1).trans rfl; have l10 := blk_lt HF1.out; have l11 := blk_lt HA1.out) | (go_at_call 20; with_reducible refine (isHour_any a _).mono ?_; rintro e w' ⟨rfl, rfl⟩; rw [HI1.out]) | (go_at_call 20; with_reducible refine (isHour_any s _).mono ?_; rintro e w' ⟨rfl, rfl⟩; rw [HI2.out]) | (go_at_call 11; refine (works_any _).mono ?_; rintro e w9 ⟨rfl, hb9⟩; have HB9 := hide (zbT HB1.out hb9 HB1.out.size); clear hb9))
        go_ret
        exact ⟨rfl, HB0.out.trans (HB9.out.mono HB0.out.size)⟩
      · by_cases hca : a < f.close
        · go_enter Try.func7, Try.ntmps7
          obtain ⟨w0, hw0⟩ : ∃ w0, (w.alloc (.cells #[.int .i64 f.places, .int .i64 f.wilds, .int .i64 f.guards, .int .i64 f.close, .int .i64 f.freeze] 23)).alloc (.cells #[.int .i64 a, .int .i64 s] 52) = w0 := ⟨_, rfl⟩
          have HB0 := hide (show Below w.heap.size w w0 by rw [← hw0]; (repeat' first | exact zbR _ _ | assumption | refine zbD ?_ | refine zbA ?_ ?_ _ | refine zbS ?_ ?_ _ | refine zbT ?_ (by assumption) ?_ | (simp; done) | (simp; omega) | omega))
          have HS0 := hide (show w0.heap.size = w.heap.size + 1 + 1 by rw [← hw0]; simp)
          have HF0 := hide (show w0.heap[w.heap.size]? = some (.cells #[.int .i64 f.places, .int .i64 f.wilds, .int .i64 f.guards, .int .i64 f.close, .int .i64 f.freeze] 23 (0, 0)) by rw [← hw0]; exact (Below.heap_alloc _ _ _ (by first | (simp; done) | (simp; omega) | omega)).trans (World.alloc_heap_new _ _))
          have HA0 := hide (show w0.heap[w.heap.size + 1]? = some (.cells #[.int .i64 a, .int .i64 s] 52 (0, 0)) by rw [← hw0]; exact (congrArg _ (by simp)).trans (World.alloc_heap_new _ _))
          have HR0 := hide ((HR.out.below HB0.out).mono HB0.out.size)
          have HW0 := hide hw0
          clear hw0
          go_wp2_with (first | (go_at_call 19; rw [HW0.out]; refine (ready_any f A n c l w0 HN.out HR0.out HM.out).mono ?_; rintro e w1 ⟨rfl, hb1⟩; rw [HRD.out]; have HB1 := hide hb1; clear hb1; have HF1 := hide ((HB1.out).block w.heap.size (by have := HS0.out; omega) |>.trans HF0.out); have HA1 := hide ((HB1.out).block (w.heap.size + 1) (by have := HS0.out; omega) |>.trans HA0.out); have x10 : w1.cell? ⟨w.heap.size, 0, none⟩ = some (.int .i64 f.places) := (blk_cell HF1.out 0).trans rfl; have x11 : w1.cell? ⟨w.heap.size, 1, none⟩ = some (.int .i64 f.wilds) := (blk_cell HF1.out 1).trans rfl; have x12 : w1.cell? ⟨w.heap.size, 2, none⟩ = some (.int .i64 f.guards) := (blk_cell HF1.out 2).trans rfl; have x13 : w1.cell? ⟨w.heap.size, 3, none⟩ = some (.int .i64 f.close) := (blk_cell HF1.out 3).trans rfl; have x14 : w1.cell? ⟨w.heap.size, 4, none⟩ = some (.int .i64 f.freeze) := (blk_cell HF1.out 4).trans rfl; have y10 : w1.cell? ⟨w.heap.size + 1, 0, none⟩ = some (.int .i64 a) := (blk_cell HA1.out 0).trans rfl; have y11 : w1.cell? ⟨w.heap.size + 1, 1, none⟩ = some (.int .i64 s) := (blk_cell HA1.out 1).trans rfl; have l10 := blk_lt HF1.out; have l11 := blk_lt HA1.out) | (go_at_call 20; with_reducible refine (isHour_any a _).mono ?_; rintro e w' ⟨rfl, rfl⟩; rw [HI1.out]) | (go_at_call 20; with_reducible refine (isHour_any s _).mono ?_; rintro e w' ⟨rfl, rfl⟩; rw [HI2.out]) | (go_at_call 11; refine (works_any _).mono ?_; rintro e w9 ⟨rfl, hb9⟩; have HB9 := hide (zbT HB1.out hb9 HB1.out.size); clear hb9))
          go_ret
          exact ⟨rfl, HB0.out.trans (HB9.out.mono HB0.out.size)⟩
        · have hca' : f.close ≤ a := by omega
          clear hca
          by_cases has : s < a
          · go_enter Try.func7, Try.ntmps7
            obtain ⟨w0, hw0⟩ : ∃ w0, (w.alloc (.cells #[.int .i64 f.places, .int .i64 f.wilds, .int .i64 f.guards, .int .i64 f.close, .int .i64 f.freeze] 23)).alloc (.cells #[.int .i64 a, .int .i64 s] 52) = w0 := ⟨_, rfl⟩
            have HB0 := hide (show Below w.heap.size w w0 by rw [← hw0]; (repeat' first | exact zbR _ _ | assumption | refine zbD ?_ | refine zbA ?_ ?_ _ | refine zbS ?_ ?_ _ | refine zbT ?_ (by assumption) ?_ | (simp; done) | (simp; omega) | omega))
            have HS0 := hide (show w0.heap.size = w.heap.size + 1 + 1 by rw [← hw0]; simp)
            have HF0 := hide (show w0.heap[w.heap.size]? = some (.cells #[.int .i64 f.places, .int .i64 f.wilds, .int .i64 f.guards, .int .i64 f.close, .int .i64 f.freeze] 23 (0, 0)) by rw [← hw0]; exact (Below.heap_alloc _ _ _ (by first | (simp; done) | (simp; omega) | omega)).trans (World.alloc_heap_new _ _))
            have HA0 := hide (show w0.heap[w.heap.size + 1]? = some (.cells #[.int .i64 a, .int .i64 s] 52 (0, 0)) by rw [← hw0]; exact (congrArg _ (by simp)).trans (World.alloc_heap_new _ _))
            have HR0 := hide ((HR.out.below HB0.out).mono HB0.out.size)
            have HW0 := hide hw0
            clear hw0
            go_wp2_with (first | (go_at_call 19; rw [HW0.out]; refine (ready_any f A n c l w0 HN.out HR0.out HM.out).mono ?_; rintro e w1 ⟨rfl, hb1⟩; rw [HRD.out]; have HB1 := hide hb1; clear hb1; have HF1 := hide ((HB1.out).block w.heap.size (by have := HS0.out; omega) |>.trans HF0.out); have HA1 := hide ((HB1.out).block (w.heap.size + 1) (by have := HS0.out; omega) |>.trans HA0.out); have x10 : w1.cell? ⟨w.heap.size, 0, none⟩ = some (.int .i64 f.places) := (blk_cell HF1.out 0).trans rfl; have x11 : w1.cell? ⟨w.heap.size, 1, none⟩ = some (.int .i64 f.wilds) := (blk_cell HF1.out 1).trans rfl; have x12 : w1.cell? ⟨w.heap.size, 2, none⟩ = some (.int .i64 f.guards) := (blk_cell HF1.out 2).trans rfl; have x13 : w1.cell? ⟨w.heap.size, 3, none⟩ = some (.int .i64 f.close) := (blk_cell HF1.out 3).trans rfl; have x14 : w1.cell? ⟨w.heap.size, 4, none⟩ = some (.int .i64 f.freeze) := (blk_cell HF1.out 4).trans rfl; have y10 : w1.cell? ⟨w.heap.size + 1, 0, none⟩ = some (.int .i64 a) := (blk_cell HA1.out 0).trans rfl; have y11 : w1.cell? ⟨w.heap.size + 1, 1, none⟩ = some (.int .i64 s) := (blk_cell HA1.out 1).trans rfl; have l10 := blk_lt HF1.out; have l11 := blk_lt HA1.out) | (go_at_call 20; with_reducible refine (isHour_any a _).mono ?_; rintro e w' ⟨rfl, rfl⟩; rw [HI1.out]) | (go_at_call 20; with_reducible refine (isHour_any s _).mono ?_; rintro e w' ⟨rfl, rfl⟩; rw [HI2.out]) | (go_at_call 11; refine (works_any _).mono ?_; rintro e w9 ⟨rfl, hb9⟩; have HB9 := hide (zbT HB1.out hb9 HB1.out.size); clear hb9))
            go_ret
            exact ⟨rfl, HB0.out.trans (HB9.out.mono HB0.out.size)⟩
          · have has' : a ≤ s := by omega
            clear has
            have HCA := hide hca'
            have HAS := hide has'
            have HI1' := hide (show 0 ≤ a ∧ a ≤ 9999 by have := HI1.out; unfold E.within at this; simpa using this)
            have HI2' := hide (show 0 ≤ s ∧ s ≤ 9999 by have := HI2.out; unfold E.within at this; simpa using this)
            have HCK := hide (show E.checkE f l = 0 by have := HRD.out; unfold E.readyB at this; simp only [Bool.and_eq_true, beq_iff_eq] at this; exact this.2)
            obtain ⟨d, hd⟩ := E.check_diffs HCK.out
            have HD := hide hd
            have HT := hide (E.diffs_spec hd).2
            have HVF := hide (E.valid_places (E.errE_ok (E.err_zero (h := a) (p := 0) HCK.out HI1'.out (by omega))).2.1)
            have hml := fun u => E.atL_len (f := f) (h := u) (d := d) (by have := HVF.out.1; omega) HVF.out.2 (E.diffs_len hd)
            obtain ⟨M1, hM1⟩ : ∃ M, (E.atL f a d).main = M := ⟨_, rfl⟩
            obtain ⟨C1, hC1⟩ : ∃ M, (E.atL f a d).cards = M := ⟨_, rfl⟩
            obtain ⟨M2, hM2⟩ : ∃ M, (E.atL f s d).main = M := ⟨_, rfl⟩
            obtain ⟨C2, hC2⟩ : ∃ M, (E.atL f s d).cards = M := ⟨_, rfl⟩
            have hl1 := (hml a).1
            have hl2 := (hml s).1
            have hl3 := (hml s).2
            rw [hM1] at hl1
            rw [hM2] at hl2
            rw [hC2] at hl3
            have HN1 := hide hl1
            have HN2 := hide hl2
            have HN3 := hide hl3
            have HL1 := fun W hr => list_ok f A n c l a d M1 C1 W HN.out hr HID.out HM.out hd (E.err_zero (p := 0) HCK.out HI1'.out (by omega)) hM1 hC1
            have HL2 := fun W hr => list_ok f A n c l s d M2 C2 W HN.out hr HID.out HM.out hd (E.err_zero (p := 0) HCK.out HI2'.out (by omega)) hM2 hC2
            have HST := hide (show ∀ m ∈ M1, (m ∈ M2 ↔ ¬ (m ∈ C2 ∨ ∃ x ∈ l, x.player = m ∧ x.kind = 4 ∧ a < x.hour ∧ x.hour ≤ s)) from fun m hm => by
              have h1 := E.stays (f := f) HT.out.1 HCA.out HAS.out (m := m) (by rw [hM1]; exact hm)
              rw [hM2, hC2] at h1
              rw [h1]
              simp only [HT.out.2])
            clear hd hml hl1 hl2 hl3 hM1 hC1 hM2 hC2
            go_enter Try.func7, Try.ntmps7
            obtain ⟨w0, hw0⟩ : ∃ w0, (w.alloc (.cells #[.int .i64 f.places, .int .i64 f.wilds, .int .i64 f.guards, .int .i64 f.close, .int .i64 f.freeze] 23)).alloc (.cells #[.int .i64 a, .int .i64 s] 52) = w0 := ⟨_, rfl⟩
            have HB0 := hide (show Below w.heap.size w w0 by rw [← hw0]; (repeat' first | exact zbR _ _ | assumption | refine zbD ?_ | refine zbA ?_ ?_ _ | refine zbS ?_ ?_ _ | refine zbT ?_ (by assumption) ?_ | (simp; done) | (simp; omega) | omega))
            have HS0 := hide (show w0.heap.size = w.heap.size + 1 + 1 by rw [← hw0]; simp)
            have HF0 := hide (show w0.heap[w.heap.size]? = some (.cells #[.int .i64 f.places, .int .i64 f.wilds, .int .i64 f.guards, .int .i64 f.close, .int .i64 f.freeze] 23 (0, 0)) by rw [← hw0]; exact (Below.heap_alloc _ _ _ (by first | (simp; done) | (simp; omega) | omega)).trans (World.alloc_heap_new _ _))
            have HA0 := hide (show w0.heap[w.heap.size + 1]? = some (.cells #[.int .i64 a, .int .i64 s] 52 (0, 0)) by rw [← hw0]; exact (congrArg _ (by simp)).trans (World.alloc_heap_new _ _))
            have HR0 := hide ((HR.out.below HB0.out).mono HB0.out.size)
            have HW0 := hide hw0
            clear hw0
            go_wp2_with (first | (go_at_call 19; rw [HW0.out]; refine (ready_any f A n c l w0 HN.out HR0.out HM.out).mono ?_; rintro e w1 ⟨rfl, hb1⟩; rw [HRD.out]; have HB1 := hide hb1; clear hb1; have HF1 := hide ((HB1.out).block w.heap.size (by have := HS0.out; omega) |>.trans HF0.out); have HA1 := hide ((HB1.out).block (w.heap.size + 1) (by have := HS0.out; omega) |>.trans HA0.out); have x10 : w1.cell? ⟨w.heap.size, 0, none⟩ = some (.int .i64 f.places) := (blk_cell HF1.out 0).trans rfl; have x11 : w1.cell? ⟨w.heap.size, 1, none⟩ = some (.int .i64 f.wilds) := (blk_cell HF1.out 1).trans rfl; have x12 : w1.cell? ⟨w.heap.size, 2, none⟩ = some (.int .i64 f.guards) := (blk_cell HF1.out 2).trans rfl; have x13 : w1.cell? ⟨w.heap.size, 3, none⟩ = some (.int .i64 f.close) := (blk_cell HF1.out 3).trans rfl; have x14 : w1.cell? ⟨w.heap.size, 4, none⟩ = some (.int .i64 f.freeze) := (blk_cell HF1.out 4).trans rfl; have y10 : w1.cell? ⟨w.heap.size + 1, 0, none⟩ = some (.int .i64 a) := (blk_cell HA1.out 0).trans rfl; have y11 : w1.cell? ⟨w.heap.size + 1, 1, none⟩ = some (.int .i64 s) := (blk_cell HA1.out 1).trans rfl; have l10 := blk_lt HF1.out; have l11 := blk_lt HA1.out) | (go_at_call 20; with_reducible refine (isHour_any a _).mono ?_; rintro e w' ⟨rfl, rfl⟩; rw [HI1.out]) | (go_at_call 20; with_reducible refine (isHour_any s _).mono ?_; rintro e w' ⟨rfl, rfl⟩; rw [HI2.out]) | (go_at_call 14; with_reducible refine (HL1 w1 ?hr).mono ?_; (case hr => exact ((HR0.out.below HB1.out).mono HB1.out.size)); rintro e w2 ⟨A1, c1, A2, c2, A3, c3, n3, P1, rfl, hm1, -, hb2⟩; have HM1 := hide hm1; have HB2 := hide (zbT HB1.out hb2 HB1.out.size); clear hm1 hb2; have HF2 := hide ((HB2.out).block w.heap.size (by have := HS0.out; omega) |>.trans HF0.out); have HA2 := hide ((HB2.out).block (w.heap.size + 1) (by have := HS0.out; omega) |>.trans HA0.out); have x20 : w2.cell? ⟨w.heap.size, 0, none⟩ = some (.int .i64 f.places) := (blk_cell HF2.out 0).trans rfl; have x21 : w2.cell? ⟨w.heap.size, 1, none⟩ = some (.int .i64 f.wilds) := (blk_cell HF2.out 1).trans rfl; have x22 : w2.cell? ⟨w.heap.size, 2, none⟩ = some (.int .i64 f.guards) := (blk_cell HF2.out 2).trans rfl; have x23 : w2.cell? ⟨w.heap.size, 3, none⟩ = some (.int .i64 f.close) := (blk_cell HF2.out 3).trans rfl; have x24 : w2.cell? ⟨w.heap.size, 4, none⟩ = some (.int .i64 f.freeze) := (blk_cell HF2.out 4).trans rfl; have y20 : w2.cell? ⟨w.heap.size + 1, 0, none⟩ = some (.int .i64 a) := (blk_cell HA2.out 0).trans rfl; have y21 : w2.cell? ⟨w.heap.size + 1, 1, none⟩ = some (.int .i64 s) := (blk_cell HA2.out 1).trans rfl; have l20 := blk_lt HF2.out; have l21 := blk_lt HA2.out) | (go_at_call 14; with_reducible refine (HL2 _ ?hr).mono ?_; (case hr => exact ((((HR0.out.below HB2.out).mono HB2.out.size).below (show Below w2.heap.size w2 (w2.alloc (.cells #[.slice A1 M1.length c1, .slice A2 C1.length c2, .slice A3 n3 c3, .int .i64 P1] 33)) by (repeat' first | exact zbR _ _ | assumption | refine zbD ?_ | refine zbA ?_ ?_ _ | refine zbS ?_ ?_ _ | refine zbT ?_ (by assumption) ?_ | (simp; done) | (simp; omega) | omega))).mono (by simp))); rintro e w3 ⟨D1, e1, D2, e2, D3, e3, n6, P2, rfl, hm2, hc2, hb3⟩; have HM2 := hide hm2; have HC2 := hide hc2; have HB23 := hide (zbT (show Below w2.heap.size w2 (w2.alloc (.cells #[.slice A1 M1.length c1, .slice A2 C1.length c2, .slice A3 n3 c3, .int .i64 P1] 33)) by (repeat' first | exact zbR _ _ | assumption | refine zbD ?_ | refine zbA ?_ ?_ _ | refine zbS ?_ ?_ _ | refine zbT ?_ (by assumption) ?_ | (simp; done) | (simp; omega) | omega)) hb3 (by simp)); have HE1 := hide ((hb3.block w2.heap.size (by simp)).trans (World.alloc_heap_new w2 (.cells #[.slice A1 M1.length c1, .slice A2 C1.length c2, .slice A3 n3 c3, .int .i64 P1] 33))); clear hm2 hc2 hb3))
            obtain ⟨w4, hw4⟩ : ∃ w4, w3.alloc (.cells #[.slice D1 M2.length e1, .slice D2 C2.length e2, .slice D3 n6 e3, .int .i64 P2] 33) = w4 := ⟨_, rfl⟩
            have HB34 := hide (show Below w3.heap.size w3 w4 by rw [← hw4]; (repeat' first | exact zbR _ _ | assumption | refine zbD ?_ | refine zbA ?_ ?_ _ | refine zbS ?_ ?_ _ | refine zbT ?_ (by assumption) ?_ | (simp; done) | (simp; omega) | omega))
            have HE2 := hide (show w4.heap[w3.heap.size]? = some (.cells #[.slice D1 M2.length e1, .slice D2 C2.length e2, .slice D3 n6 e3, .int .i64 P2] 33 (0, 0)) by rw [← hw4]; exact World.alloc_heap_new _ _)
            rw [hw4]
            clear hw4
            have HB24 := hide (zbT HB23.out HB34.out HB23.out.size)
            have HB4 := hide (zbT HB2.out HB24.out HB2.out.size)
            have HE14 := hide ((HB34.out.block _ (blk_lt HE1.out)).trans HE1.out)
            have HA4 := hide ((HB4.out.block (w.heap.size + 1) (by have := HS0.out; omega)).trans HA0.out)
            have RL := hide ((HR0.out.below HB4.out).mono HB4.out.size)
            have RM1 := hide ((HM1.out.below HB24.out).mono HB24.out.size)
            have RM2 := hide ((HM2.out.below HB34.out).mono HB34.out.size)
            have RC2 := hide ((HC2.out.below HB34.out).mono HB34.out.size)
            obtain ⟨g1, hg1⟩ : ∃ g, w2.heap.size = g := ⟨_, rfl⟩
            obtain ⟨g2, hg2⟩ : ∃ g, w3.heap.size = g := ⟨_, rfl⟩
            rw [hg1] at HE14 ⊢
            rw [hg2] at HE2 ⊢
            clear hg1 hg2
            obtain ⟨gh, hgh⟩ : ∃ g, w.heap.size + 1 = g := ⟨_, rfl⟩
            rw [hgh] at HA4
            have HGH := hide hgh
            clear hgh
            go_loopw [11] (fun i wr => ∃ k : Nat, k ≤ M1.length ∧ i = .int .i64 k ∧ Hid (Below w4.heap.size w4 wr)) (fun i _ => M1.length - (intOf i).toNat)
            case atStart => exact ⟨0, by omega, rfl, hide (Below.refl _ _)⟩
            case round =>
              obtain ⟨k, hk, rfl, HR4⟩ := hrel
              have hn1 := HN1.out
              have z1 : wr.cell? ⟨g1, 0, none⟩ = some (.slice A1 M1.length c1) := (blk_cell ((HR4.out.block _ (blk_lt HE14.out)).trans HE14.out) 0).trans rfl
              have z2 : g1 < wr.heap.size := Nat.lt_of_lt_of_le (blk_lt HE14.out) HR4.out.size
              by_cases hlt : k < M1.length
              · obtain ⟨m, hm⟩ : ∃ q, M1[k]? = some q := ⟨_, List.getElem?_eq_getElem hlt⟩
                have HMK := hide hm
                have hlt' : (k : Int) < (M1.length : Int) := by omega
                have hk0 : (0 : Int) ≤ (k : Int) := by omega
                clear hm
                go_upto_region 10 with fail
                obtain ⟨V, hV⟩ : ∃ V, wr.drew = V := ⟨_, rfl⟩
                have HV4 := hide (show Below w4.heap.size w4 V by rw [← hV]; exact zbD HR4.out)
                refine wp_region_still_lit (by kernel_rfl) (by kernel_rfl) ?_
                change wpStill _ _ wr.drew (fun a' => Exit.then _ _ Exit.normal a' wr.drew) _ _
                rw [hV]
                clear hV
                have v10 : V.cell? ⟨g1, 0, none⟩ = some (.slice A1 M1.length c1) := (blk_cell ((HV4.out.block _ (blk_lt HE14.out)).trans HE14.out) 0).trans rfl
                have v20 : V.cell? ⟨g2, 0, none⟩ = some (.slice D1 M2.length e1) := (blk_cell ((HV4.out.block _ (blk_lt HE2.out)).trans HE2.out) 0).trans rfl
                have v21 : V.cell? ⟨g2, 1, none⟩ = some (.slice D2 C2.length e2) := (blk_cell ((HV4.out.block _ (blk_lt HE2.out)).trans HE2.out) 1).trans rfl
                obtain ⟨bm, om, hAm, _, vm⟩ := (RM1.out.below HV4.out) k m HMK.out
                subst hAm
                with_reducible refine stTake (v := ?_) (by kernel_rfl) ?_ ?_; rotate_left
                · (go_simp; (try with_reducible rfl))
                (try simp only [Act.put, zl, z0, z1])
                with_reducible refine stTake (v := ?_) (by kernel_rfl) ?_ ?_; rotate_left
                · (go_simp; (try with_reducible rfl))
                (try simp only [Act.put, zl, z0, z1])
                with_reducible refine stTake (v := ?_) (by kernel_rfl) ?_ ?_; rotate_left
                · (go_simp; (try with_reducible rfl))
                (try simp only [Act.put, zl, z0, z1])
                with_reducible refine stTake (v := ?_) (by kernel_rfl) ?_ ?_; rotate_left
                · (go_simp; (try with_reducible rfl))
                (try simp only [Act.put, zl, z0, z1])
                with_reducible refine stTake (v := ?_) (by kernel_rfl) ?_ ?_; rotate_left
                · (go_simp; (try with_reducible rfl))
                (try simp only [Act.put, zl, z0, z1])
                with_reducible refine stTake (v := ?_) (by kernel_rfl) ?_ ?_; rotate_left
                · (go_simp; (try with_reducible rfl))
                (try simp only [Act.put, zl, z0, z1])
                with_reducible refine stTake (v := ?_) (by kernel_rfl) ?_ ?_; rotate_left
                · (go_simp; (try with_reducible rfl))
                (try simp only [Act.put, zl, z0, z1])
                with_reducible refine stCall (v := .bool (C2.contains m)) (f := 21) (args := #[.slice D2 C2.length e2, .int .i64 m]) (by kernel_rfl) (by go_simp) ((has_any D2 C2.length e2 C2 m V rfl ((RC2.out.below HV4.out).mono HV4.out.size) (by have := HN3.out; omega)).mono (fun e w h => ⟨h.1, h.2.symm⟩)) ?_
                (try simp only [Act.put, zl, z0, z1])
                with_reducible refine stTake (v := ?_) (by kernel_rfl) ?_ ?_; rotate_left
                · (go_simp; (try with_reducible rfl))
                (try simp only [Act.put, zl, z0, z1])
                refine wpStill_nil ?_
                clear v10 v20 v21 vm z1 z2
                go_wp2_with fail
                have HVV := HV4
                clear hk0 hlt'
                go_loopw [12, 13] (fun go j wr => ∃ (i : Nat) (q : Bool), i ≤ n ∧ j = .int .i64 i ∧ go = .bool q ∧ Hid (q = true ↔ (m ∈ C2 ∨ ∃ x ∈ l.take i, x.player = m ∧ x.kind = 4 ∧ a < x.hour ∧ x.hour ≤ s)) ∧ Hid (Below w4.heap.size w4 wr)) (fun _ j _ => n - (intOf j).toNat)
                case atStart => exact ⟨0, decide (m ∈ C2), by omega, rfl, by simp, hide (by simp), HVV⟩
                case round =>
                  obtain ⟨i, q, hi, rfl, rfl, HQ, HR5⟩ := hrel
                  have hmn := HM.out
                  by_cases hin : i < n
                  · obtain ⟨x, hx⟩ : ∃ q, l[i]? = some q := ⟨_, List.getElem?_eq_getElem (by have := HN.out; omega)⟩
                    have HX := hide hx
                    have htk : l.take (i + 1) = l.take i ++ [x] := by rw [List.take_add_one, hx]; rfl
                    have HTK := hide htk
                    have hi1 : (i : Int) < (n : Int) := by omega
                    have hi0 : (0 : Int) ≤ (i : Int) := by omega
                    have hkm : (k : Int) < (M1.length : Int) := by omega
                    have hk0 : (0 : Int) ≤ (k : Int) := by omega
                    clear hx htk
                    go_upto_region 14 with fail
                    cases q
                    · obtain ⟨b1, hb1⟩ : ∃ b, (x.player == m) = b := ⟨_, rfl⟩
                      have P1 := hide hb1
                      have P1' := hide (show decide (x.player = m) = b1 from hb1)
                      clear hb1
                      cases b1
                      · refine wp_last ?_
                        obtain ⟨V, hV⟩ : ∃ V, wr.drew = V := ⟨_, rfl⟩
                        have HV4 := hide (show Below w4.heap.size w4 V by rw [← hV]; exact zbD HR5.out)
                        refine wp_region_still_lit (by kernel_rfl) (by kernel_rfl) ?_
                        change wpStill _ _ wr.drew (fun a' => Exit.then _ _ Exit.normal a' wr.drew) _ _
                        rw [hV]
                        clear hV
                        have v10 : V.cell? ⟨g1, 0, none⟩ = some (.slice (some ⟨bm, om, none⟩) M1.length c1) := (blk_cell ((HV4.out.block _ (blk_lt HE14.out)).trans HE14.out) 0).trans rfl
                        have v20 : V.cell? ⟨g2, 0, none⟩ = some (.slice D1 M2.length e1) := (blk_cell ((HV4.out.block _ (blk_lt HE2.out)).trans HE2.out) 0).trans rfl
                        have v21 : V.cell? ⟨g2, 1, none⟩ = some (.slice D2 C2.length e2) := (blk_cell ((HV4.out.block _ (blk_lt HE2.out)).trans HE2.out) 1).trans rfl
                        obtain ⟨bm', om', hAm, _, vm⟩ := (RM1.out.below HV4.out) k m HMK.out
                        injection hAm with hAm
                        injection hAm with hAm1 hAm2
                        subst hAm1 hAm2
                        have h50 : V.cell? ⟨w.heap.size + 1, 0, none⟩ = some (.int .i64 a) := by rw [HGH.out]; exact (blk_cell ((HV4.out.block _ (blk_lt HA4.out)).trans HA4.out) 0).trans rfl
                        have h51 : V.cell? ⟨w.heap.size + 1, 1, none⟩ = some (.int .i64 s) := by rw [HGH.out]; exact (blk_cell ((HV4.out.block _ (blk_lt HA4.out)).trans HA4.out) 1).trans rfl
                        obtain ⟨bx, ox, hAx, _, u0, u1, u2, u3, u4⟩ := (RL.out.below HV4.out) i x HX.out
                        subst hAx
                        with_reducible refine stTake (v := ?_) (by kernel_rfl) ?_ ?_; rotate_left
                        · (go_simp; (try with_reducible rfl))
                        (try simp only [Act.put, zl, z0, z1])
                        with_reducible refine stTake (v := ?_) (by kernel_rfl) ?_ ?_; rotate_left
                        · (go_simp; (try with_reducible rfl))
                        (try simp only [Act.put, zl, z0, z1])
                        with_reducible refine stTake (v := ?_) (by kernel_rfl) ?_ ?_; rotate_left
                        · (go_simp; (try with_reducible rfl))
                        (try simp only [Act.put, zl, z0, z1])
                        with_reducible refine stTake (v := ?_) (by kernel_rfl) ?_ ?_; rotate_left
                        · (go_simp; (try with_reducible rfl))
                        (try simp only [Act.put, zl, z0, z1])
                        with_reducible refine stTake (v := ?_) (by kernel_rfl) ?_ ?_; rotate_left
                        · (go_simp; (try with_reducible rfl))
                        (try simp only [Act.put, zl, z0, z1])
                        with_reducible refine stTake (v := ?_) (by kernel_rfl) ?_ ?_; rotate_left
                        · (go_simp; (try with_reducible rfl))
                        (try simp only [Act.put, zl, z0, z1])
                        with_reducible refine stTake (v := ?_) (by kernel_rfl) ?_ ?_; rotate_left
                        · (go_simp; (try with_reducible rfl))
                        (try simp only [Act.put, zl, z0, z1])
                        with_reducible refine stTake (v := ?_) (by kernel_rfl) ?_ ?_; rotate_left
                        · (go_simp; (try with_reducible rfl))
                        (try simp only [Act.put, zl, z0, z1])
                        with_reducible refine stTake (v := ?_) (by kernel_rfl) ?_ ?_; rotate_left
                        · (go_simp; (try with_reducible rfl))
                        (try simp only [Act.put, zl, z0, z1])
                        with_reducible refine stTake (v := ?_) (by kernel_rfl) ?_ ?_; rotate_left
                        · (go_simp; (try with_reducible rfl))
                        (try simp only [Act.put, zl, z0, z1])
                        with_reducible refine stTake (v := ?_) (by kernel_rfl) ?_ ?_; rotate_left
                        · (go_simp; (try with_reducible rfl))
                        (try simp only [Act.put, zl, z0, z1])
                        with_reducible refine stTake (v := ?_) (by kernel_rfl) ?_ ?_; rotate_left
                        · (go_simp; (try with_reducible rfl))
                        (try simp only [Act.put, zl, z0, z1])
                        with_reducible refine stTake (v := ?_) (by kernel_rfl) ?_ ?_; rotate_left
                        · (go_simp; (try simp only [P1.out, P1'.out]); (try with_reducible rfl))
                        (try simp only [Act.put, zl, z0, z1])
                        with_reducible refine stTake (v := ?_) (by kernel_rfl) ?_ ?_; rotate_left
                        · (go_simp; (try with_reducible rfl))
                        (try simp only [Act.put, zl, z0, z1])
                        with_reducible refine stSkip (by kernel_rfl) ?_
                        (try simp only [Act.put, zl, z0, z1])
                        with_reducible refine stSkip (by kernel_rfl) ?_
                        (try simp only [Act.put, zl, z0, z1])
                        with_reducible refine stSkip (by kernel_rfl) ?_
                        (try simp only [Act.put, zl, z0, z1])
                        with_reducible refine stSkip (by kernel_rfl) ?_
                        (try simp only [Act.put, zl, z0, z1])
                        with_reducible refine stSkip (by kernel_rfl) ?_
                        (try simp only [Act.put, zl, z0, z1])
                        with_reducible refine stSkip (by kernel_rfl) ?_
                        (try simp only [Act.put, zl, z0, z1])
                        with_reducible refine stTake (v := ?_) (by kernel_rfl) ?_ ?_; rotate_left
                        · (go_simp; (try with_reducible rfl))
                        (try simp only [Act.put, zl, z0, z1])
                        with_reducible refine stTake (v := ?_) (by kernel_rfl) ?_ ?_; rotate_left
                        · (go_simp; (try with_reducible rfl))
                        (try simp only [Act.put, zl, z0, z1])
                        with_reducible refine stSkip (by kernel_rfl) ?_
                        (try simp only [Act.put, zl, z0, z1])
                        with_reducible refine stSkip (by kernel_rfl) ?_
                        (try simp only [Act.put, zl, z0, z1])
                        with_reducible refine stSkip (by kernel_rfl) ?_
                        (try simp only [Act.put, zl, z0, z1])
                        with_reducible refine stSkip (by kernel_rfl) ?_
                        (try simp only [Act.put, zl, z0, z1])
                        with_reducible refine stSkip (by kernel_rfl) ?_
                        (try simp only [Act.put, zl, z0, z1])
                        with_reducible refine stSkip (by kernel_rfl) ?_
                        (try simp only [Act.put, zl, z0, z1])
                        with_reducible refine stSkip (by kernel_rfl) ?_
                        (try simp only [Act.put, zl, z0, z1])
                        with_reducible refine stSkip (by kernel_rfl) ?_
                        (try simp only [Act.put, zl, z0, z1])
                        with_reducible refine stTake (v := ?_) (by kernel_rfl) ?_ ?_; rotate_left
                        · (go_simp; (try with_reducible rfl))
                        (try simp only [Act.put, zl, z0, z1])
                        with_reducible refine stTake (v := ?_) (by kernel_rfl) ?_ ?_; rotate_left
                        · (go_simp; (try with_reducible rfl))
                        (try simp only [Act.put, zl, z0, z1])
                        with_reducible refine stSkip (by kernel_rfl) ?_
                        (try simp only [Act.put, zl, z0, z1])
                        with_reducible refine stSkip (by kernel_rfl) ?_
                        (try simp only [Act.put, zl, z0, z1])
                        with_reducible refine stSkip (by kernel_rfl) ?_
                        (try simp only [Act.put, zl, z0, z1])
                        with_reducible refine stSkip (by kernel_rfl) ?_
                        (try simp only [Act.put, zl, z0, z1])
                        with_reducible refine stSkip (by kernel_rfl) ?_
                        (try simp only [Act.put, zl, z0, z1])
                        with_reducible refine stSkip (by kernel_rfl) ?_
                        (try simp only [Act.put, zl, z0, z1])
                        with_reducible refine stSkip (by kernel_rfl) ?_
                        (try simp only [Act.put, zl, z0, z1])
                        with_reducible refine stSkip (by kernel_rfl) ?_
                        (try simp only [Act.put, zl, z0, z1])
                        with_reducible refine stTake (v := ?_) (by kernel_rfl) ?_ ?_; rotate_left
                        · (go_simp; (try with_reducible rfl))
                        (try simp only [Act.put, zl, z0, z1])
                        with_reducible refine stTake (v := ?_) (by kernel_rfl) ?_ ?_; rotate_left
                        · (go_simp; (try with_reducible rfl))
                        (try simp only [Act.put, zl, z0, z1])
                        with_reducible refine stTake (v := ?_) (by kernel_rfl) ?_ ?_; rotate_left
                        · (go_simp; (try with_reducible rfl))
                        (try simp only [Act.put, zl, z0, z1])
                        refine wpStill_nil ?_
                        dsimp only [Exit.inBlock, Exit.then]
                        clear v10 v20 v21 vm h50 h51 u0 u1 u2 u3 u4
                        go_wp2_with fail
                        go_roundw
                        case rel => exact ⟨i + 1, false, by omega, by go_num, rfl, hide (by rw [HTK.out]; have := HQ.out; simp only [List.mem_append, List.mem_singleton]; constructor; (intro h; cases h); (rintro (h | ⟨y, hy | rfl, h1, h2, h3, h4⟩); exact absurd (this.2 (.inl h)) (by simp); exact absurd (this.2 (.inr ⟨y, hy, h1, h2, h3, h4⟩)) (by simp); exact absurd h1 (by simpa using P1'.out))), HV4⟩
                        case measure => simp [intOf]; omega
                      · obtain ⟨b2, hb2⟩ : ∃ b, (x.kind == 4) = b := ⟨_, rfl⟩
                        have P2 := hide hb2
                        have P2' := hide (show decide (x.kind = 4) = b2 from hb2)
                        clear hb2
                        cases b2
                        · refine wp_last ?_
                          obtain ⟨V, hV⟩ : ∃ V, wr.drew = V := ⟨_, rfl⟩
                          have HV4 := hide (show Below w4.heap.size w4 V by rw [← hV]; exact zbD HR5.out)
                          refine wp_region_still_lit (by kernel_rfl) (by kernel_rfl) ?_
                          change wpStill _ _ wr.drew (fun a' => Exit.then _ _ Exit.normal a' wr.drew) _ _
                          rw [hV]
                          clear hV
                          have v10 : V.cell? ⟨g1, 0, none⟩ = some (.slice (some ⟨bm, om, none⟩) M1.length c1) := (blk_cell ((HV4.out.block _ (blk_lt HE14.out)).trans HE14.out) 0).trans rfl
                          have v20 : V.cell? ⟨g2, 0, none⟩ = some (.slice D1 M2.length e1) := (blk_cell ((HV4.out.block _ (blk_lt HE2.out)).trans HE2.out) 0).trans rfl
                          have v21 : V.cell? ⟨g2, 1, none⟩ = some (.slice D2 C2.length e2) := (blk_cell ((HV4.out.block _ (blk_lt HE2.out)).trans HE2.out) 1).trans rfl
                          obtain ⟨bm', om', hAm, _, vm⟩ := (RM1.out.below HV4.out) k m HMK.out
                          injection hAm with hAm
                          injection hAm with hAm1 hAm2
                          subst hAm1 hAm2
                          have h50 : V.cell? ⟨w.heap.size + 1, 0, none⟩ = some (.int .i64 a) := by rw [HGH.out]; exact (blk_cell ((HV4.out.block _ (blk_lt HA4.out)).trans HA4.out) 0).trans rfl
                          have h51 : V.cell? ⟨w.heap.size + 1, 1, none⟩ = some (.int .i64 s) := by rw [HGH.out]; exact (blk_cell ((HV4.out.block _ (blk_lt HA4.out)).trans HA4.out) 1).trans rfl
                          obtain ⟨bx, ox, hAx, _, u0, u1, u2, u3, u4⟩ := (RL.out.below HV4.out) i x HX.out
                          subst hAx
                          with_reducible refine stTake (v := ?_) (by kernel_rfl) ?_ ?_; rotate_left
                          · (go_simp; (try with_reducible rfl))
                          (try simp only [Act.put, zl, z0, z1])
                          with_reducible refine stTake (v := ?_) (by kernel_rfl) ?_ ?_; rotate_left
                          · (go_simp; (try with_reducible rfl))
                          (try simp only [Act.put, zl, z0, z1])
                          with_reducible refine stTake (v := ?_) (by kernel_rfl) ?_ ?_; rotate_left
                          · (go_simp; (try with_reducible rfl))
                          (try simp only [Act.put, zl, z0, z1])
                          with_reducible refine stTake (v := ?_) (by kernel_rfl) ?_ ?_; rotate_left
                          · (go_simp; (try with_reducible rfl))
                          (try simp only [Act.put, zl, z0, z1])
                          with_reducible refine stTake (v := ?_) (by kernel_rfl) ?_ ?_; rotate_left
                          · (go_simp; (try with_reducible rfl))
                          (try simp only [Act.put, zl, z0, z1])
                          with_reducible refine stTake (v := ?_) (by kernel_rfl) ?_ ?_; rotate_left
                          · (go_simp; (try with_reducible rfl))
                          (try simp only [Act.put, zl, z0, z1])
                          with_reducible refine stTake (v := ?_) (by kernel_rfl) ?_ ?_; rotate_left
                          · (go_simp; (try with_reducible rfl))
                          (try simp only [Act.put, zl, z0, z1])
                          with_reducible refine stTake (v := ?_) (by kernel_rfl) ?_ ?_; rotate_left
                          · (go_simp; (try with_reducible rfl))
                          (try simp only [Act.put, zl, z0, z1])
                          with_reducible refine stTake (v := ?_) (by kernel_rfl) ?_ ?_; rotate_left
                          · (go_simp; (try with_reducible rfl))
                          (try simp only [Act.put, zl, z0, z1])
                          with_reducible refine stTake (v := ?_) (by kernel_rfl) ?_ ?_; rotate_left
                          · (go_simp; (try with_reducible rfl))
                          (try simp only [Act.put, zl, z0, z1])
                          with_reducible refine stTake (v := ?_) (by kernel_rfl) ?_ ?_; rotate_left
                          · (go_simp; (try with_reducible rfl))
                          (try simp only [Act.put, zl, z0, z1])
                          with_reducible refine stTake (v := ?_) (by kernel_rfl) ?_ ?_; rotate_left
                          · (go_simp; (try with_reducible rfl))
                          (try simp only [Act.put, zl, z0, z1])
                          with_reducible refine stTake (v := ?_) (by kernel_rfl) ?_ ?_; rotate_left
                          · (go_simp; (try simp only [P1.out, P1'.out]); (try with_reducible rfl))
                          (try simp only [Act.put, zl, z0, z1])
                          with_reducible refine stTake (v := ?_) (by kernel_rfl) ?_ ?_; rotate_left
                          · (go_simp; (try with_reducible rfl))
                          (try simp only [Act.put, zl, z0, z1])
                          with_reducible refine stTake (v := ?_) (by kernel_rfl) ?_ ?_; rotate_left
                          · (go_simp; (try with_reducible rfl))
                          (try simp only [Act.put, zl, z0, z1])
                          with_reducible refine stTake (v := ?_) (by kernel_rfl) ?_ ?_; rotate_left
                          · (go_simp; (try with_reducible rfl))
                          (try simp only [Act.put, zl, z0, z1])
                          with_reducible refine stTake (v := ?_) (by kernel_rfl) ?_ ?_; rotate_left
                          · (go_simp; (try with_reducible rfl))
                          (try simp only [Act.put, zl, z0, z1])
                          with_reducible refine stTake (v := ?_) (by kernel_rfl) ?_ ?_; rotate_left
                          · (go_simp; (try with_reducible rfl))
                          (try simp only [Act.put, zl, z0, z1])
                          with_reducible refine stTake (v := ?_) (by kernel_rfl) ?_ ?_; rotate_left
                          · (go_simp; (try with_reducible rfl))
                          (try simp only [Act.put, zl, z0, z1])
                          with_reducible refine stTake (v := ?_) (by kernel_rfl) ?_ ?_; rotate_left
                          · (go_simp; (try simp only [P2.out, P2'.out]); (try with_reducible rfl))
                          (try simp only [Act.put, zl, z0, z1])
                          with_reducible refine stTake (v := ?_) (by kernel_rfl) ?_ ?_; rotate_left
                          · (go_simp; (try with_reducible rfl))
                          (try simp only [Act.put, zl, z0, z1])
                          with_reducible refine stTake (v := ?_) (by kernel_rfl) ?_ ?_; rotate_left
                          · (go_simp; (try with_reducible rfl))
                          (try simp only [Act.put, zl, z0, z1])
                          with_reducible refine stSkip (by kernel_rfl) ?_
                          (try simp only [Act.put, zl, z0, z1])
                          with_reducible refine stSkip (by kernel_rfl) ?_
                          (try simp only [Act.put, zl, z0, z1])
                          with_reducible refine stSkip (by kernel_rfl) ?_
                          (try simp only [Act.put, zl, z0, z1])
                          with_reducible refine stSkip (by kernel_rfl) ?_
                          (try simp only [Act.put, zl, z0, z1])
                          with_reducible refine stSkip (by kernel_rfl) ?_
                          (try simp only [Act.put, zl, z0, z1])
                          with_reducible refine stSkip (by kernel_rfl) ?_
                          (try simp only [Act.put, zl, z0, z1])
                          with_reducible refine stSkip (by kernel_rfl) ?_
                          (try simp only [Act.put, zl, z0, z1])
                          with_reducible refine stSkip (by kernel_rfl) ?_
                          (try simp only [Act.put, zl, z0, z1])
                          with_reducible refine stTake (v := ?_) (by kernel_rfl) ?_ ?_; rotate_left
                          · (go_simp; (try with_reducible rfl))
                          (try simp only [Act.put, zl, z0, z1])
                          with_reducible refine stTake (v := ?_) (by kernel_rfl) ?_ ?_; rotate_left
                          · (go_simp; (try with_reducible rfl))
                          (try simp only [Act.put, zl, z0, z1])
                          with_reducible refine stSkip (by kernel_rfl) ?_
                          (try simp only [Act.put, zl, z0, z1])
                          with_reducible refine stSkip (by kernel_rfl) ?_
                          (try simp only [Act.put, zl, z0, z1])
                          with_reducible refine stSkip (by kernel_rfl) ?_
                          (try simp only [Act.put, zl, z0, z1])
                          with_reducible refine stSkip (by kernel_rfl) ?_
                          (try simp only [Act.put, zl, z0, z1])
                          with_reducible refine stSkip (by kernel_rfl) ?_
                          (try simp only [Act.put, zl, z0, z1])
                          with_reducible refine stSkip (by kernel_rfl) ?_
                          (try simp only [Act.put, zl, z0, z1])
                          with_reducible refine stSkip (by kernel_rfl) ?_
                          (try simp only [Act.put, zl, z0, z1])
                          with_reducible refine stSkip (by kernel_rfl) ?_
                          (try simp only [Act.put, zl, z0, z1])
                          with_reducible refine stTake (v := ?_) (by kernel_rfl) ?_ ?_; rotate_left
                          · (go_simp; (try with_reducible rfl))
                          (try simp only [Act.put, zl, z0, z1])
                          with_reducible refine stTake (v := ?_) (by kernel_rfl) ?_ ?_; rotate_left
                          · (go_simp; (try with_reducible rfl))
                          (try simp only [Act.put, zl, z0, z1])
                          with_reducible refine stTake (v := ?_) (by kernel_rfl) ?_ ?_; rotate_left
                          · (go_simp; (try with_reducible rfl))
                          (try simp only [Act.put, zl, z0, z1])
                          refine wpStill_nil ?_
                          dsimp only [Exit.inBlock, Exit.then]
                          clear v10 v20 v21 vm h50 h51 u0 u1 u2 u3 u4
                          go_wp2_with fail
                          go_roundw
                          case rel => exact ⟨i + 1, false, by omega, by go_num, rfl, hide (by rw [HTK.out]; have := HQ.out; simp only [List.mem_append, List.mem_singleton]; constructor; (intro h; cases h); (rintro (h | ⟨y, hy | rfl, h1, h2, h3, h4⟩); exact absurd (this.2 (.inl h)) (by simp); exact absurd (this.2 (.inr ⟨y, hy, h1, h2, h3, h4⟩)) (by simp); exact absurd h2 (by simpa using P2'.out))), HV4⟩
                          case measure => simp [intOf]; omega
                        · obtain ⟨b3, hb3⟩ : ∃ b, decide (a < x.hour) = b := ⟨_, rfl⟩
                          have P3 := hide hb3
                          have P3' := hide (show decide (a < x.hour) = b3 from hb3)
                          clear hb3
                          cases b3
                          · refine wp_last ?_
                            obtain ⟨V, hV⟩ : ∃ V, wr.drew = V := ⟨_, rfl⟩
                            have HV4 := hide (show Below w4.heap.size w4 V by rw [← hV]; exact zbD HR5.out)
                            refine wp_region_still_lit (by kernel_rfl) (by kernel_rfl) ?_
                            change wpStill _ _ wr.drew (fun a' => Exit.then _ _ Exit.normal a' wr.drew) _ _
                            rw [hV]
                            clear hV
                            have v10 : V.cell? ⟨g1, 0, none⟩ = some (.slice (some ⟨bm, om, none⟩) M1.length c1) := (blk_cell ((HV4.out.block _ (blk_lt HE14.out)).trans HE14.out) 0).trans rfl
                            have v20 : V.cell? ⟨g2, 0, none⟩ = some (.slice D1 M2.length e1) := (blk_cell ((HV4.out.block _ (blk_lt HE2.out)).trans HE2.out) 0).trans rfl
                            have v21 : V.cell? ⟨g2, 1, none⟩ = some (.slice D2 C2.length e2) := (blk_cell ((HV4.out.block _ (blk_lt HE2.out)).trans HE2.out) 1).trans rfl
                            obtain ⟨bm', om', hAm, _, vm⟩ := (RM1.out.below HV4.out) k m HMK.out
                            injection hAm with hAm
                            injection hAm with hAm1 hAm2
                            subst hAm1 hAm2
                            have h50 : V.cell? ⟨w.heap.size + 1, 0, none⟩ = some (.int .i64 a) := by rw [HGH.out]; exact (blk_cell ((HV4.out.block _ (blk_lt HA4.out)).trans HA4.out) 0).trans rfl
                            have h51 : V.cell? ⟨w.heap.size + 1, 1, none⟩ = some (.int .i64 s) := by rw [HGH.out]; exact (blk_cell ((HV4.out.block _ (blk_lt HA4.out)).trans HA4.out) 1).trans rfl
                            obtain ⟨bx, ox, hAx, _, u0, u1, u2, u3, u4⟩ := (RL.out.below HV4.out) i x HX.out
                            subst hAx
                            with_reducible refine stTake (v := ?_) (by kernel_rfl) ?_ ?_; rotate_left
                            · (go_simp; (try with_reducible rfl))
                            (try simp only [Act.put, zl, z0, z1])
                            with_reducible refine stTake (v := ?_) (by kernel_rfl) ?_ ?_; rotate_left
                            · (go_simp; (try with_reducible rfl))
                            (try simp only [Act.put, zl, z0, z1])
                            with_reducible refine stTake (v := ?_) (by kernel_rfl) ?_ ?_; rotate_left
                            · (go_simp; (try with_reducible rfl))
                            (try simp only [Act.put, zl, z0, z1])
                            with_reducible refine stTake (v := ?_) (by kernel_rfl) ?_ ?_; rotate_left
                            · (go_simp; (try with_reducible rfl))
                            (try simp only [Act.put, zl, z0, z1])
                            with_reducible refine stTake (v := ?_) (by kernel_rfl) ?_ ?_; rotate_left
                            · (go_simp; (try with_reducible rfl))
                            (try simp only [Act.put, zl, z0, z1])
                            with_reducible refine stTake (v := ?_) (by kernel_rfl) ?_ ?_; rotate_left
                            · (go_simp; (try with_reducible rfl))
                            (try simp only [Act.put, zl, z0, z1])
                            with_reducible refine stTake (v := ?_) (by kernel_rfl) ?_ ?_; rotate_left
                            · (go_simp; (try with_reducible rfl))
                            (try simp only [Act.put, zl, z0, z1])
                            with_reducible refine stTake (v := ?_) (by kernel_rfl) ?_ ?_; rotate_left
                            · (go_simp; (try with_reducible rfl))
                            (try simp only [Act.put, zl, z0, z1])
                            with_reducible refine stTake (v := ?_) (by kernel_rfl) ?_ ?_; rotate_left
                            · (go_simp; (try with_reducible rfl))
                            (try simp only [Act.put, zl, z0, z1])
                            with_reducible refine stTake (v := ?_) (by kernel_rfl) ?_ ?_; rotate_left
                            · (go_simp; (try with_reducible rfl))
                            (try simp only [Act.put, zl, z0, z1])
                            with_reducible refine stTake (v := ?_) (by kernel_rfl) ?_ ?_; rotate_left
                            · (go_simp; (try with_reducible rfl))
                            (try simp only [Act.put, zl, z0, z1])
                            with_reducible refine stTake (v := ?_) (by kernel_rfl) ?_ ?_; rotate_left
                            · (go_simp; (try with_reducible rfl))
                            (try simp only [Act.put, zl, z0, z1])
                            with_reducible refine stTake (v := ?_) (by kernel_rfl) ?_ ?_; rotate_left
                            · (go_simp; (try simp only [P1.out, P1'.out]); (try with_reducible rfl))
                            (try simp only [Act.put, zl, z0, z1])
                            with_reducible refine stTake (v := ?_) (by kernel_rfl) ?_ ?_; rotate_left
                            · (go_simp; (try with_reducible rfl))
                            (try simp only [Act.put, zl, z0, z1])
                            with_reducible refine stTake (v := ?_) (by kernel_rfl) ?_ ?_; rotate_left
                            · (go_simp; (try with_reducible rfl))
                            (try simp only [Act.put, zl, z0, z1])
                            with_reducible refine stTake (v := ?_) (by kernel_rfl) ?_ ?_; rotate_left
                            · (go_simp; (try with_reducible rfl))
                            (try simp only [Act.put, zl, z0, z1])
                            with_reducible refine stTake (v := ?_) (by kernel_rfl) ?_ ?_; rotate_left
                            · (go_simp; (try with_reducible rfl))
                            (try simp only [Act.put, zl, z0, z1])
                            with_reducible refine stTake (v := ?_) (by kernel_rfl) ?_ ?_; rotate_left
                            · (go_simp; (try with_reducible rfl))
                            (try simp only [Act.put, zl, z0, z1])
                            with_reducible refine stTake (v := ?_) (by kernel_rfl) ?_ ?_; rotate_left
                            · (go_simp; (try with_reducible rfl))
                            (try simp only [Act.put, zl, z0, z1])
                            with_reducible refine stTake (v := ?_) (by kernel_rfl) ?_ ?_; rotate_left
                            · (go_simp; (try simp only [P2.out, P2'.out]); (try with_reducible rfl))
                            (try simp only [Act.put, zl, z0, z1])
                            with_reducible refine stTake (v := ?_) (by kernel_rfl) ?_ ?_; rotate_left
                            · (go_simp; (try with_reducible rfl))
                            (try simp only [Act.put, zl, z0, z1])
                            with_reducible refine stTake (v := ?_) (by kernel_rfl) ?_ ?_; rotate_left
                            · (go_simp; (try with_reducible rfl))
                            (try simp only [Act.put, zl, z0, z1])
                            with_reducible refine stTake (v := ?_) (by kernel_rfl) ?_ ?_; rotate_left
                            · (go_simp; (try with_reducible rfl))
                            (try simp only [Act.put, zl, z0, z1])
                            with_reducible refine stTake (v := ?_) (by kernel_rfl) ?_ ?_; rotate_left
                            · (go_simp; (try with_reducible rfl))
                            (try simp only [Act.put, zl, z0, z1])
                            with_reducible refine stTake (v := ?_) (by kernel_rfl) ?_ ?_; rotate_left
                            · (go_simp; (try with_reducible rfl))
                            (try simp only [Act.put, zl, z0, z1])
                            with_reducible refine stTake (v := ?_) (by kernel_rfl) ?_ ?_; rotate_left
                            · (go_simp; (try with_reducible rfl))
                            (try simp only [Act.put, zl, z0, z1])
                            with_reducible refine stTake (v := ?_) (by kernel_rfl) ?_ ?_; rotate_left
                            · (go_simp; (try with_reducible rfl))
                            (try simp only [Act.put, zl, z0, z1])
                            with_reducible refine stTake (v := ?_) (by kernel_rfl) ?_ ?_; rotate_left
                            · (go_simp; (try with_reducible rfl))
                            (try simp only [Act.put, zl, z0, z1])
                            with_reducible refine stTake (v := ?_) (by kernel_rfl) ?_ ?_; rotate_left
                            · (go_simp; (try with_reducible rfl))
                            (try simp only [Act.put, zl, z0, z1])
                            with_reducible refine stTake (v := ?_) (by kernel_rfl) ?_ ?_; rotate_left
                            · (go_simp; (try simp only [P3.out, P3'.out]); (try with_reducible rfl))
                            (try simp only [Act.put, zl, z0, z1])
                            with_reducible refine stTake (v := ?_) (by kernel_rfl) ?_ ?_; rotate_left
                            · (go_simp; (try with_reducible rfl))
                            (try simp only [Act.put, zl, z0, z1])
                            with_reducible refine stTake (v := ?_) (by kernel_rfl) ?_ ?_; rotate_left
                            · (go_simp; (try with_reducible rfl))
                            (try simp only [Act.put, zl, z0, z1])
                            with_reducible refine stSkip (by kernel_rfl) ?_
                            (try simp only [Act.put, zl, z0, z1])
                            with_reducible refine stSkip (by kernel_rfl) ?_
                            (try simp only [Act.put, zl, z0, z1])
                            with_reducible refine stSkip (by kernel_rfl) ?_
                            (try simp only [Act.put, zl, z0, z1])
                            with_reducible refine stSkip (by kernel_rfl) ?_
                            (try simp only [Act.put, zl, z0, z1])
                            with_reducible refine stSkip (by kernel_rfl) ?_
                            (try simp only [Act.put, zl, z0, z1])
                            with_reducible refine stSkip (by kernel_rfl) ?_
                            (try simp only [Act.put, zl, z0, z1])
                            with_reducible refine stSkip (by kernel_rfl) ?_
                            (try simp only [Act.put, zl, z0, z1])
                            with_reducible refine stSkip (by kernel_rfl) ?_
                            (try simp only [Act.put, zl, z0, z1])
                            with_reducible refine stTake (v := ?_) (by kernel_rfl) ?_ ?_; rotate_left
                            · (go_simp; (try with_reducible rfl))
                            (try simp only [Act.put, zl, z0, z1])
                            with_reducible refine stTake (v := ?_) (by kernel_rfl) ?_ ?_; rotate_left
                            · (go_simp; (try with_reducible rfl))
                            (try simp only [Act.put, zl, z0, z1])
                            with_reducible refine stTake (v := ?_) (by kernel_rfl) ?_ ?_; rotate_left
                            · (go_simp; (try with_reducible rfl))
                            (try simp only [Act.put, zl, z0, z1])
                            refine wpStill_nil ?_
                            dsimp only [Exit.inBlock, Exit.then]
                            clear v10 v20 v21 vm h50 h51 u0 u1 u2 u3 u4
                            go_wp2_with fail
                            go_roundw
                            case rel => exact ⟨i + 1, false, by omega, by go_num, rfl, hide (by rw [HTK.out]; have := HQ.out; simp only [List.mem_append, List.mem_singleton]; constructor; (intro h; cases h); (rintro (h | ⟨y, hy | rfl, h1, h2, h3, h4⟩); exact absurd (this.2 (.inl h)) (by simp); exact absurd (this.2 (.inr ⟨y, hy, h1, h2, h3, h4⟩)) (by simp); exact absurd h3 (by simpa using P3'.out))), HV4⟩
                            case measure => simp [intOf]; omega
                          · obtain ⟨b4, hb4⟩ : ∃ b, decide (x.hour ≤ s) = b := ⟨_, rfl⟩
                            have P4 := hide hb4
                            have P4' := hide (show decide (x.hour ≤ s) = b4 from hb4)
                            clear hb4
                            cases b4
                            · refine wp_last ?_
                              obtain ⟨V, hV⟩ : ∃ V, wr.drew = V := ⟨_, rfl⟩
                              have HV4 := hide (show Below w4.heap.size w4 V by rw [← hV]; exact zbD HR5.out)
                              refine wp_region_still_lit (by kernel_rfl) (by kernel_rfl) ?_
                              change wpStill _ _ wr.drew (fun a' => Exit.then _ _ Exit.normal a' wr.drew) _ _
                              rw [hV]
                              clear hV
                              have v10 : V.cell? ⟨g1, 0, none⟩ = some (.slice (some ⟨bm, om, none⟩) M1.length c1) := (blk_cell ((HV4.out.block _ (blk_lt HE14.out)).trans HE14.out) 0).trans rfl
                              have v20 : V.cell? ⟨g2, 0, none⟩ = some (.slice D1 M2.length e1) := (blk_cell ((HV4.out.block _ (blk_lt HE2.out)).trans HE2.out) 0).trans rfl
                              have v21 : V.cell? ⟨g2, 1, none⟩ = some (.slice D2 C2.length e2) := (blk_cell ((HV4.out.block _ (blk_lt HE2.out)).trans HE2.out) 1).trans rfl
                              obtain ⟨bm', om', hAm, _, vm⟩ := (RM1.out.below HV4.out) k m HMK.out
                              injection hAm with hAm
                              injection hAm with hAm1 hAm2
                              subst hAm1 hAm2
                              have h50 : V.cell? ⟨w.heap.size + 1, 0, none⟩ = some (.int .i64 a) := by rw [HGH.out]; exact (blk_cell ((HV4.out.block _ (blk_lt HA4.out)).trans HA4.out) 0).trans rfl
                              have h51 : V.cell? ⟨w.heap.size + 1, 1, none⟩ = some (.int .i64 s) := by rw [HGH.out]; exact (blk_cell ((HV4.out.block _ (blk_lt HA4.out)).trans HA4.out) 1).trans rfl
                              obtain ⟨bx, ox, hAx, _, u0, u1, u2, u3, u4⟩ := (RL.out.below HV4.out) i x HX.out
                              subst hAx
                              with_reducible refine stTake (v := ?_) (by kernel_rfl) ?_ ?_; rotate_left
                              · (go_simp; (try with_reducible rfl))
                              (try simp only [Act.put, zl, z0, z1])
                              with_reducible refine stTake (v := ?_) (by kernel_rfl) ?_ ?_; rotate_left
                              · (go_simp; (try with_reducible rfl))
                              (try simp only [Act.put, zl, z0, z1])
                              with_reducible refine stTake (v := ?_) (by kernel_rfl) ?_ ?_; rotate_left
                              · (go_simp; (try with_reducible rfl))
                              (try simp only [Act.put, zl, z0, z1])
                              with_reducible refine stTake (v := ?_) (by kernel_rfl) ?_ ?_; rotate_left
                              · (go_simp; (try with_reducible rfl))
                              (try simp only [Act.put, zl, z0, z1])
                              with_reducible refine stTake (v := ?_) (by kernel_rfl) ?_ ?_; rotate_left
                              · (go_simp; (try with_reducible rfl))
                              (try simp only [Act.put, zl, z0, z1])
                              with_reducible refine stTake (v := ?_) (by kernel_rfl) ?_ ?_; rotate_left
                              · (go_simp; (try with_reducible rfl))
                              (try simp only [Act.put, zl, z0, z1])
                              with_reducible refine stTake (v := ?_) (by kernel_rfl) ?_ ?_; rotate_left
                              · (go_simp; (try with_reducible rfl))
                              (try simp only [Act.put, zl, z0, z1])
                              with_reducible refine stTake (v := ?_) (by kernel_rfl) ?_ ?_; rotate_left
                              · (go_simp; (try with_reducible rfl))
                              (try simp only [Act.put, zl, z0, z1])
                              with_reducible refine stTake (v := ?_) (by kernel_rfl) ?_ ?_; rotate_left
                              · (go_simp; (try with_reducible rfl))
                              (try simp only [Act.put, zl, z0, z1])
                              with_reducible refine stTake (v := ?_) (by kernel_rfl) ?_ ?_; rotate_left
                              · (go_simp; (try with_reducible rfl))
                              (try simp only [Act.put, zl, z0, z1])
                              with_reducible refine stTake (v := ?_) (by kernel_rfl) ?_ ?_; rotate_left
                              · (go_simp; (try with_reducible rfl))
                              (try simp only [Act.put, zl, z0, z1])
                              with_reducible refine stTake (v := ?_) (by kernel_rfl) ?_ ?_; rotate_left
                              · (go_simp; (try with_reducible rfl))
                              (try simp only [Act.put, zl, z0, z1])
                              with_reducible refine stTake (v := ?_) (by kernel_rfl) ?_ ?_; rotate_left
                              · (go_simp; (try simp only [P1.out, P1'.out]); (try with_reducible rfl))
                              (try simp only [Act.put, zl, z0, z1])
                              with_reducible refine stTake (v := ?_) (by kernel_rfl) ?_ ?_; rotate_left
                              · (go_simp; (try with_reducible rfl))
                              (try simp only [Act.put, zl, z0, z1])
                              with_reducible refine stTake (v := ?_) (by kernel_rfl) ?_ ?_; rotate_left
                              · (go_simp; (try with_reducible rfl))
                              (try simp only [Act.put, zl, z0, z1])
                              with_reducible refine stTake (v := ?_) (by kernel_rfl) ?_ ?_; rotate_left
                              · (go_simp; (try with_reducible rfl))
                              (try simp only [Act.put, zl, z0, z1])
                              with_reducible refine stTake (v := ?_) (by kernel_rfl) ?_ ?_; rotate_left
                              · (go_simp; (try with_reducible rfl))
                              (try simp only [Act.put, zl, z0, z1])
                              with_reducible refine stTake (v := ?_) (by kernel_rfl) ?_ ?_; rotate_left
                              · (go_simp; (try with_reducible rfl))
                              (try simp only [Act.put, zl, z0, z1])
                              with_reducible refine stTake (v := ?_) (by kernel_rfl) ?_ ?_; rotate_left
                              · (go_simp; (try with_reducible rfl))
                              (try simp only [Act.put, zl, z0, z1])
                              with_reducible refine stTake (v := ?_) (by kernel_rfl) ?_ ?_; rotate_left
                              · (go_simp; (try simp only [P2.out, P2'.out]); (try with_reducible rfl))
                              (try simp only [Act.put, zl, z0, z1])
                              with_reducible refine stTake (v := ?_) (by kernel_rfl) ?_ ?_; rotate_left
                              · (go_simp; (try with_reducible rfl))
                              (try simp only [Act.put, zl, z0, z1])
                              with_reducible refine stTake (v := ?_) (by kernel_rfl) ?_ ?_; rotate_left
                              · (go_simp; (try with_reducible rfl))
                              (try simp only [Act.put, zl, z0, z1])
                              with_reducible refine stTake (v := ?_) (by kernel_rfl) ?_ ?_; rotate_left
                              · (go_simp; (try with_reducible rfl))
                              (try simp only [Act.put, zl, z0, z1])
                              with_reducible refine stTake (v := ?_) (by kernel_rfl) ?_ ?_; rotate_left
                              · (go_simp; (try with_reducible rfl))
                              (try simp only [Act.put, zl, z0, z1])
                              with_reducible refine stTake (v := ?_) (by kernel_rfl) ?_ ?_; rotate_left
                              · (go_simp; (try with_reducible rfl))
                              (try simp only [Act.put, zl, z0, z1])
                              with_reducible refine stTake (v := ?_) (by kernel_rfl) ?_ ?_; rotate_left
                              · (go_simp; (try with_reducible rfl))
                              (try simp only [Act.put, zl, z0, z1])
                              with_reducible refine stTake (v := ?_) (by kernel_rfl) ?_ ?_; rotate_left
                              · (go_simp; (try with_reducible rfl))
                              (try simp only [Act.put, zl, z0, z1])
                              with_reducible refine stTake (v := ?_) (by kernel_rfl) ?_ ?_; rotate_left
                              · (go_simp; (try with_reducible rfl))
                              (try simp only [Act.put, zl, z0, z1])
                              with_reducible refine stTake (v := ?_) (by kernel_rfl) ?_ ?_; rotate_left
                              · (go_simp; (try with_reducible rfl))
                              (try simp only [Act.put, zl, z0, z1])
                              with_reducible refine stTake (v := ?_) (by kernel_rfl) ?_ ?_; rotate_left
                              · (go_simp; (try simp only [P3.out, P3'.out]); (try with_reducible rfl))
                              (try simp only [Act.put, zl, z0, z1])
                              with_reducible refine stTake (v := ?_) (by kernel_rfl) ?_ ?_; rotate_left
                              · (go_simp; (try with_reducible rfl))
                              (try simp only [Act.put, zl, z0, z1])
                              with_reducible refine stTake (v := ?_) (by kernel_rfl) ?_ ?_; rotate_left
                              · (go_simp; (try with_reducible rfl))
                              (try simp only [Act.put, zl, z0, z1])
                              with_reducible refine stTake (v := ?_) (by kernel_rfl) ?_ ?_; rotate_left
                              · (go_simp; (try with_reducible rfl))
                              (try simp only [Act.put, zl, z0, z1])
                              with_reducible refine stTake (v := ?_) (by kernel_rfl) ?_ ?_; rotate_left
                              · (go_simp; (try with_reducible rfl))
                              (try simp only [Act.put, zl, z0, z1])
                              with_reducible refine stTake (v := ?_) (by kernel_rfl) ?_ ?_; rotate_left
                              · (go_simp; (try with_reducible rfl))
                              (try simp only [Act.put, zl, z0, z1])
                              with_reducible refine stTake (v := ?_) (by kernel_rfl) ?_ ?_; rotate_left
                              · (go_simp; (try with_reducible rfl))
                              (try simp only [Act.put, zl, z0, z1])
                              with_reducible refine stTake (v := ?_) (by kernel_rfl) ?_ ?_; rotate_left
                              · (go_simp; (try with_reducible rfl))
                              (try simp only [Act.put, zl, z0, z1])
                              with_reducible refine stTake (v := ?_) (by kernel_rfl) ?_ ?_; rotate_left
                              · (go_simp; (try with_reducible rfl))
                              (try simp only [Act.put, zl, z0, z1])
                              with_reducible refine stTake (v := ?_) (by kernel_rfl) ?_ ?_; rotate_left
                              · (go_simp; (try with_reducible rfl))
                              (try simp only [Act.put, zl, z0, z1])
                              with_reducible refine stTake (v := ?_) (by kernel_rfl) ?_ ?_; rotate_left
                              · (go_simp; (try simp only [P4.out, P4'.out]); (try with_reducible rfl))
                              (try simp only [Act.put, zl, z0, z1])
                              with_reducible refine stTake (v := ?_) (by kernel_rfl) ?_ ?_; rotate_left
                              · (go_simp; (try with_reducible rfl))
                              (try simp only [Act.put, zl, z0, z1])
                              with_reducible refine stTake (v := ?_) (by kernel_rfl) ?_ ?_; rotate_left
                              · (go_simp; (try with_reducible rfl))
                              (try simp only [Act.put, zl, z0, z1])
                              with_reducible refine stTake (v := ?_) (by kernel_rfl) ?_ ?_; rotate_left
                              · (go_simp; (try with_reducible rfl))
                              (try simp only [Act.put, zl, z0, z1])
                              refine wpStill_nil ?_
                              dsimp only [Exit.inBlock, Exit.then]
                              clear v10 v20 v21 vm h50 h51 u0 u1 u2 u3 u4
                              go_wp2_with fail
                              go_roundw
                              case rel => exact ⟨i + 1, false, by omega, by go_num, rfl, hide (by rw [HTK.out]; have := HQ.out; simp only [List.mem_append, List.mem_singleton]; constructor; (intro h; cases h); (rintro (h | ⟨y, hy | rfl, h1, h2, h3, h4⟩); exact absurd (this.2 (.inl h)) (by simp); exact absurd (this.2 (.inr ⟨y, hy, h1, h2, h3, h4⟩)) (by simp); exact absurd h4 (by simpa using P4'.out))), HV4⟩
                              case measure => simp [intOf]; omega
                            · refine wp_last ?_
                              obtain ⟨V, hV⟩ : ∃ V, wr.drew = V := ⟨_, rfl⟩
                              have HV4 := hide (show Below w4.heap.size w4 V by rw [← hV]; exact zbD HR5.out)
                              refine wp_region_still_lit (by kernel_rfl) (by kernel_rfl) ?_
                              change wpStill _ _ wr.drew (fun a' => Exit.then _ _ Exit.normal a' wr.drew) _ _
                              rw [hV]
                              clear hV
                              have v10 : V.cell? ⟨g1, 0, none⟩ = some (.slice (some ⟨bm, om, none⟩) M1.length c1) := (blk_cell ((HV4.out.block _ (blk_lt HE14.out)).trans HE14.out) 0).trans rfl
                              have v20 : V.cell? ⟨g2, 0, none⟩ = some (.slice D1 M2.length e1) := (blk_cell ((HV4.out.block _ (blk_lt HE2.out)).trans HE2.out) 0).trans rfl
                              have v21 : V.cell? ⟨g2, 1, none⟩ = some (.slice D2 C2.length e2) := (blk_cell ((HV4.out.block _ (blk_lt HE2.out)).trans HE2.out) 1).trans rfl
                              obtain ⟨bm', om', hAm, _, vm⟩ := (RM1.out.below HV4.out) k m HMK.out
                              injection hAm with hAm
                              injection hAm with hAm1 hAm2
                              subst hAm1 hAm2
                              have h50 : V.cell? ⟨w.heap.size + 1, 0, none⟩ = some (.int .i64 a) := by rw [HGH.out]; exact (blk_cell ((HV4.out.block _ (blk_lt HA4.out)).trans HA4.out) 0).trans rfl
                              have h51 : V.cell? ⟨w.heap.size + 1, 1, none⟩ = some (.int .i64 s) := by rw [HGH.out]; exact (blk_cell ((HV4.out.block _ (blk_lt HA4.out)).trans HA4.out) 1).trans rfl
                              obtain ⟨bx, ox, hAx, _, u0, u1, u2, u3, u4⟩ := (RL.out.below HV4.out) i x HX.out
                              subst hAx
                              with_reducible refine stTake (v := ?_) (by kernel_rfl) ?_ ?_; rotate_left
                              · (go_simp; (try with_reducible rfl))
                              (try simp only [Act.put, zl, z0, z1])
                              with_reducible refine stTake (v := ?_) (by kernel_rfl) ?_ ?_; rotate_left
                              · (go_simp; (try with_reducible rfl))
                              (try simp only [Act.put, zl, z0, z1])
                              with_reducible refine stTake (v := ?_) (by kernel_rfl) ?_ ?_; rotate_left
                              · (go_simp; (try with_reducible rfl))
                              (try simp only [Act.put, zl, z0, z1])
                              with_reducible refine stTake (v := ?_) (by kernel_rfl) ?_ ?_; rotate_left
                              · (go_simp; (try with_reducible rfl))
                              (try simp only [Act.put, zl, z0, z1])
                              with_reducible refine stTake (v := ?_) (by kernel_rfl) ?_ ?_; rotate_left
                              · (go_simp; (try with_reducible rfl))
                              (try simp only [Act.put, zl, z0, z1])
                              with_reducible refine stTake (v := ?_) (by kernel_rfl) ?_ ?_; rotate_left
                              · (go_simp; (try with_reducible rfl))
                              (try simp only [Act.put, zl, z0, z1])
                              with_reducible refine stTake (v := ?_) (by kernel_rfl) ?_ ?_; rotate_left
                              · (go_simp; (try with_reducible rfl))
                              (try simp only [Act.put, zl, z0, z1])
                              with_reducible refine stTake (v := ?_) (by kernel_rfl) ?_ ?_; rotate_left
                              · (go_simp; (try with_reducible rfl))
                              (try simp only [Act.put, zl, z0, z1])
                              with_reducible refine stTake (v := ?_) (by kernel_rfl) ?_ ?_; rotate_left
                              · (go_simp; (try with_reducible rfl))
                              (try simp only [Act.put, zl, z0, z1])
                              with_reducible refine stTake (v := ?_) (by kernel_rfl) ?_ ?_; rotate_left
                              · (go_simp; (try with_reducible rfl))
                              (try simp only [Act.put, zl, z0, z1])
                              with_reducible refine stTake (v := ?_) (by kernel_rfl) ?_ ?_; rotate_left
                              · (go_simp; (try with_reducible rfl))
                              (try simp only [Act.put, zl, z0, z1])
                              with_reducible refine stTake (v := ?_) (by kernel_rfl) ?_ ?_; rotate_left
                              · (go_simp; (try with_reducible rfl))
                              (try simp only [Act.put, zl, z0, z1])
                              with_reducible refine stTake (v := ?_) (by kernel_rfl) ?_ ?_; rotate_left
                              · (go_simp; (try simp only [P1.out, P1'.out]); (try with_reducible rfl))
                              (try simp only [Act.put, zl, z0, z1])
                              with_reducible refine stTake (v := ?_) (by kernel_rfl) ?_ ?_; rotate_left
                              · (go_simp; (try with_reducible rfl))
                              (try simp only [Act.put, zl, z0, z1])
                              with_reducible refine stTake (v := ?_) (by kernel_rfl) ?_ ?_; rotate_left
                              · (go_simp; (try with_reducible rfl))
                              (try simp only [Act.put, zl, z0, z1])
                              with_reducible refine stTake (v := ?_) (by kernel_rfl) ?_ ?_; rotate_left
                              · (go_simp; (try with_reducible rfl))
                              (try simp only [Act.put, zl, z0, z1])
                              with_reducible refine stTake (v := ?_) (by kernel_rfl) ?_ ?_; rotate_left
                              · (go_simp; (try with_reducible rfl))
                              (try simp only [Act.put, zl, z0, z1])
                              with_reducible refine stTake (v := ?_) (by kernel_rfl) ?_ ?_; rotate_left
                              · (go_simp; (try with_reducible rfl))
                              (try simp only [Act.put, zl, z0, z1])
                              with_reducible refine stTake (v := ?_) (by kernel_rfl) ?_ ?_; rotate_left
                              · (go_simp; (try with_reducible rfl))
                              (try simp only [Act.put, zl, z0, z1])
                              with_reducible refine stTake (v := ?_) (by kernel_rfl) ?_ ?_; rotate_left
                              · (go_simp; (try simp only [P2.out, P2'.out]); (try with_reducible rfl))
                              (try simp only [Act.put, zl, z0, z1])
                              with_reducible refine stTake (v := ?_) (by kernel_rfl) ?_ ?_; rotate_left
                              · (go_simp; (try with_reducible rfl))
                              (try simp only [Act.put, zl, z0, z1])
                              with_reducible refine stTake (v := ?_) (by kernel_rfl) ?_ ?_; rotate_left
                              · (go_simp; (try with_reducible rfl))
                              (try simp only [Act.put, zl, z0, z1])
                              with_reducible refine stTake (v := ?_) (by kernel_rfl) ?_ ?_; rotate_left
                              · (go_simp; (try with_reducible rfl))
                              (try simp only [Act.put, zl, z0, z1])
                              with_reducible refine stTake (v := ?_) (by kernel_rfl) ?_ ?_; rotate_left
                              · (go_simp; (try with_reducible rfl))
                              (try simp only [Act.put, zl, z0, z1])
                              with_reducible refine stTake (v := ?_) (by kernel_rfl) ?_ ?_; rotate_left
                              · (go_simp; (try with_reducible rfl))
                              (try simp only [Act.put, zl, z0, z1])
                              with_reducible refine stTake (v := ?_) (by kernel_rfl) ?_ ?_; rotate_left
                              · (go_simp; (try with_reducible rfl))
                              (try simp only [Act.put, zl, z0, z1])
                              with_reducible refine stTake (v := ?_) (by kernel_rfl) ?_ ?_; rotate_left
                              · (go_simp; (try with_reducible rfl))
                              (try simp only [Act.put, zl, z0, z1])
                              with_reducible refine stTake (v := ?_) (by kernel_rfl) ?_ ?_; rotate_left
                              · (go_simp; (try with_reducible rfl))
                              (try simp only [Act.put, zl, z0, z1])
                              with_reducible refine stTake (v := ?_) (by kernel_rfl) ?_ ?_; rotate_left
                              · (go_simp; (try with_reducible rfl))
                              (try simp only [Act.put, zl, z0, z1])
                              with_reducible refine stTake (v := ?_) (by kernel_rfl) ?_ ?_; rotate_left
                              · (go_simp; (try simp only [P3.out, P3'.out]); (try with_reducible rfl))
                              (try simp only [Act.put, zl, z0, z1])
                              with_reducible refine stTake (v := ?_) (by kernel_rfl) ?_ ?_; rotate_left
                              · (go_simp; (try with_reducible rfl))
                              (try simp only [Act.put, zl, z0, z1])
                              with_reducible refine stTake (v := ?_) (by kernel_rfl) ?_ ?_; rotate_left
                              · (go_simp; (try with_reducible rfl))
                              (try simp only [Act.put, zl, z0, z1])
                              with_reducible refine stTake (v := ?_) (by kernel_rfl) ?_ ?_; rotate_left
                              · (go_simp; (try with_reducible rfl))
                              (try simp only [Act.put, zl, z0, z1])
                              with_reducible refine stTake (v := ?_) (by kernel_rfl) ?_ ?_; rotate_left
                              · (go_simp; (try with_reducible rfl))
                              (try simp only [Act.put, zl, z0, z1])
                              with_reducible refine stTake (v := ?_) (by kernel_rfl) ?_ ?_; rotate_left
                              · (go_simp; (try with_reducible rfl))
                              (try simp only [Act.put, zl, z0, z1])
                              with_reducible refine stTake (v := ?_) (by kernel_rfl) ?_ ?_; rotate_left
                              · (go_simp; (try with_reducible rfl))
                              (try simp only [Act.put, zl, z0, z1])
                              with_reducible refine stTake (v := ?_) (by kernel_rfl) ?_ ?_; rotate_left
                              · (go_simp; (try with_reducible rfl))
                              (try simp only [Act.put, zl, z0, z1])
                              with_reducible refine stTake (v := ?_) (by kernel_rfl) ?_ ?_; rotate_left
                              · (go_simp; (try with_reducible rfl))
                              (try simp only [Act.put, zl, z0, z1])
                              with_reducible refine stTake (v := ?_) (by kernel_rfl) ?_ ?_; rotate_left
                              · (go_simp; (try with_reducible rfl))
                              (try simp only [Act.put, zl, z0, z1])
                              with_reducible refine stTake (v := ?_) (by kernel_rfl) ?_ ?_; rotate_left
                              · (go_simp; (try simp only [P4.out, P4'.out]); (try with_reducible rfl))
                              (try simp only [Act.put, zl, z0, z1])
                              with_reducible refine stTake (v := ?_) (by kernel_rfl) ?_ ?_; rotate_left
                              · (go_simp; (try with_reducible rfl))
                              (try simp only [Act.put, zl, z0, z1])
                              with_reducible refine stTake (v := ?_) (by kernel_rfl) ?_ ?_; rotate_left
                              · (go_simp; (try with_reducible rfl))
                              (try simp only [Act.put, zl, z0, z1])
                              with_reducible refine stTake (v := ?_) (by kernel_rfl) ?_ ?_; rotate_left
                              · (go_simp; (try with_reducible rfl))
                              (try simp only [Act.put, zl, z0, z1])
                              refine wpStill_nil ?_
                              dsimp only [Exit.inBlock, Exit.then]
                              clear v10 v20 v21 vm h50 h51 u0 u1 u2 u3 u4
                              go_wp2_with fail
                              go_roundw
                              case rel => exact ⟨i + 1, true, by omega, by go_num, rfl, hide (by rw [HTK.out]; simp only [List.mem_append, List.mem_singleton, true_iff]; exact .inr ⟨x, .inr rfl, by simpa using P1'.out, by simpa using P2'.out, by simpa using P3'.out, by simpa using P4'.out⟩), HV4⟩
                              case measure => simp [intOf]; omega
                    · refine wp_last ?_
                      obtain ⟨V, hV⟩ : ∃ V, wr.drew = V := ⟨_, rfl⟩
                      have HV4 := hide (show Below w4.heap.size w4 V by rw [← hV]; exact zbD HR5.out)
                      refine wp_region_still_lit (by kernel_rfl) (by kernel_rfl) ?_
                      change wpStill _ _ wr.drew (fun a' => Exit.then _ _ Exit.normal a' wr.drew) _ _
                      rw [hV]
                      clear hV
                      have v10 : V.cell? ⟨g1, 0, none⟩ = some (.slice (some ⟨bm, om, none⟩) M1.length c1) := (blk_cell ((HV4.out.block _ (blk_lt HE14.out)).trans HE14.out) 0).trans rfl
                      have v20 : V.cell? ⟨g2, 0, none⟩ = some (.slice D1 M2.length e1) := (blk_cell ((HV4.out.block _ (blk_lt HE2.out)).trans HE2.out) 0).trans rfl
                      have v21 : V.cell? ⟨g2, 1, none⟩ = some (.slice D2 C2.length e2) := (blk_cell ((HV4.out.block _ (blk_lt HE2.out)).trans HE2.out) 1).trans rfl
                      obtain ⟨bm', om', hAm, _, vm⟩ := (RM1.out.below HV4.out) k m HMK.out
                      injection hAm with hAm
                      injection hAm with hAm1 hAm2
                      subst hAm1 hAm2
                      have h50 : V.cell? ⟨w.heap.size + 1, 0, none⟩ = some (.int .i64 a) := by rw [HGH.out]; exact (blk_cell ((HV4.out.block _ (blk_lt HA4.out)).trans HA4.out) 0).trans rfl
                      have h51 : V.cell? ⟨w.heap.size + 1, 1, none⟩ = some (.int .i64 s) := by rw [HGH.out]; exact (blk_cell ((HV4.out.block _ (blk_lt HA4.out)).trans HA4.out) 1).trans rfl
                      obtain ⟨bx, ox, hAx, _, u0, u1, u2, u3, u4⟩ := (RL.out.below HV4.out) i x HX.out
                      subst hAx
                      with_reducible refine stTake (v := ?_) (by kernel_rfl) ?_ ?_; rotate_left
                      · (go_simp; (try with_reducible rfl))
                      (try simp only [Act.put, zl, z0, z1])
                      with_reducible refine stTake (v := ?_) (by kernel_rfl) ?_ ?_; rotate_left
                      · (go_simp; (try with_reducible rfl))
                      (try simp only [Act.put, zl, z0, z1])
                      with_reducible refine stSkip (by kernel_rfl) ?_
                      (try simp only [Act.put, zl, z0, z1])
                      with_reducible refine stSkip (by kernel_rfl) ?_
                      (try simp only [Act.put, zl, z0, z1])
                      with_reducible refine stSkip (by kernel_rfl) ?_
                      (try simp only [Act.put, zl, z0, z1])
                      with_reducible refine stSkip (by kernel_rfl) ?_
                      (try simp only [Act.put, zl, z0, z1])
                      with_reducible refine stSkip (by kernel_rfl) ?_
                      (try simp only [Act.put, zl, z0, z1])
                      with_reducible refine stSkip (by kernel_rfl) ?_
                      (try simp only [Act.put, zl, z0, z1])
                      with_reducible refine stSkip (by kernel_rfl) ?_
                      (try simp only [Act.put, zl, z0, z1])
                      with_reducible refine stSkip (by kernel_rfl) ?_
                      (try simp only [Act.put, zl, z0, z1])
                      with_reducible refine stSkip (by kernel_rfl) ?_
                      (try simp only [Act.put, zl, z0, z1])
                      with_reducible refine stSkip (by kernel_rfl) ?_
                      (try simp only [Act.put, zl, z0, z1])
                      with_reducible refine stSkip (by kernel_rfl) ?_
                      (try simp only [Act.put, zl, z0, z1])
                      with_reducible refine stSkip (by kernel_rfl) ?_
                      (try simp only [Act.put, zl, z0, z1])
                      with_reducible refine stSkip (by kernel_rfl) ?_
                      (try simp only [Act.put, zl, z0, z1])
                      with_reducible refine stSkip (by kernel_rfl) ?_
                      (try simp only [Act.put, zl, z0, z1])
                      with_reducible refine stSkip (by kernel_rfl) ?_
                      (try simp only [Act.put, zl, z0, z1])
                      with_reducible refine stSkip (by kernel_rfl) ?_
                      (try simp only [Act.put, zl, z0, z1])
                      with_reducible refine stSkip (by kernel_rfl) ?_
                      (try simp only [Act.put, zl, z0, z1])
                      with_reducible refine stSkip (by kernel_rfl) ?_
                      (try simp only [Act.put, zl, z0, z1])
                      with_reducible refine stSkip (by kernel_rfl) ?_
                      (try simp only [Act.put, zl, z0, z1])
                      with_reducible refine stSkip (by kernel_rfl) ?_
                      (try simp only [Act.put, zl, z0, z1])
                      with_reducible refine stSkip (by kernel_rfl) ?_
                      (try simp only [Act.put, zl, z0, z1])
                      with_reducible refine stSkip (by kernel_rfl) ?_
                      (try simp only [Act.put, zl, z0, z1])
                      with_reducible refine stSkip (by kernel_rfl) ?_
                      (try simp only [Act.put, zl, z0, z1])
                      with_reducible refine stSkip (by kernel_rfl) ?_
                      (try simp only [Act.put, zl, z0, z1])
                      with_reducible refine stSkip (by kernel_rfl) ?_
                      (try simp only [Act.put, zl, z0, z1])
                      with_reducible refine stSkip (by kernel_rfl) ?_
                      (try simp only [Act.put, zl, z0, z1])
                      with_reducible refine stSkip (by kernel_rfl) ?_
                      (try simp only [Act.put, zl, z0, z1])
                      with_reducible refine stSkip (by kernel_rfl) ?_
                      (try simp only [Act.put, zl, z0, z1])
                      with_reducible refine stSkip (by kernel_rfl) ?_
                      (try simp only [Act.put, zl, z0, z1])
                      with_reducible refine stSkip (by kernel_rfl) ?_
                      (try simp only [Act.put, zl, z0, z1])
                      with_reducible refine stSkip (by kernel_rfl) ?_
                      (try simp only [Act.put, zl, z0, z1])
                      with_reducible refine stSkip (by kernel_rfl) ?_
                      (try simp only [Act.put, zl, z0, z1])
                      with_reducible refine stSkip (by kernel_rfl) ?_
                      (try simp only [Act.put, zl, z0, z1])
                      with_reducible refine stSkip (by kernel_rfl) ?_
                      (try simp only [Act.put, zl, z0, z1])
                      with_reducible refine stSkip (by kernel_rfl) ?_
                      (try simp only [Act.put, zl, z0, z1])
                      with_reducible refine stSkip (by kernel_rfl) ?_
                      (try simp only [Act.put, zl, z0, z1])
                      with_reducible refine stSkip (by kernel_rfl) ?_
                      (try simp only [Act.put, zl, z0, z1])
                      with_reducible refine stSkip (by kernel_rfl) ?_
                      (try simp only [Act.put, zl, z0, z1])
                      with_reducible refine stSkip (by kernel_rfl) ?_
                      (try simp only [Act.put, zl, z0, z1])
                      with_reducible refine stTake (v := ?_) (by kernel_rfl) ?_ ?_; rotate_left
                      · (go_simp; (try with_reducible rfl))
                      (try simp only [Act.put, zl, z0, z1])
                      with_reducible refine stTake (v := ?_) (by kernel_rfl) ?_ ?_; rotate_left
                      · (go_simp; (try with_reducible rfl))
                      (try simp only [Act.put, zl, z0, z1])
                      refine wpStill_nil ?_
                      dsimp only [Exit.inBlock, Exit.then]
                      clear v10 v20 v21 vm h50 h51 u0 u1 u2 u3 u4
                      go_wp2_with fail
                      go_roundw
                      case rel => exact ⟨i + 1, true, by omega, by go_num, rfl, hide (by rw [HTK.out]; simp only [List.mem_append, List.mem_singleton, true_iff]; rcases HQ.out.1 rfl with h | ⟨y, hy, h⟩; exact .inl h; exact .inr ⟨y, .inl hy, h⟩), HV4⟩
                      case measure => simp [intOf]; omega
                  · have hine : i = n := by omega
                    subst hine
                    have htk : l.take i = l := List.take_of_length_le (by have := HN.out; omega)
                    have HQ2 := hide (show q = true ↔ (m ∈ C2 ∨ ∃ x ∈ l, x.player = m ∧ x.kind = 4 ∧ a < x.hour ∧ x.hour ≤ s) by have := HQ.out; rw [htk] at this; exact this)
                    have HCM := hide (show M2.contains m = !q by
                      have h1 := HST.out m (List.mem_of_getElem? HMK.out)
                      rw [← HQ2.out] at h1
                      rw [List.contains_eq_mem]
                      cases q
                      · exact decide_eq_true (h1.2 (by simp))
                      · exact decide_eq_false (fun h => h1.1 h rfl))
                    have hkm : (k : Int) < (M1.length : Int) := by omega
                    have hk0 : (0 : Int) ≤ (k : Int) := by omega
                    clear htk
                    go_upto_region 15 with fail
                    cases q
                    · obtain ⟨V, hV⟩ : ∃ V, wr.drew = V := ⟨_, rfl⟩
                      have HV4 := hide (show Below w4.heap.size w4 V by rw [← hV]; exact zbD HR5.out)
                      refine wp_region_still_lit (by kernel_rfl) (by kernel_rfl) ?_
                      change wpStill _ _ wr.drew (fun a' => Exit.then _ _ Exit.normal a' wr.drew) _ _
                      rw [hV]
                      clear hV
                      have v10 : V.cell? ⟨g1, 0, none⟩ = some (.slice (some ⟨bm, om, none⟩) M1.length c1) := (blk_cell ((HV4.out.block _ (blk_lt HE14.out)).trans HE14.out) 0).trans rfl
                      have v20 : V.cell? ⟨g2, 0, none⟩ = some (.slice D1 M2.length e1) := (blk_cell ((HV4.out.block _ (blk_lt HE2.out)).trans HE2.out) 0).trans rfl
                      have v21 : V.cell? ⟨g2, 1, none⟩ = some (.slice D2 C2.length e2) := (blk_cell ((HV4.out.block _ (blk_lt HE2.out)).trans HE2.out) 1).trans rfl
                      obtain ⟨bm', om', hAm, _, vm⟩ := (RM1.out.below HV4.out) k m HMK.out
                      injection hAm with hAm
                      injection hAm with hAm1 hAm2
                      subst hAm1 hAm2
                      with_reducible refine stTake (v := ?_) (by kernel_rfl) ?_ ?_; rotate_left
                      · (go_simp; (try with_reducible rfl))
                      (try simp only [Act.put, zl, z0, z1])
                      with_reducible refine stTake (v := ?_) (by kernel_rfl) ?_ ?_; rotate_left
                      · (go_simp; (try with_reducible rfl))
                      (try simp only [Act.put, zl, z0, z1])
                      with_reducible refine stTake (v := ?_) (by kernel_rfl) ?_ ?_; rotate_left
                      · (go_simp; (try with_reducible rfl))
                      (try simp only [Act.put, zl, z0, z1])
                      with_reducible refine stTake (v := ?_) (by kernel_rfl) ?_ ?_; rotate_left
                      · (go_simp; (try with_reducible rfl))
                      (try simp only [Act.put, zl, z0, z1])
                      with_reducible refine stTake (v := ?_) (by kernel_rfl) ?_ ?_; rotate_left
                      · (go_simp; (try with_reducible rfl))
                      (try simp only [Act.put, zl, z0, z1])
                      with_reducible refine stTake (v := ?_) (by kernel_rfl) ?_ ?_; rotate_left
                      · (go_simp; (try with_reducible rfl))
                      (try simp only [Act.put, zl, z0, z1])
                      with_reducible refine stTake (v := ?_) (by kernel_rfl) ?_ ?_; rotate_left
                      · (go_simp; (try with_reducible rfl))
                      (try simp only [Act.put, zl, z0, z1])
                      with_reducible refine stTake (v := ?_) (by kernel_rfl) ?_ ?_; rotate_left
                      · (go_simp; (try with_reducible rfl))
                      (try simp only [Act.put, zl, z0, z1])
                      with_reducible refine stCall (v := .bool true) (f := 21) (args := #[.slice D1 M2.length e1, .int .i64 m]) (by kernel_rfl) (by go_simp) ((has_any D1 M2.length e1 M2 m V rfl ((RM2.out.below HV4.out).mono HV4.out.size) (by have := HN2.out; omega)).mono (fun e w h => ⟨h.1.trans (by rw [HCM.out, Bool.not_false]), h.2.symm⟩)) ?_
                      (try simp only [Act.put, zl, z0, z1])
                      with_reducible refine stTake (v := ?_) (by kernel_rfl) ?_ ?_; rotate_left
                      · (go_simp; (try with_reducible rfl))
                      (try simp only [Act.put, zl, z0, z1])
                      refine wpStill_nil ?_
                      clear v10 v20 v21 vm
                      go_wp2_with fail
                      go_roundw
                      case rel => exact ⟨k + 1, by omega, by go_num, HV4⟩
                      case measure => simp [intOf]; omega
                    · obtain ⟨V, hV⟩ : ∃ V, wr.drew = V := ⟨_, rfl⟩
                      have HV4 := hide (show Below w4.heap.size w4 V by rw [← hV]; exact zbD HR5.out)
                      refine wp_region_still_lit (by kernel_rfl) (by kernel_rfl) ?_
                      change wpStill _ _ wr.drew (fun a' => Exit.then _ _ Exit.normal a' wr.drew) _ _
                      rw [hV]
                      clear hV
                      have v10 : V.cell? ⟨g1, 0, none⟩ = some (.slice (some ⟨bm, om, none⟩) M1.length c1) := (blk_cell ((HV4.out.block _ (blk_lt HE14.out)).trans HE14.out) 0).trans rfl
                      have v20 : V.cell? ⟨g2, 0, none⟩ = some (.slice D1 M2.length e1) := (blk_cell ((HV4.out.block _ (blk_lt HE2.out)).trans HE2.out) 0).trans rfl
                      have v21 : V.cell? ⟨g2, 1, none⟩ = some (.slice D2 C2.length e2) := (blk_cell ((HV4.out.block _ (blk_lt HE2.out)).trans HE2.out) 1).trans rfl
                      obtain ⟨bm', om', hAm, _, vm⟩ := (RM1.out.below HV4.out) k m HMK.out
                      injection hAm with hAm
                      injection hAm with hAm1 hAm2
                      subst hAm1 hAm2
                      with_reducible refine stTake (v := ?_) (by kernel_rfl) ?_ ?_; rotate_left
                      · (go_simp; (try with_reducible rfl))
                      (try simp only [Act.put, zl, z0, z1])
                      with_reducible refine stTake (v := ?_) (by kernel_rfl) ?_ ?_; rotate_left
                      · (go_simp; (try with_reducible rfl))
                      (try simp only [Act.put, zl, z0, z1])
                      with_reducible refine stTake (v := ?_) (by kernel_rfl) ?_ ?_; rotate_left
                      · (go_simp; (try with_reducible rfl))
                      (try simp only [Act.put, zl, z0, z1])
                      with_reducible refine stTake (v := ?_) (by kernel_rfl) ?_ ?_; rotate_left
                      · (go_simp; (try with_reducible rfl))
                      (try simp only [Act.put, zl, z0, z1])
                      with_reducible refine stTake (v := ?_) (by kernel_rfl) ?_ ?_; rotate_left
                      · (go_simp; (try with_reducible rfl))
                      (try simp only [Act.put, zl, z0, z1])
                      with_reducible refine stTake (v := ?_) (by kernel_rfl) ?_ ?_; rotate_left
                      · (go_simp; (try with_reducible rfl))
                      (try simp only [Act.put, zl, z0, z1])
                      with_reducible refine stTake (v := ?_) (by kernel_rfl) ?_ ?_; rotate_left
                      · (go_simp; (try with_reducible rfl))
                      (try simp only [Act.put, zl, z0, z1])
                      with_reducible refine stTake (v := ?_) (by kernel_rfl) ?_ ?_; rotate_left
                      · (go_simp; (try with_reducible rfl))
                      (try simp only [Act.put, zl, z0, z1])
                      with_reducible refine stCall (v := .bool false) (f := 21) (args := #[.slice D1 M2.length e1, .int .i64 m]) (by kernel_rfl) (by go_simp) ((has_any D1 M2.length e1 M2 m V rfl ((RM2.out.below HV4.out).mono HV4.out.size) (by have := HN2.out; omega)).mono (fun e w h => ⟨h.1.trans (by rw [HCM.out, Bool.not_true]), h.2.symm⟩)) ?_
                      (try simp only [Act.put, zl, z0, z1])
                      with_reducible refine stTake (v := ?_) (by kernel_rfl) ?_ ?_; rotate_left
                      · (go_simp; (try with_reducible rfl))
                      (try simp only [Act.put, zl, z0, z1])
                      refine wpStill_nil ?_
                      clear v10 v20 v21 vm
                      go_wp2_with fail
                      go_roundw
                      case rel => exact ⟨k + 1, by omega, by go_num, HV4⟩
                      case measure => simp [intOf]; omega
              · have hkn : k = M1.length := by omega
                subst hkn
                have HBR := hide (zbT HB4.out HR4.out HB4.out.size)
                go_wp2_with (go_at_call 11; refine (works_any _).mono ?_; rintro e w9 ⟨rfl, hb9⟩; have HB9 := hide (zbT HBR.out hb9 HBR.out.size); clear hb9)
                go_ret
                exact ⟨rfl, HB0.out.trans (HB9.out.mono HB0.out.size)⟩

end Go.Proofs.Ytlfifgmbiejaiaa

namespace Go.Proofs.Ytlfifgmbiejaiaa
open Go.ChangeShapes Go.WideShapes Go.ChangeAt Go.RowKit Go.Deep Go.Joins
attribute [local go_sem ↓] Go.wp_at_zero Go.wp_at_succ

set_option maxHeartbeats 1600000 in
set_option maxRecDepth 100000 in
theorem staysLaw_long (f : E.Fd) (A : Option Addr) (n c : Nat) (a s : Int) (w : World) (hn : 100 < n) :
    Calls Try.prog 7 #[.agg #[.int .i64 f.places, .int .i64 f.wilds, .int .i64 f.guards, .int .i64 f.close, .int .i64 f.freeze], .slice A n c, .agg #[.int .i64 a, .int .i64 s]] w fun e w' => e = .returned (.bool true) ∧ Below w.heap.size w w' := by
  have HR := fun W => hide (ready_long f A n c W hn)
  clear hn
  go_enter Try.func7, Try.ntmps7
  go_wp2_with (first | (go_at_call 19; refine (HR _).out.mono ?_; rintro e w1 ⟨rfl, hb1⟩; have HB1 := hide (zbT (show Below w.heap.size w _ by (repeat' first | exact zbR _ _ | assumption | refine zbD ?_ | refine zbA ?_ ?_ _ | refine zbS ?_ ?_ _ | refine zbT ?_ (by assumption) ?_ | (simp; done) | (simp; omega) | omega)) hb1 (by simp; omega)); clear hb1) | (go_at_call 11; refine (works_any _).mono ?_; rintro e w9 ⟨rfl, hb9⟩; have HB9 := hide (zbT HB1.out hb9 HB1.out.size); clear hb9))
  go_ret
  exact ⟨rfl, HB9.out⟩
theorem staysLaw_all (f : E.Fd) (A : Option Addr) (n c : Nat) (l : List E.Nt) (a s : Int) (w : World) (hn : l.length = n) (hr : RdN w w.heap.size A l) (hid : ∀ x ∈ l, (Lit.int .i64 x.id).wf = true) :
    Calls Try.prog 7 #[.agg #[.int .i64 f.places, .int .i64 f.wilds, .int .i64 f.guards, .int .i64 f.close, .int .i64 f.freeze], .slice A n c, .agg #[.int .i64 a, .int .i64 s]] w fun e w' => e = .returned (.bool true) ∧ Below w.heap.size w w' := by
  by_cases h1 : n ≤ 1000000
  · exact staysLaw_any f A n c l a s w hn hr hid h1
  · exact staysLaw_long f A n c a s w (by omega)

theorem Try.ownEntryStays : ownKnob Try.prog.godebug = none := by kernel_rfl

set_option maxRecDepth 100000 in
theorem entryStays_call (H : Type) (enc : TypeId × Value → H) (W : World) (base : Nat) (args : Array Value) (ds : List (DataW H)) (p : List MemPlace) (hval : ∀ (j : Nat) t v, Try.f7.params[j]? = some t → args[j]? = some v → Value.okWide Try.prog W .any base t v)
    (hA : DataW.TrodAll enc Try.prog W 0 (fun _ => true) true Try.f7.params.toList args.toList ds p) : Calls Try.prog 7 args W fun e W' => e = .returned (.bool true) ∧ Below W.heap.size W W' := by
  rw [Try.params7] at hA hval
  obtain ⟨v0, v1, v2, d0, d1, d2, p0, p1, p2, rfl, rfl, rfl, h0, h1, h2⟩ := trodAll_three hA
  obtain ⟨x0, rfl⟩ := open_field (hval 0 23 v0 rfl rfl) h0
  obtain ⟨A1, n1, c1, l1, rfl, hle1, hmx1, hn1, hr1, hno1, hwf1⟩ := open_notices h1 (okWide_slice Try.underlying24 (hval 1 24 v1 rfl rfl))
  obtain ⟨a2, b2, rfl⟩ := open_hours (hval 2 52 v2 rfl rfl) h2
  exact staysLaw_all x0 A1 n1 c1 l1 a2 b2 W hn1 hr1 hwf1

set_option maxRecDepth 100000 in
theorem EntryStays_holds : Rows.EntryStaysSaid :=
  OpenClaim.holds_of_wide (p := Try.pinned) (s := Rows.entryStaysSpec) (c := Rows.entryStaysRow) 7 Try.f7 rfl rfl rfl rfl rfl rfl rfl ⟨rfl, rfl, rfl, rfl, rfl⟩ rfl rfl rfl rfl rfl (by kernel_rfl) Try.func7 (by kernel_rfl)
    (of_decide_eq_true (by kernel_rfl)) (by unfold Func.isWrapper; first | (rw [if_pos (by decide +kernel)]; kernel_rfl) | (rw [if_neg (by decide +kernel)]; exact ⟨rfl, rfl⟩))
    (fun os started H enc _ => law_lift (C := Try.checked) (F := 7) (fn := Try.f7) (s := Rows.entryStaysSpec) (bt := 4) started Try.ownEntryStays (by kernel_rfl) Try.func7 (by kernel_rfl) Try.underlying4 rfl laidOut (of_decide_eq_true (by kernel_rfl))
      (fun ds hds => match ds, hds with | [_, _, _], _ => rfl)
      (ChangeSpec.witness6 (enc := enc) (C := Try.checked) false ⟨#[], #[.agg #[.int .i64 0, .int .i64 0, .int .i64 0, .int .i64 0, .int .i64 0], .slice none 0 0, .agg #[.int .i64 0, .int .i64 0]], []⟩ 8 (by kernel_rfl) (by kernel_rfl) (by kernel_rfl) (by kernel_rfl))
      (fun W base args ds p hval hA _ => entryStays_call H enc W base args ds p hval hA) _ _ _)

end Go.Proofs.Ytlfifgmbiejaiaa
