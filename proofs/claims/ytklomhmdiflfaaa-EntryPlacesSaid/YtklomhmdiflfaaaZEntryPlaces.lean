/-
  For every field, all notices and whatever hour the law EntryPlaces returns true and leaves its arguments as they were. No condition.
-/
import Derived.BigQuiet
import Derived.Test.YtklomhmdiflfaaaProg
import Derived.StillTail
import Derived.Deep.Cut
import Derived.Deep.CutRange
import Derived.Test.YtklomhmdiflfaaaZB02
import Derived.Test.YtklomhmdiflfaaaZB06
namespace Go.Proofs.Ytklomhmdiflfaaa
namespace E

def St.greedy (s : St) : List Int := St.fill s false s.order [] 0
theorem fill_keep {s : St} (lt : Bool) {m : Int} : ∀ (l acc : List Int) (g : Int), m ∈ acc → m ∈ s.fill lt l acc g
  | [], _, _, h => h
  | a :: r, acc, g, h => by
    unfold St.fill
    split
    · exact fill_keep lt r _ _ (List.mem_append_left _ h)
    · exact fill_keep lt r _ _ h
theorem fill_congr {s u : St} (hp : u.f.places = s.f.places) (hg : u.f.guards = s.f.guards) (hk : ∀ k, (u.pl k).grd = (s.pl k).grd) : ∀ (l acc : List Int) (g : Int), u.fill false l acc g = s.fill false l acc g
  | [], _, _ => rfl
  | a :: r, acc, g => by
    unfold St.fill
    rw [hp, hg, hk a]
    simp only [or_true, true_and]
    rw [fill_congr hp hg hk r, fill_congr hp hg hk r]
theorem one_bd (b : Bool) : 0 ≤ one b ∧ one b ≤ 1 := by unfold one; split <;> omega

theorem fill_drop (s : St) (r0 m : Int) (hm : m ≠ r0) : ∀ (l acc1 acc2 : List Int) (g1 g2 : Int), (s.f.places ≤ (acc1.length : Int) ∨ (g2 ≤ g1 ∧ acc2.length ≤ acc1.length ∧ g1 - g2 ≤ (acc1.length : Int) - (acc2.length : Int))) → (m ∈ acc1 → m ∈ acc2) → m ∈ s.fill false l acc1 g1 → m ∈ s.fill false (l.filter fun k => k != r0) acc2 g2
  | [], acc1, acc2, g1, g2, _, ha, h => ha h
  | a :: r, acc1, acc2, g1, g2, hi, ha, h => by
    have hb := one_bd (s.pl a).grd
    unfold St.fill at h
    simp only [or_true, true_and] at h
    by_cases e : a = r0
    · subst e
      have hf : (a :: r).filter (fun k => k != a) = r.filter (fun k => k != a) := by simp
      rw [hf]
      split at h
      · refine fill_drop s a m hm r (acc1 ++ [a]) acc2 _ g2 ?_ (fun hx => ?_) h
        · rw [List.length_append]
          simp only [List.length_singleton]
          rcases hi with hi | hi
          · left; push_cast; omega
          · right; refine ⟨by omega, by omega, by push_cast; omega⟩
        · rcases List.mem_append.1 hx with hx | hx
          · exact ha hx
          · simp at hx; exact absurd hx hm
      · exact fill_drop s a m hm r acc1 acc2 g1 g2 hi ha h
    · have hf : (a :: r).filter (fun k => k != r0) = a :: r.filter (fun k => k != r0) := by simp [e]
      rw [hf]
      unfold St.fill
      simp only [or_true, true_and]
      split at h
      · rename_i hc
        have hi' : g2 ≤ g1 ∧ acc2.length ≤ acc1.length ∧ g1 - g2 ≤ (acc1.length : Int) - (acc2.length : Int) := by
          rcases hi with hi | hi
          · omega
          · exact hi
        rw [if_pos ⟨by omega, hc.2.imp (fun h => by omega) id⟩]
        refine fill_drop s r0 m hm r (acc1 ++ [a]) (acc2 ++ [a]) _ _ (.inr ?_) (fun hx => ?_) h
        · rw [List.length_append, List.length_append]
          simp only [List.length_singleton]
          refine ⟨by omega, by omega, by push_cast; omega⟩
        · rcases List.mem_append.1 hx with hx | hx
          · exact List.mem_append_left _ (ha hx)
          · exact List.mem_append_right _ hx
      · rename_i hc
        by_cases hfull : s.f.places ≤ (acc1.length : Int)
        · split
          · exact fill_drop s r0 m hm r acc1 (acc2 ++ [a]) g1 _ (.inl hfull) (fun hx => List.mem_append_left _ (ha hx)) h
          · exact fill_drop s r0 m hm r acc1 acc2 g1 g2 (.inl hfull) ha h
        · have hi' : g2 ≤ g1 ∧ acc2.length ≤ acc1.length ∧ g1 - g2 ≤ (acc1.length : Int) - (acc2.length : Int) := hi.resolve_left hfull
          have hg : ¬ (g1 < s.f.guards ∨ (s.pl a).grd = false) := fun hh => hc ⟨by omega, hh⟩
          have hg1 : s.f.guards ≤ g1 := by
            rcases Int.lt_or_le g1 s.f.guards with h1 | h1
            · exact absurd (.inl h1) hg
            · exact h1
          have hgr : (s.pl a).grd = true := by
            cases hq : (s.pl a).grd with
            | true => rfl
            | false => exact absurd (.inr hq) hg
          split
          · rename_i hc2
            have h2 : g2 < s.f.guards := hc2.2.resolve_right (by rw [hgr]; simp)
            have h1' : one (s.pl a).grd = 1 := by rw [hgr]; rfl
            refine fill_drop s r0 m hm r acc1 (acc2 ++ [a]) g1 _ (.inr ?_) (fun hx => List.mem_append_left _ (ha hx)) h
            rw [List.length_append, h1']
            simp only [List.length_singleton]
            refine ⟨by omega, by omega, by push_cast; omega⟩
          · exact fill_drop s r0 m hm r acc1 acc2 g1 g2 (.inr hi') ha h

structure Late (s u : St) (x : Nt) : Prop where
  ent : ∀ k, (u.pl k).ent = (s.pl k).ent
  rank : ∀ k, (u.pl k).rank = (s.pl k).rank
  turn : ∀ k, (u.pl k).turn = (s.pl k).turn
  grd : ∀ k, (u.pl k).grd = (s.pl k).grd
  other : ∀ k, k ≠ x.player → u.pl k = s.pl k
  quit : ∀ k, (u.pl k).quit = ((s.pl k).quit || (decide (x.kind = 4) && decide (k = x.player)))
  card : ∀ k, (s.pl k).card = true → (u.pl k).card = true
  known : ∀ k, k ∈ u.known ↔ k ∈ s.known ∨ k = x.player
  main : u.main = s.main
  guards : u.f.guards = s.f.guards
  close : u.f.close = s.f.close
  freeze : u.f.freeze = s.f.freeze
  places : late s.f x.hour = false → u.f.places = s.f.places

theorem put_known {s : St} {k : Int} {p : Pl} (j : Int) : j ∈ (s.put k p).known ↔ j ∈ s.known ∨ j = k := by
  unfold St.put
  by_cases e : k ∈ s.known
  · simp only [if_pos e]
    exact ⟨.inl, fun h => h.elim id (fun h => h ▸ e)⟩
  · simp [if_neg e]
theorem put_late {s s0 : St} {x : Nt} {p : Pl} (hp : s0.pl = s.pl) (hk : s0.known = s.known) (hm : s0.main = s.main) (h1 : p.ent = (s.pl x.player).ent) (h2 : p.rank = (s.pl x.player).rank) (h3 : p.turn = (s.pl x.player).turn) (h4 : p.grd = (s.pl x.player).grd) (h5 : p.quit = ((s.pl x.player).quit || decide (x.kind = 4))) (h6 : (s.pl x.player).card = true → p.card = true)
    (h7 : s0.f.guards = s.f.guards) (h8 : s0.f.close = s.f.close) (h9 : s0.f.freeze = s.f.freeze) (h10 : late s.f x.hour = false → s0.f.places = s.f.places) : Late s (s0.put x.player p) x := by
  have e : ∀ k, (s0.put x.player p).pl k = if k = x.player then p else s.pl k := fun k => by unfold St.put; rw [hp]
  refine ⟨fun k => ?_, fun k => ?_, fun k => ?_, fun k => ?_, fun k hk' => ?_, fun k => ?_, fun k hc => ?_, fun k => ?_, hm, h7, h8, h9, h10⟩
  · rw [e]; split; (rename_i h; rw [h, h1]); rfl
  · rw [e]; split; (rename_i h; rw [h, h2]); rfl
  · rw [e]; split; (rename_i h; rw [h, h3]); rfl
  · rw [e]; split; (rename_i h; rw [h, h4]); rfl
  · rw [e, if_neg hk']
  · rw [e]
    by_cases h : k = x.player
    · rw [if_pos h, h5, h]; simp
    · rw [if_neg h]; simp [h]
  · rw [e]; split; (rename_i h; rw [h] at hc; exact h6 hc); exact hc
  · rw [put_known, hk]
theorem said_lateS (s : St) (x : Nt) (hc : s.f.close < x.hour) : Late s (s.said x) x := by
  unfold St.said
  dsimp only
  by_cases k12 : x.kind = 1 ∨ x.kind = 2
  · have hk4 : decide (x.kind = 4) = false := by rcases k12 with e | e <;> rw [e] <;> rfl
    rw [if_pos k12, if_neg (by rintro ⟨h1, _⟩; omega)]
    exact put_late rfl rfl rfl rfl rfl rfl rfl (by rw [hk4]; simp) id rfl rfl rfl (fun _ => rfl)
  · rw [if_neg k12]
    by_cases k3 : x.kind = 3
    · have hk4 : decide (x.kind = 4) = false := by rw [k3]; rfl
      rw [if_pos k3]
      split
      · exact put_late rfl rfl rfl rfl rfl rfl rfl (by rw [hk4]; simp) (fun _ => rfl) rfl rfl rfl (fun _ => rfl)
      · exact put_late rfl rfl rfl rfl rfl rfl rfl (by rw [hk4]; simp) id rfl rfl rfl (fun _ => rfl)
    · rw [if_neg k3]
      by_cases k4 : x.kind = 4
      · rw [if_pos k4]
        by_cases hcond : late s.f x.hour = true ∧ (s.pl x.player).card = true ∧ (s.pl x.player).quit = false
        · rw [if_pos hcond]
          exact put_late rfl rfl rfl rfl rfl rfl rfl (by rw [k4]; simp) id rfl rfl rfl (fun h => by rw [hcond.1] at h; cases h)
        · rw [if_neg hcond]
          exact put_late rfl rfl rfl rfl rfl rfl rfl (by rw [k4]; simp) id rfl rfl rfl (fun _ => rfl)
      · have hk4 : decide (x.kind = 4) = false := decide_eq_false k4
        rw [if_neg k4]
        split
        · exact put_late rfl rfl rfl rfl rfl rfl rfl (by rw [hk4]; simp) id rfl rfl rfl (fun _ => rfl)
        · exact put_late rfl rfl rfl rfl rfl rfl rfl (by rw [hk4]; simp) id rfl rfl rfl (fun _ => rfl)

theorem entry_down {s u : St} {x : Nt} (h : Late s u x) {k : Int} (he : (u.pl k).entry = true) : (s.pl k).entry = true := by
  unfold Pl.entry at *
  simp only [Bool.and_eq_true, Bool.not_eq_true'] at *
  obtain ⟨⟨h1, h2⟩, h3⟩ := he
  refine ⟨⟨by rw [← h.ent]; exact h1, ?_⟩, ?_⟩
  · have := h.quit k
    rw [h2] at this
    cases hq : (s.pl k).quit with
    | false => rfl
    | true => rw [hq] at this; simp at this
  · cases hq : (s.pl k).card with
    | false => rfl
    | true => rw [h.card k hq] at h3; cases h3
theorem late_order {s u : St} {x : Nt} (hs : StOk s) (hu : StOk u) (h : Late s u x) : u.order = s.order.filter (fun k => (u.pl k).entry) := by
  symm
  refine order_eq hu ?_ ?_
  · refine (List.perm_ext_iff_of_nodup ((order_nodup hs).filter _) (hu.known.filter _)).2 (fun k => ?_)
    rw [List.mem_filter, List.mem_filter, order_mem, h.known]
    constructor
    · rintro ⟨⟨h1, _⟩, h2⟩; exact ⟨.inl h1, h2⟩
    · rintro ⟨h1, h2⟩
      have h3 := entry_down h h2
      refine ⟨⟨?_, h3⟩, h2⟩
      by_cases hk : k ∈ s.known
      · exact hk
      · rw [hs.zero k hk] at h3; cases h3
  · refine List.Pairwise.sublist List.filter_sublist ?_
    have ho := List.pairwise_mergeSort (le := s.leP) (leP_trans s) (leP_total s) (s.known.filter (fun k => (s.pl k).entry))
    refine List.Pairwise.imp (fun {a b} hab => ?_) ho
    unfold St.leP at hab
    have := of_decide_eq_true hab
    unfold cmpP at this ⊢
    rw [h.rank, h.rank, h.turn, h.turn]
    exact this
theorem settle_early (u : St) : (u.settle false).main = u.greedy := by
  unfold St.settle St.greedy
  dsimp only
  have e1 : u.main.filter (fun k => false && (u.pl k).entry) = [] := by simp
  rw [e1]
  have e2 : ({ u with main := [] } : St).alts = u.order := by
    unfold St.alts
    show (St.order u).filter _ = _
    simp
  rw [e2]
  rfl

theorem greedy_take (s : St) (x : Nt) : (s.take x).greedy = (s.said x).greedy := by
  unfold St.greedy
  exact fill_congr (s := s.said x) (u := s.take x) rfl rfl (fun _ => rfl) _ _ _

theorem stay_step {s : St} (hs : StOk s) (hT : 0 ≤ s.turns) (x : Nt) (hx : 0 ≤ x.player ∧ x.player ≤ 999) (hc : s.f.close < x.hour) (hg : late s.f x.hour = false → s.main = s.greedy) {m : Int} (hm : m ∈ s.main) (he : ((s.said x).pl m).entry = true) : m ∈ (s.take x).main := by
  have hL := said_lateS s x hc
  have hu := (said_ok hs x hx hT).1
  unfold St.take
  cases hlt : late s.f x.hour with
  | true =>
    unfold St.settle
    dsimp only
    refine fill_keep _ _ _ _ (List.mem_filter.2 ⟨by rw [hL.main]; exact hm, by simpa using he⟩)
  | false =>
    rw [settle_early]
    unfold St.greedy
    rw [fill_congr (hL.places hlt) hL.guards hL.grd, late_order hs hu hL]
    have hm' : m ∈ s.fill false s.order [] 0 := by have := hg hlt; rw [this] at hm; exact hm
    by_cases hp : ((s.said x).pl x.player).entry = true
    · have : s.order.filter (fun k => ((s.said x).pl k).entry) = s.order := by
        rw [List.filter_eq_self]
        intro k hk
        by_cases e : k = x.player
        · rw [e]; exact hp
        · rw [hL.other k e]; exact (order_mem.1 hk).2
      rw [this]
      exact hm'
    · have hne : m ≠ x.player := fun e => hp (e ▸ he)
      have : s.order.filter (fun k => ((s.said x).pl k).entry) = s.order.filter (fun k => k != x.player) := by
        refine List.filter_congr (fun k hk => ?_)
        by_cases e : k = x.player
        · subst e
          have : ((s.said x).pl x.player).entry = false := by simpa using hp
          rw [this]; simp
        · rw [hL.other k e, (order_mem.1 hk).2]; simp [e]
      rw [this]
      exact fill_drop s x.player m hne s.order [] [] 0 0 (.inr ⟨by omega, by omega, by omega⟩) id hm'

theorem main_entry (s : St) (x : Nt) : ∀ k ∈ (s.take x).main, ((s.take x).pl k).entry = true := by
  intro k hk
  have : ∀ (l acc : List Int) (g : Int) (lt : Bool), (∀ k ∈ l, ((s.said x).pl k).entry = true) → (∀ k ∈ acc, ((s.said x).pl k).entry = true) → ∀ k ∈ (s.said x).fill lt l acc g, ((s.said x).pl k).entry = true := fun l acc g lt h1 h2 => fill_known lt (fun k => ((s.said x).pl k).entry = true) l acc g h1 h2
  refine this _ _ _ _ (fun j hj => ?_) (fun j hj => ?_) k hk
  · have := (List.mem_filter.1 hj).1
    exact (order_mem.1 this).2
  · have := (List.mem_filter.1 hj).2
    simp only [Bool.and_eq_true] at this
    exact this.2

def CardsOk (s : St) : Prop := ∀ k, k ∈ s.cards ↔ (s.pl k).card = true ∧ (s.pl k).quit = false
theorem cards_new (f : Fd) : CardsOk (St.new f) := fun k => by simp [St.new, Pl.zero]
theorem cards_said {s : St} (h : CardsOk s) (x : Nt) : CardsOk (s.said x) := by
  have put : ∀ (s0 : St) (p : Pl), s0.pl = s.pl → s0.cards = s.cards → p.card = (s.pl x.player).card → p.quit = (s.pl x.player).quit → CardsOk (s0.put x.player p) := by
    intro s0 p h1 h2 h3 h4 k
    have e : (s0.put x.player p).pl k = if k = x.player then p else s.pl k := by unfold St.put; rw [h1]
    have e2 : (s0.put x.player p).cards = s.cards := h2
    rw [e, e2, h k]
    split
    · rename_i hk; rw [hk, h3, h4]
    · rfl
  unfold St.said
  dsimp only
  split
  · split
    · exact put _ _ rfl rfl rfl rfl
    · exact put _ _ rfl rfl rfl rfl
  · split
    · split
      · rename_i hc
        intro k
        show k ∈ s.cards ++ [x.player] ↔ _
        have e : (({ s with cards := s.cards ++ [x.player] } : St).put x.player { s.pl x.player with card := true }).pl k = if k = x.player then { s.pl x.player with card := true } else s.pl k := rfl
        rw [e, List.mem_append, List.mem_singleton, h k]
        split
        · rename_i hk; subst hk; simp [hc.2.2.1]
        · rename_i hk; simp [hk]
      · exact put _ _ rfl rfl rfl rfl
    · split
      · intro k
        show k ∈ s.cards.filter (fun k => k != x.player) ↔ _
        rw [List.mem_filter, h k]
        show _ ↔ (if k = x.player then ({ s.pl x.player with quit := true } : Pl) else s.pl k).card = true ∧ (if k = x.player then ({ s.pl x.player with quit := true } : Pl) else s.pl k).quit = false
        by_cases hk : k = x.player
        · simp [hk]
        · simp [hk]
      · split
        · exact put _ _ rfl rfl rfl rfl
        · exact put _ _ rfl rfl rfl rfl
theorem cards_take {s : St} (h : CardsOk s) (x : Nt) : CardsOk (s.take x) := cards_said h x

theorem said_fd (s : St) (x : Nt) : (s.said x).f.close = s.f.close := by
  unfold St.said
  dsimp only
  repeat' split
  all_goals (first | rfl | (simp only [St.put]; split <;> rfl))

structure Way (s : St) (m : Int) : Prop where
  ok : StOk s
  turns : 0 ≤ s.turns
  ent : (s.pl m).ent = true
  iff : m ∈ s.main ↔ (s.pl m).entry = true

theorem way_step {s : St} {m : Int} (h : Way s m) (x : Nt) (hx : 0 ≤ x.player ∧ x.player ≤ 999) (hc : s.f.close < x.hour) (hg : late s.f x.hour = false → s.main = s.greedy) : Way (s.take x) m ∧ ((s.take x).pl m).quit = ((s.pl m).quit || (decide (x.kind = 4) && decide (m = x.player))) := by
  have hL := said_lateS s x hc
  refine ⟨⟨(take_ok h.ok x hx h.turns).1, (take_ok h.ok x hx h.turns).2, (hL.ent m).trans h.ent, fun hm => main_entry s x m hm, fun he => ?_⟩, hL.quit m⟩
  exact stay_step h.ok h.turns x hx hc hg (h.iff.2 (entry_down hL he)) he

theorem way_fold {m : Int} (c z : Int) : ∀ (r : List Nt) (s : St), Way s m → s.f.close = c → s.f.freeze = z → (∀ x ∈ r, 0 ≤ x.player ∧ x.player ≤ 999) → (∀ x ∈ r, c < x.hour) → r.Pairwise (fun a b => a.hour ≤ b.hour) → ((∃ x ∈ r, x.hour ≤ z) → s.main = s.greedy) →
    Way (r.foldl St.take s) m ∧ (((r.foldl St.take s).pl m).quit = true ↔ (s.pl m).quit = true ∨ ∃ x ∈ r, x.kind = 4 ∧ x.player = m)
  | [], s, h, _, _, _, _, _, _ => ⟨h, by simp⟩
  | x :: r, s, h, h1, h2, hp, hc, hs, hg => by
    have hx := hp x (List.mem_cons_self ..)
    have hcx := hc x (List.mem_cons_self ..)
    obtain ⟨hs1, hs2⟩ := List.pairwise_cons.1 hs
    obtain ⟨hw, hq⟩ := way_step h x hx (by rw [h1]; exact hcx) (fun hl => hg ⟨x, List.mem_cons_self .., by unfold late at hl; have := of_decide_eq_false hl; rw [h2] at this; omega⟩)
    have ih := way_fold c z r (s.take x) hw ((said_fd s x).trans h1) ((said_freeze s x).trans h2) (fun y hy => hp y (List.mem_cons_of_mem _ hy)) (fun y hy => hc y (List.mem_cons_of_mem _ hy)) hs2 (fun ⟨y, hy, hyz⟩ => by
      have hxz : x.hour ≤ z := Int.le_trans (hs1 y hy) hyz
      have hl : late s.f x.hour = false := by unfold late; rw [h2]; exact decide_eq_false (by omega)
      show ((s.said x).settle (late s.f x.hour)).main = _
      rw [hl, settle_early, greedy_take])
    refine ⟨ih.1, ih.2.trans ?_⟩
    rw [hq]
    simp only [Bool.or_eq_true, Bool.and_eq_true, decide_eq_true_eq, List.mem_cons]
    constructor
    · rintro ((h3 | ⟨h3, h4⟩) | ⟨y, hy, h3⟩)
      · exact .inl h3
      · exact .inr ⟨x, .inl rfl, h3, h4.symm⟩
      · exact .inr ⟨y, .inr hy, h3⟩
    · rintro (h3 | ⟨y, rfl | hy, h3, h4⟩)
      · exact .inl (.inl h3)
      · exact .inl (.inr ⟨h3, h4.symm⟩)
      · exact .inr ⟨y, hy, h3, h4⟩

theorem cards_fold : ∀ (r : List Nt) (s : St), CardsOk s → CardsOk (r.foldl St.take s)
  | [], _, h => h
  | x :: r, _, h => cards_fold r _ (cards_take h x)
theorem fold_fd : ∀ (r : List Nt) (s : St), (r.foldl St.take s).f.close = s.f.close ∧ (r.foldl St.take s).f.freeze = s.f.freeze
  | [], _ => ⟨rfl, rfl⟩
  | x :: r, s => by
    obtain ⟨h1, h2⟩ := fold_fd r (s.take x)
    exact ⟨h1.trans (said_fd s x), h2.trans (said_freeze s x)⟩
theorem fold_main : ∀ (r : List Nt) (s : St), (∀ k ∈ s.main, (s.pl k).entry = true) → ∀ k ∈ (r.foldl St.take s).main, ((r.foldl St.take s).pl k).entry = true
  | [], _, h => h
  | x :: r, s, _ => fold_main r _ (main_entry s x)
theorem fold_greedy (z : Int) : ∀ (r : List Nt) (s : St), s.f.freeze = z → (∀ x ∈ r, x.hour ≤ z) → s.main = s.greedy → (r.foldl St.take s).main = (r.foldl St.take s).greedy
  | [], _, _, _, h => h
  | x :: r, s, hz, hr, h => by
    refine fold_greedy z r (s.take x) ((said_freeze s x).trans hz) (fun y hy => hr y (List.mem_cons_of_mem _ hy)) ?_
    have hl : late s.f x.hour = false := by unfold late; rw [hz]; have := hr x (List.mem_cons_self ..); exact decide_eq_false (by omega)
    show ((s.said x).settle (late s.f x.hour)).main = _
    rw [hl, settle_early, greedy_take]
theorem greedy_new (f : Fd) : (St.new f).main = (St.new f).greedy := by
  unfold St.greedy St.order St.new
  simp [St.fill]
theorem filter_split {h1 h2 : Int} (h12 : h1 ≤ h2) : ∀ (d : List Nt), d.Pairwise (fun a b => a.hour ≤ b.hour) → d.filter (fun x => decide (x.hour ≤ h2)) = d.filter (fun x => decide (x.hour ≤ h1)) ++ d.filter (fun x => decide (h1 < x.hour) && decide (x.hour ≤ h2))
  | [], _ => rfl
  | x :: r, hs => by
    obtain ⟨hs1, hs2⟩ := List.pairwise_cons.1 hs
    by_cases e : x.hour ≤ h1
    · have e2 : x.hour ≤ h2 := by omega
      rw [List.filter_cons_of_pos (by simpa using e2), List.filter_cons_of_pos (by simpa using e), List.filter_cons_of_neg (by simp; omega), List.cons_append, filter_split h12 r hs2]
    · have e1 : r.filter (fun x => decide (x.hour ≤ h1)) = [] := List.filter_eq_nil_iff.2 (fun y hy => by have := hs1 y hy; simp; omega)
      rw [List.filter_cons_of_neg (l := r) (p := fun x => decide (x.hour ≤ h1)) (by simpa using e), e1, List.nil_append]
      refine List.filter_congr (fun y hy => ?_)
      have hy1 : h1 < y.hour := by
        rcases List.mem_cons.1 hy with h | h
        · subst h; omega
        · have := hs1 y h; omega
      simp [hy1]

theorem stays {f : Fd} {d : List Nt} (ht : Taken d) {h1 h2 : Int} (hc : f.close ≤ h1) (h12 : h1 ≤ h2) {m : Int} (hm : m ∈ (atL f h1 d).main) :
    m ∈ (atL f h2 d).main ↔ ¬ (m ∈ (atL f h2 d).cards ∨ ∃ x ∈ d, x.player = m ∧ x.kind = 4 ∧ h1 < x.hour ∧ x.hour ≤ h2) := by
  have hp : ∀ x ∈ d, 0 ≤ x.player ∧ x.player ≤ 999 := fun x hx => valid_player (ht.valid x hx)
  have hs := taken_hours ht
  obtain ⟨hok, hT⟩ := atL_ok f h1 hp
  have hfd := fold_fd (d.filter (fun x => decide (x.hour ≤ h1))) (St.new f)
  have hent := fold_main (d.filter (fun x => decide (x.hour ≤ h1))) (St.new f) (fun k hk => by cases hk) m hm
  have e2 : atL f h2 d = (d.filter (fun x => decide (h1 < x.hour) && decide (x.hour ≤ h2))).foldl St.take (atL f h1 d) := by
    unfold atL
    rw [filter_split h12 d hs, List.foldl_append]
  have hway : Way (atL f h1 d) m := ⟨hok, hT, entry_ent hent, fun _ => hent, fun _ => hm⟩
  have hmem : ∀ x, x ∈ d.filter (fun x => decide (h1 < x.hour) && decide (x.hour ≤ h2)) ↔ x ∈ d ∧ h1 < x.hour ∧ x.hour ≤ h2 := fun x => by simp [List.mem_filter]
  have hf := way_fold f.close f.freeze _ (atL f h1 d) hway hfd.1 hfd.2 (fun x hx => hp x ((hmem x).1 hx).1) (fun x hx => by have := ((hmem x).1 hx).2.1; omega) (List.Pairwise.sublist List.filter_sublist hs) (fun ⟨y, hy, hyz⟩ => by
    refine fold_greedy f.freeze _ (St.new f) rfl (fun x hx => ?_) (greedy_new f)
    have h3 := ((hmem y).1 hy).2.1
    have h4 := (List.mem_filter.1 hx).2
    simp at h4
    omega)
  rw [← e2] at hf
  have hcd : CardsOk (atL f h2 d) := cards_fold _ _ (cards_new f)
  obtain ⟨hw, hq⟩ := hf
  have hq0 : ((atL f h1 d).pl m).quit = false := by
    unfold Pl.entry at hent
    simp only [Bool.and_eq_true, Bool.not_eq_true'] at hent
    exact hent.1.2
  have hq' : ((atL f h2 d).pl m).quit = true ↔ ∃ x ∈ d, x.player = m ∧ x.kind = 4 ∧ h1 < x.hour ∧ x.hour ≤ h2 := by
    rw [hq, hq0]
    constructor
    · rintro (h | ⟨x, hx, h3, h4⟩)
      · cases h
      · exact ⟨x, ((hmem x).1 hx).1, h4, h3, ((hmem x).1 hx).2⟩
    · rintro ⟨x, hx, h3, h4, h5⟩
      exact .inr ⟨x, (hmem x).2 ⟨hx, h5⟩, h4, h3⟩
  rw [← hq', hcd m, hw.iff]
  unfold Pl.entry
  rw [hw.ent]
  cases ((atL f h2 d).pl m).quit <;> cases ((atL f h2 d).pl m).card <;> simp
end E
end Go.Proofs.Ytklomhmdiflfaaa

namespace Go.Proofs.Ytklomhmdiflfaaa
namespace E

def entQ (f : Fd) (h p : Int) (x : Nt) : Bool := decide (x.player = p) && (decide (x.kind = 1) || decide (x.kind = 2)) && decide (x.hour ≤ h) && decide (x.hour ≤ f.close)
def entStep (f : Fd) (h p : Int) (a x : Nt) : Nt := if entQ f h p x = true ∧ (x.hour < a.hour ∨ x.hour = a.hour ∧ x.id < a.id) then x else a
def entZ : Nt := ⟨0, 10000, 0, 0, 0⟩
def entF (f : Fd) (h p : Int) (l : List Nt) : Nt := l.foldl (entStep f h p) entZ

def tri (p : Pl) : Bool × Bool × Int := (p.ent, p.grd, p.rank)
def triN (o : Option Nt) : Bool × Bool × Int := match o with | some x => (true, decide (x.kind = 2), x.rank) | none => (false, false, 0)

theorem entF_spec (f : Fd) (h p : Int) : ∀ (l : List Nt) (a : Nt), let r := l.foldl (entStep f h p) a
    (r = a ∨ (r ∈ l ∧ entQ f h p r = true)) ∧ (r.hour < a.hour ∨ r.hour = a.hour ∧ r.id ≤ a.id) ∧ ∀ y ∈ l, entQ f h p y = true → (r.hour < y.hour ∨ r.hour = y.hour ∧ r.id ≤ y.id)
  | [], a => ⟨.inl rfl, .inr ⟨rfl, Int.le_refl _⟩, fun y hy => by cases hy⟩
  | x :: l, a => by
    have ih := entF_spec f h p l (entStep f h p a x)
    dsimp only at ih ⊢
    rw [List.foldl_cons]
    obtain ⟨h1, h2, h3⟩ := ih
    have hs : (entStep f h p a x = x ∧ entQ f h p x = true ∧ (x.hour < a.hour ∨ x.hour = a.hour ∧ x.id < a.id)) ∨ (entStep f h p a x = a ∧ (entQ f h p x = true → a.hour < x.hour ∨ a.hour = x.hour ∧ a.id ≤ x.id)) := by
      unfold entStep
      by_cases e : entQ f h p x = true ∧ (x.hour < a.hour ∨ x.hour = a.hour ∧ x.id < a.id)
      · rw [if_pos e]; exact .inl ⟨rfl, e.1, e.2⟩
      · rw [if_neg e]
        refine .inr ⟨rfl, fun hq => ?_⟩
        have : ¬ (x.hour < a.hour ∨ x.hour = a.hour ∧ x.id < a.id) := fun h => e ⟨hq, h⟩
        omega
    generalize l.foldl (entStep f h p) (entStep f h p a x) = R at h1 h2 h3 ⊢
    refine ⟨?_, ?_, ?_⟩
    · rcases h1 with h1 | h1
      · rcases hs with hs | hs
        · exact .inr ⟨by rw [h1, hs.1]; exact List.mem_cons_self .., by rw [h1, hs.1]; exact hs.2.1⟩
        · exact .inl (h1.trans hs.1)
      · exact .inr ⟨List.mem_cons_of_mem _ h1.1, h1.2⟩
    · rcases hs with hs | hs
      · rw [hs.1] at h2; have := hs.2.2; omega
      · rw [hs.1] at h2; exact h2
    · intro y hy hq
      rcases List.mem_cons.1 hy with e | hy
      · subst e
        rcases hs with hs | hs
        · rw [hs.1] at h2; exact h2
        · rw [hs.1] at h2; have := hs.2 hq; omega
      · exact h3 y hy hq

theorem entF_find {l d : List Nt} (ht : Taken d) (hm : ∀ y, y ∈ d ↔ y ∈ l) (f : Fd) (h p : Int) :
    (d.find? (entQ f h p) = none ∧ entF f h p l = entZ) ∨ ∃ x ∈ l, d.find? (entQ f h p) = some x ∧ entF f h p l = x ∧ entQ f h p x = true := by
  obtain ⟨h1, h2, h3⟩ := entF_spec f h p l entZ
  change (entF f h p l = entZ ∨ (entF f h p l ∈ l ∧ entQ f h p (entF f h p l) = true)) at h1
  change ((entF f h p l).hour < entZ.hour ∨ (entF f h p l).hour = entZ.hour ∧ (entF f h p l).id ≤ entZ.id) at h2
  change (∀ y ∈ l, entQ f h p y = true → ((entF f h p l).hour < y.hour ∨ (entF f h p l).hour = y.hour ∧ (entF f h p l).id ≤ y.id)) at h3
  cases hf : d.find? (entQ f h p) with
  | none =>
    left
    refine ⟨rfl, ?_⟩
    rcases h1 with h1 | h1
    · exact h1
    · have := List.find?_eq_none.1 hf _ ((hm _).2 h1.1)
      exact absurd h1.2 this
  | some x =>
    right
    have hx := List.mem_of_find?_eq_some hf
    have hq := List.find?_some hf
    refine ⟨x, (hm x).1 hx, rfl, ?_, hq⟩
    have hle := h3 x ((hm x).1 hx) hq
    rcases h1 with h1 | h1
    · exfalso
      have := (valid_hour (ht.valid x hx)).2
      rw [h1] at hle
      unfold entZ at hle
      simp only at hle
      omega
    · obtain ⟨a1, b1, hd, hno⟩ := (List.find?_eq_some_iff_append.1 hf).2
      have hr : entF f h p l ∈ d := (hm _).2 h1.1
      have hord : leN x (entF f h p l) = true := by
        have hs := ht.sorted
        have hr' := hr
        rw [hd] at hr' hs
        rcases List.mem_append.1 hr' with h4 | h4
        · have := hno _ h4
          rw [h1.2] at this
          exact absurd this (by decide)
        · rcases List.mem_cons.1 h4 with h4 | h4
          · rw [h4]; exact (leN_iff _ _).2 (.inr ⟨rfl, Int.le_refl _⟩)
          · exact (List.pairwise_cons.1 (List.pairwise_append.1 hs).2.1).1 _ h4
      have := (leN_iff _ _).1 hord
      exact ids_inj ht.ids _ hr _ hx (by omega)

theorem tri_said (s : St) (x : Nt) (p : Int) : tri ((s.said x).pl p) = if x.player = p ∧ (x.kind = 1 ∨ x.kind = 2) ∧ x.hour ≤ s.f.close ∧ (s.pl p).ent = false then (true, decide (x.kind = 2), x.rank) else tri (s.pl p) := by
  have put : ∀ (s0 : St) (q : Pl), (s0.put x.player q).pl p = if p = x.player then q else s0.pl p := fun _ _ => rfl
  unfold St.said
  dsimp only
  by_cases hp : p = x.player
  · subst hp
    split
    · rename_i hk
      split
      · rename_i hc
        rw [put, if_pos rfl, if_pos ⟨rfl, hk, hc.1, hc.2⟩]; rfl
      · rename_i hc
        rw [put, if_pos rfl, if_neg (fun h => hc ⟨h.2.2.1, h.2.2.2⟩)]
    · rename_i hk
      rw [if_neg (c := x.player = x.player ∧ (x.kind = 1 ∨ x.kind = 2) ∧ x.hour ≤ s.f.close ∧ (s.pl x.player).ent = false) (fun h => hk h.2.1)]
      repeat' split
      all_goals (rw [put, if_pos rfl]; try rfl)
  · rw [if_neg (c := x.player = p ∧ _) (fun h => hp h.1.symm)]
    repeat' split
    all_goals rw [put, if_neg hp]

theorem tri_fold (f : Fd) (h p : Int) : ∀ (r : List Nt) (s : St), s.f.close = f.close → (∀ x ∈ r, x.hour ≤ h) → tri ((r.foldl St.take s).pl p) = if (s.pl p).ent then tri (s.pl p) else match r.find? (entQ f h p) with | some x => (true, decide (x.kind = 2), x.rank) | none => tri (s.pl p)
  | [], s, _, _ => by simp
  | x :: r, s, hc, hr => by
    have ih := tri_fold f h p r (s.take x) ((said_fd s x).trans hc) (fun y hy => hr y (List.mem_cons_of_mem _ hy))
    rw [List.foldl_cons, ih]
    have e1 : tri ((s.take x).pl p) = tri ((s.said x).pl p) := rfl
    have e2 : ((s.take x).pl p).ent = (tri ((s.said x).pl p)).1 := rfl
    rw [e1, e2, tri_said]
    have hx := hr x (List.mem_cons_self ..)
    cases he : (s.pl p).ent with
    | true =>
      rw [if_neg (c := x.player = p ∧ _) (fun h => by simp at h)]
      have : (tri (s.pl p)).1 = true := he
      rw [this]; rfl
    | false =>
      by_cases hq : x.player = p ∧ (x.kind = 1 ∨ x.kind = 2) ∧ x.hour ≤ s.f.close
      · rw [if_pos (c := x.player = p ∧ _) ⟨hq.1, hq.2.1, hq.2.2, rfl⟩]
        have : entQ f h p x = true := by
          unfold entQ
          have h1 := hq.2.2
          rw [hc] at h1
          simp [hq.1, hq.2.1, hx, h1]
        rw [List.find?_cons_of_pos this]; rfl
      · rw [if_neg (c := x.player = p ∧ _) (fun h => hq ⟨h.1, h.2.1, h.2.2.1⟩)]
        have : ¬ entQ f h p x = true := by
          unfold entQ
          intro h1
          simp only [Bool.and_eq_true, Bool.or_eq_true, decide_eq_true_eq] at h1
          exact hq ⟨h1.1.1.1, h1.1.1.2, by rw [hc]; exact h1.2⟩
        rw [List.find?_cons_of_neg this]
        have : (tri (s.pl p)).1 = false := he
        rw [this]

theorem find_filter {a : List Nt} (q p : Nt → Bool) (hqp : ∀ x, q x = true → p x = true) : (a.filter p).find? q = a.find? q := by
  induction a with
  | nil => rfl
  | cons x r ih =>
    by_cases hp : p x = true
    · rw [List.filter_cons_of_pos hp, List.find?_cons, List.find?_cons, ih]
    · rw [List.filter_cons_of_neg hp, ih, List.find?_cons_of_neg (fun h => hp (hqp x h))]

theorem entered_eq {l d : List Nt} (hd : diffs l = some d) (f : Fd) (h p : Int) :
    tri ((atL f h d).pl p) = (decide ((entF f h p l).hour ≤ 9999), decide ((entF f h p l).kind = 2), (entF f h p l).rank) := by
  obtain ⟨_, ht, hm⟩ := diffs_spec hd
  have h1 := tri_fold f h p (d.filter (fun x => decide (x.hour ≤ h))) (St.new f) rfl (fun x hx => by have := (List.mem_filter.1 hx).2; simpa using this)
  have e : (d.filter (fun x => decide (x.hour ≤ h))).find? (entQ f h p) = d.find? (entQ f h p) := find_filter _ _ (fun x hx => by
    unfold entQ at hx
    simp only [Bool.and_eq_true] at hx
    exact hx.1.2)
  rw [e] at h1
  have h2 : ((St.new f).pl p).ent = false := rfl
  rw [h2] at h1
  change tri ((atL f h d).pl p) = _ at h1
  rw [h1]
  rcases entF_find ht hm f h p with ⟨h3, h4⟩ | ⟨x, hx, h3, h4, _⟩
  · rw [h3, h4]; rfl
  · have hv := (valid_hour (ht.valid x ((hm x).2 hx))).2
    rw [h3, h4, decide_eq_true hv]; rfl
end E
end Go.Proofs.Ytklomhmdiflfaaa

namespace Go.Proofs.Ytklomhmdiflfaaa
namespace E

theorem guardsOf_app (s : St) (l m : List Int) : s.guardsOf (l ++ m) = s.guardsOf l + s.guardsOf m := by
  unfold St.guardsOf
  rw [List.map_append, List.sum_append]
theorem guardsOf_one (s : St) (k : Int) : s.guardsOf [k] = one (s.pl k).grd := by simp [St.guardsOf]
theorem fill_full {s : St} (lt : Bool) : ∀ (l acc : List Int) (g : Int), s.f.places ≤ (acc.length : Int) → s.fill lt l acc g = acc
  | [], _, _, _ => rfl
  | a :: r, acc, g, h => by
    unfold St.fill
    rw [if_neg (fun hc => by have := hc.1; omega)]
    exact fill_full lt r acc g h
theorem fill_guards {s : St} (lt : Bool) : ∀ (l acc : List Int) (g : Int), s.guardsOf acc ≤ s.guardsOf (s.fill lt l acc g)
  | [], _, _ => Int.le_refl _
  | a :: r, acc, g => by
    unfold St.fill
    split
    · have h1 := fill_guards (s := s) lt r (acc ++ [a]) (g + one (s.pl a).grd)
      have h2 := one_bd (s.pl a).grd
      rw [guardsOf_app, guardsOf_one] at h1
      omega
    · exact fill_guards lt r acc g

theorem fill_pass {s : St} (lt : Bool) {o : Int} : ∀ (l acc : List Int) (g : Int), g = s.guardsOf acc → o ∈ l → o ∉ s.fill lt l acc g →
    (s.f.places ≤ ((s.fill lt l acc g).length : Int) ∧ ∃ l1 l2, l = l1 ++ o :: l2 ∧ ∀ k ∈ s.fill lt l acc g, k ∈ acc ∨ k ∈ l1) ∨ (lt = true ∧ (s.pl o).sgn = false) ∨ ((s.pl o).grd = true ∧ s.f.guards ≤ s.guardsOf (s.fill lt l acc g))
  | [], _, _, _, h, _ => by cases h
  | a :: r, acc, g, hg, ho, hn => by
    unfold St.fill at hn ⊢
    by_cases hc : (acc.length : Int) < s.f.places ∧ ((s.pl a).sgn = true ∨ lt = false) ∧ (g < s.f.guards ∨ (s.pl a).grd = false)
    · rw [if_pos hc] at hn ⊢
      have hno : o ≠ a := fun e => hn (fill_keep lt r _ _ (by rw [e]; simp))
      have hor : o ∈ r := (List.mem_cons.1 ho).resolve_left hno
      rcases fill_pass lt r (acc ++ [a]) (g + one (s.pl a).grd) (by rw [guardsOf_app, guardsOf_one, hg]) hor hn with ⟨h1, l1, l2, h2, h3⟩ | h1
      · refine .inl ⟨h1, a :: l1, l2, by rw [h2]; rfl, fun k hk => ?_⟩
        rcases h3 k hk with h4 | h4
        · rcases List.mem_append.1 h4 with h5 | h5
          · exact .inl h5
          · right; simp at h5; rw [h5]; exact List.mem_cons_self ..
        · exact .inr (List.mem_cons_of_mem _ h4)
      · exact .inr h1
    · rw [if_neg hc] at hn ⊢
      by_cases e : o = a
      · subst e
        by_cases h1 : (acc.length : Int) < s.f.places
        · by_cases h2 : (s.pl o).sgn = true ∨ lt = false
          · have h3 : ¬ (g < s.f.guards ∨ (s.pl o).grd = false) := fun h => hc ⟨h1, h2, h⟩
            have h4 : (s.pl o).grd = true := by
              cases h : (s.pl o).grd with
              | true => rfl
              | false => exact absurd (.inr h) h3
            have h5 : ¬ g < s.f.guards := fun h => h3 (.inl h)
            have h6 := fill_guards (s := s) lt r acc g
            exact .inr (.inr ⟨h4, by omega⟩)
          · refine .inr (.inl ⟨?_, ?_⟩)
            · cases h : lt with
              | true => rfl
              | false => exact absurd (.inr h) h2
            · cases h : (s.pl o).sgn with
              | false => rfl
              | true => exact absurd (.inl h) h2
        · rw [fill_full lt r acc g (by omega)]
          exact .inl ⟨by omega, [], r, rfl, fun k hk => .inl hk⟩
      · have hor : o ∈ r := (List.mem_cons.1 ho).resolve_left e
        rcases fill_pass lt r acc g hg hor hn with ⟨h1, l1, l2, h2, h3⟩ | h1
        · refine .inl ⟨h1, a :: l1, l2, by rw [h2]; rfl, fun k hk => ?_⟩
          exact (h3 k hk).imp id (fun h4 => List.mem_cons_of_mem _ h4)
        · exact .inr h1

theorem alts_mem {s : St} {o : Int} : o ∈ s.alts ↔ o ∈ s.order ∧ o ∉ s.main := by
  unfold St.alts
  rw [List.mem_filter]
  simp

theorem right_late {s : St} {x : Nt} (hl : late s.f x.hour = true) {o : Int} (ho : o ∈ (s.take x).alts) (hs : ((s.take x).pl o).sgn = true) :
    (s.take x).f.places ≤ ((s.take x).main.length : Int) ∨ (((s.take x).pl o).grd = true ∧ (s.take x).f.guards ≤ (s.take x).guardsOf (s.take x).main) := by
  obtain ⟨h1, h2⟩ := alts_mem.1 ho
  have key : ∀ (u : St), o ∈ (u.settle true).order → o ∉ (u.settle true).main → ((u.settle true).pl o).sgn = true → (u.settle true).f.places ≤ ((u.settle true).main.length : Int) ∨ (((u.settle true).pl o).grd = true ∧ (u.settle true).f.guards ≤ (u.settle true).guardsOf (u.settle true).main) := by
    intro u h1 h2 hs
    have hm : o ∉ u.main.filter (fun k => true && (u.pl k).entry) := fun h => h2 (fill_keep _ _ _ _ h)
    have hin : o ∈ ({ u with main := u.main.filter (fun k => true && (u.pl k).entry) } : St).alts := alts_mem.2 ⟨h1, hm⟩
    rcases fill_pass (s := u) true _ _ _ rfl hin h2 with h3 | h3 | h3
    · exact .inl h3.1
    · have : (u.pl o).sgn = true := hs
      rw [h3.2] at this; cases this
    · exact .inr h3
  unfold St.take at h1 h2 hs ⊢
  rw [hl] at h1 h2 hs ⊢
  exact key _ h1 h2 hs

theorem right_early {s : St} (hm : s.main = s.greedy) {o : Int} (ho : o ∈ s.alts) :
    (s.f.places ≤ (s.main.length : Int) ∧ ∀ k ∈ s.main, 0 ≤ cmpP (s.pl o) (s.pl k)) ∨ ((s.pl o).grd = true ∧ s.f.guards ≤ s.guardsOf s.main) := by
  obtain ⟨h1, h2⟩ := alts_mem.1 ho
  rw [hm] at h2 ⊢
  unfold St.greedy at h2 ⊢
  rcases fill_pass (s := s) false s.order [] 0 (by simp [St.guardsOf]) h1 h2 with ⟨h3, l1, l2, h4, h5⟩ | h3 | h3
  · refine .inl ⟨h3, fun k hk => ?_⟩
    have hk1 : k ∈ l1 := (h5 k hk).resolve_left (by simp)
    have hs := List.pairwise_mergeSort (le := s.leP) (leP_trans s) (leP_total s) (s.known.filter fun k => (s.pl k).entry)
    change s.order.Pairwise _ at hs
    rw [h4] at hs
    have := (List.pairwise_append.1 hs).2.2 k hk1 o (List.mem_cons_self ..)
    unfold St.leP at this
    exact of_decide_eq_true this
  · cases h3.1
  · exact .inr h3

theorem cmpP_rank {p q : Pl} (h : 0 ≤ cmpP p q) : ¬ (0 < p.rank ∧ (q.rank = 0 ∨ p.rank < q.rank)) := by
  rintro ⟨h1, h2⟩
  unfold cmpP at h
  have e1 : (p.rank == 0) = false := by rw [beq_eq_false_iff_ne]; omega
  rw [e1] at h
  by_cases hq : q.rank = 0
  · have e2 : (q.rank == 0) = true := by rw [hq]; rfl
    rw [e2] at h
    simp [one, orL, cmp] at h
  · have e2 : (q.rank == 0) = false := by rw [beq_eq_false_iff_ne]; exact hq
    rw [e2] at h
    have h3 : p.rank < q.rank := h2.resolve_left hq
    simp [one, orL, cmp, h3] at h

theorem sgn_said (s : St) (x : Nt) (p : Int) : ((s.said x).pl p).sgn = ((s.pl p).sgn || (decide (x.kind = 5) && decide (x.player = p))) := by
  have put : ∀ (s0 : St) (q : Pl), (s0.put x.player q).pl p = if p = x.player then q else s0.pl p := fun _ _ => rfl
  unfold St.said
  dsimp only
  by_cases hp : p = x.player
  · subst hp
    repeat' split
    all_goals (rw [put, if_pos rfl])
    all_goals first
      | (rename_i h _; have h5 : ¬ x.kind = 5 := (by omega); simp [h5]; done)
      | (rename_i h; have h5 : ¬ x.kind = 5 := (by omega); simp [h5]; done)
      | (rename_i h; simp [h]; done)
  · have e : decide (x.player = p) = false := decide_eq_false (fun h => hp h.symm)
    rw [e, Bool.and_false, Bool.or_false]
    repeat' split
    all_goals rw [put, if_neg hp]
theorem sgn_fold (p : Int) : ∀ (r : List Nt) (s : St), ((r.foldl St.take s).pl p).sgn = true ↔ (s.pl p).sgn = true ∨ ∃ x ∈ r, x.kind = 5 ∧ x.player = p
  | [], s => by simp
  | x :: r, s => by
    have e : ((s.take x).pl p).sgn = ((s.said x).pl p).sgn := rfl
    rw [List.foldl_cons, sgn_fold p r, e, sgn_said]
    simp only [Bool.or_eq_true, Bool.and_eq_true, decide_eq_true_eq, List.mem_cons]
    constructor
    · rintro ((h | h) | ⟨y, hy, h⟩)
      · exact .inl h
      · exact .inr ⟨x, .inl rfl, h⟩
      · exact .inr ⟨y, .inr hy, h⟩
    · rintro (h | ⟨y, rfl | hy, h⟩)
      · exact .inl (.inl h)
      · exact .inl (.inr h)
      · exact .inr ⟨y, hy, h⟩
theorem said_guards (s : St) (x : Nt) : (s.said x).f.guards = s.f.guards := by
  unfold St.said
  dsimp only
  repeat' split
  all_goals (first | rfl | (simp only [St.put]; split <;> rfl))
theorem fold_guards : ∀ (r : List Nt) (s : St), (r.foldl St.take s).f.guards = s.f.guards
  | [], _ => rfl
  | x :: r, s => (fold_guards r (s.take x)).trans (said_guards s x)

theorem right {f : Fd} {l d : List Nt} (hd : diffs l = some d) (h : Int) {o : Int} (ho : o ∈ (atL f h d).alts) (hb : ¬ ((entF f h o l).kind = 2 ∧ f.guards ≤ (atL f h d).guardsOf (atL f h d).main)) :
    (h ≤ f.freeze → (atL f h d).f.places ≤ ((atL f h d).main.length : Int) ∧ ∀ k ∈ (atL f h d).main, ¬ (0 < (entF f h o l).rank ∧ ((entF f h k l).rank = 0 ∨ (entF f h o l).rank < (entF f h k l).rank))) ∧
    (f.freeze < h → (∃ x ∈ l, f.freeze < x.hour ∧ x.hour ≤ h) → (∃ x ∈ l, x.kind = 5 ∧ x.player = o ∧ x.hour ≤ h) → (atL f h d).f.places ≤ ((atL f h d).main.length : Int)) := by
  obtain ⟨_, ht, hm⟩ := diffs_spec hd
  have hg : (atL f h d).f.guards = f.guards := fold_guards _ _
  have hgr : ∀ k, ((atL f h d).pl k).grd = decide ((entF f h k l).kind = 2) := fun k => congrArg (fun t => t.2.1) (entered_eq hd f h k)
  have hrk : ∀ k, ((atL f h d).pl k).rank = (entF f h k l).rank := fun k => congrArg (fun t => t.2.2) (entered_eq hd f h k)
  have hnb : ¬ (((atL f h d).pl o).grd = true ∧ (atL f h d).f.guards ≤ (atL f h d).guardsOf (atL f h d).main) := fun hh => hb ⟨by have := hh.1; rw [hgr] at this; exact of_decide_eq_true this, by have := hh.2; rw [hg] at this; exact this⟩
  refine ⟨fun hz => ?_, fun hz ⟨x, hx, hx1, hx2⟩ ⟨y, hy, hy1, hy2, hy3⟩ => ?_⟩
  · have hgreedy : (atL f h d).main = (atL f h d).greedy := fold_greedy f.freeze _ (St.new f) rfl (fun x hx => by have := (List.mem_filter.1 hx).2; simp at this; omega) (greedy_new f)
    rcases right_early hgreedy ho with ⟨h1, h2⟩ | h1
    · refine ⟨h1, fun k hk => ?_⟩
      have := cmpP_rank (h2 k hk)
      rw [hrk, hrk] at this
      exact this
    · exact absurd h1 hnb
  · obtain ⟨r, z, hr⟩ : ∃ r z, d.filter (fun x => decide (x.hour ≤ h)) = r ++ [z] := by
      have hmem : x ∈ d.filter (fun x => decide (x.hour ≤ h)) := List.mem_filter.2 ⟨(hm x).2 hx, by simpa using hx2⟩
      have hne : d.filter (fun x => decide (x.hour ≤ h)) ≠ [] := List.ne_nil_of_mem hmem
      exact ⟨_, _, (List.dropLast_concat_getLast hne).symm⟩
    have hz2 : f.freeze < z.hour := by
      have hmem : x ∈ r ++ [z] := by rw [← hr]; exact List.mem_filter.2 ⟨(hm x).2 hx, by simpa using hx2⟩
      have hs : (r ++ [z]).Pairwise (fun a b => a.hour ≤ b.hour) := by rw [← hr]; exact List.Pairwise.sublist List.filter_sublist (taken_hours ht)
      rcases List.mem_append.1 hmem with h1 | h1
      · have := (List.pairwise_append.1 hs).2.2 x h1 z (by simp)
        omega
      · simp at h1; rw [← h1]; exact hx1
    have hat : atL f h d = (r.foldl St.take (St.new f)).take z := by
      unfold atL
      rw [hr, List.foldl_append]
      rfl
    have hfz := (fold_fd r (St.new f)).2
    have hlate : late (r.foldl St.take (St.new f)).f z.hour = true := by
      unfold late
      rw [hfz]
      exact decide_eq_true hz2
    have hsg : ((atL f h d).pl o).sgn = true := (sgn_fold o _ (St.new f)).2 (.inr ⟨y, List.mem_filter.2 ⟨(hm y).2 hy, by simpa using hy3⟩, hy1, hy2⟩)
    rw [hat] at ho hsg hnb ⊢
    rcases right_late hlate ho hsg with h1 | h1
    · exact h1
    · exact absurd h1 hnb
end E
end Go.Proofs.Ytklomhmdiflfaaa

namespace Go.Proofs.Ytklomhmdiflfaaa
open Go.RowKit
attribute [local go_sem ↓] Go.wp_at_zero Go.wp_at_succ

theorem ntRow : (Try.prog.info? 40).map (·.size) = some 5 := by kernel_rfl
theorem E.entF_app (f : E.Fd) (h p : Int) (l : List E.Nt) (x : E.Nt) : E.entF f h p (l ++ [x]) = E.entStep f h p (E.entF f h p l) x := by
  unfold E.entF
  rw [List.foldl_append]; rfl

theorem E.ent_cases (f : E.Fd) (h p : Int) (a x : E.Nt) :
    (E.entStep f h p a x = a ∧ (x.player == p) = false) ∨
    (E.entStep f h p a x = a ∧ (x.player == p) = true ∧ (x.kind == 1) = false ∧ (x.kind == 2) = false) ∨
    (((x.player == p) = true ∧ (x.kind == 1 || x.kind == 2) = true) ∧
      ((E.entStep f h p a x = a ∧ ¬ x.hour ≤ h) ∨
       (E.entStep f h p a x = a ∧ x.hour ≤ h ∧ ¬ x.hour ≤ f.close) ∨
       (E.entStep f h p a x = x ∧ x.hour ≤ h ∧ x.hour ≤ f.close ∧ x.hour < a.hour) ∨
       (E.entStep f h p a x = a ∧ x.hour ≤ h ∧ x.hour ≤ f.close ∧ ¬ x.hour < a.hour ∧ (x.hour == a.hour) = false) ∨
       (E.entStep f h p a x = a ∧ x.hour ≤ h ∧ x.hour ≤ f.close ∧ ¬ x.hour < a.hour ∧ (x.hour == a.hour) = true ∧ ¬ x.id < a.id) ∨
       (E.entStep f h p a x = x ∧ x.hour ≤ h ∧ x.hour ≤ f.close ∧ ¬ x.hour < a.hour ∧ (x.hour == a.hour) = true ∧ x.id < a.id))) := by
  have hq : E.entQ f h p x = true ↔ x.player = p ∧ (x.kind = 1 ∨ x.kind = 2) ∧ x.hour ≤ h ∧ x.hour ≤ f.close := by
    unfold E.entQ
    simp only [Bool.and_eq_true, Bool.or_eq_true, decide_eq_true_eq]
    constructor
    · rintro ⟨⟨⟨h1, h2⟩, h3⟩, h4⟩; exact ⟨h1, h2, h3, h4⟩
    · rintro ⟨h1, h2, h3, h4⟩; exact ⟨⟨⟨h1, h2⟩, h3⟩, h4⟩
  have hn : ∀ (P : Prop), ¬ (E.entQ f h p x = true ∧ (x.hour < a.hour ∨ x.hour = a.hour ∧ x.id < a.id)) → E.entStep f h p a x = a := fun _ h1 => by unfold E.entStep; rw [if_neg h1]
  have hy : E.entQ f h p x = true → (x.hour < a.hour ∨ x.hour = a.hour ∧ x.id < a.id) → E.entStep f h p a x = x := fun h1 h2 => by unfold E.entStep; rw [if_pos ⟨h1, h2⟩]
  simp only [beq_iff_eq, beq_eq_false_iff_ne, ne_eq, Bool.or_eq_true]
  by_cases c1 : x.player = p
  · by_cases c2 : x.kind = 1 ∨ x.kind = 2
    · refine .inr (.inr ⟨⟨c1, c2⟩, ?_⟩)
      by_cases c3 : x.hour ≤ h
      · by_cases c4 : x.hour ≤ f.close
        · have hQ := hq.2 ⟨c1, c2, c3, c4⟩
          by_cases c5 : x.hour < a.hour
          · exact .inr (.inr (.inl ⟨hy hQ (.inl c5), c3, c4, c5⟩))
          · by_cases c6 : x.hour = a.hour
            · by_cases c7 : x.id < a.id
              · exact .inr (.inr (.inr (.inr (.inr ⟨hy hQ (.inr ⟨c6, c7⟩), c3, c4, c5, c6, c7⟩))))
              · exact .inr (.inr (.inr (.inr (.inl ⟨hn True (fun h => h.2.elim c5 (fun h => c7 h.2)), c3, c4, c5, c6, c7⟩))))
            · exact .inr (.inr (.inr (.inl ⟨hn True (fun h => h.2.elim c5 (fun h => c6 h.1)), c3, c4, c5, c6⟩)))
        · exact .inr (.inl ⟨hn True (fun h => c4 (hq.1 h.1).2.2.2), c3, c4⟩)
      · exact .inl ⟨hn True (fun h => c3 (hq.1 h.1).2.2.1), c3⟩
    · exact .inr (.inl ⟨hn True (fun h => c2 (hq.1 h.1).2.1), c1, fun h => c2 (.inl h), fun h => c2 (.inr h)⟩)
  · exact .inl ⟨hn True (fun h => c1 (hq.1 h.1).1), c1⟩

set_option maxHeartbeats 6400000 in
set_option maxRecDepth 100000 in
theorem entered_any (f : E.Fd) (A : Option Addr) (n c : Nat) (l : List E.Nt) (h p : Int) (w : World) (hn : l.length = n) (hr : RdN w w.heap.size A l) (hm : n ≤ 1000000) :
    Calls Try.prog 22 #[.agg #[.int .i64 f.places, .int .i64 f.wilds, .int .i64 f.guards, .int .i64 f.close, .int .i64 f.freeze], .slice A n c, .int .i64 h, .int .i64 p] w fun e w' => e = .returned (.tuple #[.bool (decide ((E.entF f h p l).hour ≤ 9999)), .bool (decide ((E.entF f h p l).kind = 2)), .int .i64 (E.entF f h p l).rank]) ∧ Below w.heap.size w w' := by
  have HN := hide hn
  have HR := hide hr
  clear hn hr
  go_enter Try.func22, Try.ntmps22
  go_wp2_with fail
  obtain ⟨w0, hw0⟩ : ∃ w0, (w.alloc (.cells #[.int .i64 f.places, .int .i64 f.wilds, .int .i64 f.guards, .int .i64 f.close, .int .i64 f.freeze] 23)).alloc (.cells #[.int .i64 0, .int .i64 10000, .int .i64 0, .int .i64 0, .int .i64 0] 40) = w0 := ⟨_, rfl⟩
  have HB0 := hide (show Below w.heap.size w w0 by rw [← hw0]; (repeat' first | exact zbR _ _ | assumption | refine zbD ?_ | refine zbA ?_ ?_ _ | refine zbS ?_ ?_ _ | refine zbT ?_ (by assumption) ?_ | (simp; done) | (simp; omega) | omega))
  have HF0 := hide (show w0.heap[w.heap.size]? = some (.cells #[.int .i64 f.places, .int .i64 f.wilds, .int .i64 f.guards, .int .i64 f.close, .int .i64 f.freeze] 23 (0, 0)) by rw [← hw0]; exact (Below.heap_alloc _ _ _ (by first | (simp; done) | (simp; omega) | omega)).trans (World.alloc_heap_new _ _))
  have HA0 := hide (show w0.heap[w.heap.size + 1]? = some (.cells #[.int .i64 0, .int .i64 10000, .int .i64 0, .int .i64 0, .int .i64 0] 40 (0, 0)) by rw [← hw0]; exact (congrArg _ (by simp)).trans (World.alloc_heap_new _ _))
  rw [hw0]
  clear hw0
  go_loopw [12] (fun i wr => ∃ (k : Nat) (a : E.Nt), k ≤ n ∧ i = .int .i64 k ∧ Hid (a = E.entF f h p (l.take k)) ∧ Hid (wr.heap[w.heap.size]? = some (.cells #[.int .i64 f.places, .int .i64 f.wilds, .int .i64 f.guards, .int .i64 f.close, .int .i64 f.freeze] 23 (0, 0))) ∧ Hid (wr.heap[w.heap.size + 1]? = some (.cells #[.int .i64 a.id, .int .i64 a.hour, .int .i64 a.kind, .int .i64 a.player, .int .i64 a.rank] 40 (0, 0))) ∧ Hid (Below w.heap.size w wr)) (fun i _ => n - (intOf i).toNat)
  case atStart => exact ⟨0, E.entZ, by omega, rfl, hide rfl, HF0, HA0, HB0⟩
  case round =>
    obtain ⟨k, a, hk, rfl, HE, HF, HA, HBr⟩ := hrel
    have z0 : wr.cell? ⟨w.heap.size, 3, none⟩ = some (.int .i64 f.close) := (blk_cell HF.out 3).trans rfl
    have a0 : wr.cell? ⟨w.heap.size + 1, 0, none⟩ = some (.int .i64 a.id) := (blk_cell HA.out 0).trans rfl
    have a1 : wr.cell? ⟨w.heap.size + 1, 1, none⟩ = some (.int .i64 a.hour) := (blk_cell HA.out 1).trans rfl
    have a2 : wr.cell? ⟨w.heap.size + 1, 2, none⟩ = some (.int .i64 a.kind) := (blk_cell HA.out 2).trans rfl
    have a4 : wr.cell? ⟨w.heap.size + 1, 4, none⟩ = some (.int .i64 a.rank) := (blk_cell HA.out 4).trans rfl
    have g1 : w.heap.size + 1 < wr.heap.size := blk_lt HA.out
    have g0 : w.heap.size < wr.heap.size := blk_lt HF.out
    by_cases hlt : k < n
    · obtain ⟨x, hx⟩ : ∃ q, l[k]? = some q := ⟨_, List.getElem?_eq_getElem (by have := HN.out; omega)⟩
      obtain ⟨b, o, hA, hbB, d0, d1, d2, d3, d4⟩ := (HR.out.below HBr.out) k x hx
      subst hA
      have HTK := hide (show l.take (k + 1) = l.take k ++ [x] by rw [List.take_add_one, hx]; rfl)
      have hlt' : (k : Int) < (n : Int) := by omega
      have hk0 : (0 : Int) ≤ (k : Int) := by omega
      have hbr : b < wr.heap.size := Nat.lt_trans hbB g0
      clear hx
      rcases E.ent_cases f h p a x with ⟨he, h1⟩ | ⟨he, h1, h2, h3⟩ | ⟨⟨h1, h23⟩, HC⟩
      · have HS := hide he
        clear he
        go_wp2_with fail
        have HBW := hide (show Below wr.heap.size wr (wr.alloc (.cells #[.int .i64 x.id, .int .i64 x.hour, .int .i64 x.kind, .int .i64 x.player, .int .i64 x.rank] 40)) by (repeat' first | exact zbR _ _ | assumption | refine zbD ?_ | refine zbA ?_ ?_ _ | refine zbS ?_ ?_ _ | refine zbT ?_ (by assumption) ?_ | (simp; done) | (simp; omega) | omega))
        clear d0 d1 d2 d3 d4 z0 a0 a1 a2 a4
        go_roundw
        case rel => exact ⟨k + 1, a, by omega, by go_num, hide (by rw [HTK.out, E.entF_app, ← HE.out]; exact HS.out.symm), hide ((HBW.out.block _ g0).trans HF.out), hide ((HBW.out.block _ g1).trans HA.out), hide (zbT HBr.out HBW.out (by omega))⟩
        case measure => simp [intOf]; omega
      · have HS := hide he
        clear he
        go_wp2_with fail
        have HBW := hide (show Below wr.heap.size wr (wr.alloc (.cells #[.int .i64 x.id, .int .i64 x.hour, .int .i64 x.kind, .int .i64 x.player, .int .i64 x.rank] 40)) by (repeat' first | exact zbR _ _ | assumption | refine zbD ?_ | refine zbA ?_ ?_ _ | refine zbS ?_ ?_ _ | refine zbT ?_ (by assumption) ?_ | (simp; done) | (simp; omega) | omega))
        clear d0 d1 d2 d3 d4 z0 a0 a1 a2 a4
        go_roundw
        case rel => exact ⟨k + 1, a, by omega, by go_num, hide (by rw [HTK.out, E.entF_app, ← HE.out]; exact HS.out.symm), hide ((HBW.out.block _ g0).trans HF.out), hide ((HBW.out.block _ g1).trans HA.out), hide (zbT HBr.out HBW.out (by omega))⟩
        case measure => simp [intOf]; omega
      · obtain ⟨q, hq⟩ : ∃ q, (x.kind == 1) = q := ⟨_, rfl⟩
        have h4 : q = false → (x.kind == 2) = true := by rintro rfl; rw [hq] at h23; simpa using h23
        clear h23
        cases q
        all_goals (first | have h5 := h4 rfl | skip)
        all_goals clear h4
        · rcases HC with ⟨he, e1⟩ | ⟨he, e1, e2⟩ | ⟨he, e1, e2, e3⟩ | ⟨he, e1, e2, e3, e4⟩ | ⟨he, e1, e2, e3, e4, e5⟩ | ⟨he, e1, e2, e3, e4, e5⟩
          · have HS := hide he
            clear he
            (try simp only [Int.not_le, Int.not_lt] at *)
            go_wp2_with fail
            have HBW := hide (show Below wr.heap.size wr (wr.alloc (.cells #[.int .i64 x.id, .int .i64 x.hour, .int .i64 x.kind, .int .i64 x.player, .int .i64 x.rank] 40)) by (repeat' first | exact zbR _ _ | assumption | refine zbD ?_ | refine zbA ?_ ?_ _ | refine zbS ?_ ?_ _ | refine zbT ?_ (by assumption) ?_ | (simp; done) | (simp; omega) | omega))
            clear d0 d1 d2 d3 d4 z0 a0 a1 a2 a4
            go_roundw
            case rel => exact ⟨k + 1, a, by omega, by go_num, hide (by rw [HTK.out, E.entF_app, ← HE.out]; exact HS.out.symm), hide ((HBW.out.block _ g0).trans HF.out), hide ((HBW.out.block _ g1).trans HA.out), hide (zbT HBr.out HBW.out (by omega))⟩
            case measure => simp [intOf]; omega
          · have HS := hide he
            clear he
            (try simp only [Int.not_le, Int.not_lt] at *)
            go_wp2_with fail
            have HBW := hide (show Below wr.heap.size wr (wr.alloc (.cells #[.int .i64 x.id, .int .i64 x.hour, .int .i64 x.kind, .int .i64 x.player, .int .i64 x.rank] 40)) by (repeat' first | exact zbR _ _ | assumption | refine zbD ?_ | refine zbA ?_ ?_ _ | refine zbS ?_ ?_ _ | refine zbT ?_ (by assumption) ?_ | (simp; done) | (simp; omega) | omega))
            clear d0 d1 d2 d3 d4 z0 a0 a1 a2 a4
            go_roundw
            case rel => exact ⟨k + 1, a, by omega, by go_num, hide (by rw [HTK.out, E.entF_app, ← HE.out]; exact HS.out.symm), hide ((HBW.out.block _ g0).trans HF.out), hide ((HBW.out.block _ g1).trans HA.out), hide (zbT HBr.out HBW.out (by omega))⟩
            case measure => simp [intOf]; omega
          · have HS := hide he
            clear he
            (try simp only [Int.not_le, Int.not_lt] at *)
            go_upto_region 7 with fail
            obtain ⟨W6, hW6⟩ : ∃ W6, (wr.alloc (.cells #[.int .i64 x.id, .int .i64 x.hour, .int .i64 x.kind, .int .i64 x.player, .int .i64 x.rank] 40)) = W6 := ⟨_, rfl⟩
            have HBW := hide (show Below wr.heap.size wr W6 by rw [← hW6]; (repeat' first | exact zbR _ _ | assumption | refine zbD ?_ | refine zbA ?_ ?_ _ | refine zbS ?_ ?_ _ | refine zbT ?_ (by assumption) ?_ | (simp; done) | (simp; omega) | omega))
            have HX6 := hide (show W6.heap[wr.heap.size]? = some (.cells #[.int .i64 x.id, .int .i64 x.hour, .int .i64 x.kind, .int .i64 x.player, .int .i64 x.rank] 40 (0, 0)) by rw [← hW6]; exact World.alloc_heap_new _ _)
            have HAW := hide ((HBW.out.block _ g1).trans HA.out)
            rw [hW6]
            clear hW6 d0 d1 d2 d3 d4 z0 a0 a1 a2 a4
            have x0 : W6.cell? ⟨wr.heap.size, 0, none⟩ = some (.int .i64 x.id) := (blk_cell HX6.out 0).trans rfl
            have x1 : W6.cell? ⟨wr.heap.size, 1, none⟩ = some (.int .i64 x.hour) := (blk_cell HX6.out 1).trans rfl
            have x2 : W6.cell? ⟨wr.heap.size, 2, none⟩ = some (.int .i64 x.kind) := (blk_cell HX6.out 2).trans rfl
            have x3 : W6.cell? ⟨wr.heap.size, 3, none⟩ = some (.int .i64 x.player) := (blk_cell HX6.out 3).trans rfl
            have x4 : W6.cell? ⟨wr.heap.size, 4, none⟩ = some (.int .i64 x.rank) := (blk_cell HX6.out 4).trans rfl
            go_wp2_with (refine wpList_store_row rfl 40 _ _ rfl (w.heap.size + 1) _ rfl rfl 40 _ HAW.out ntRow rfl (by simp [Value.oneCell']) ?_)
            obtain ⟨W9, hW9⟩ : ∃ W9, W6.setRow (w.heap.size + 1) #[.int .i64 x.id, .int .i64 x.hour, .int .i64 x.kind, .int .i64 x.player, .int .i64 x.rank] = W9 := ⟨_, rfl⟩
            have HR9 := hide (show W9.heap[w.heap.size + 1]? = some (.cells #[.int .i64 x.id, .int .i64 x.hour, .int .i64 x.kind, .int .i64 x.player, .int .i64 x.rank] 40 (0, 0)) by rw [← hW9]; exact setRow_heap1 HAW.out)
            have HG9 := hide (show W6.grownBy W9 (some (w.heap.size + 1)) by rw [← hW9]; exact setRow_grown _ _ _)
            (try rw [hW9])
            clear hW9 x0 x1 x2 x3 x4
            go_roundw
            case rel => exact ⟨k + 1, x, by omega, by go_num, hide (by rw [HTK.out, E.entF_app, ← HE.out]; exact HS.out.symm), hide ((HG9.out.block _ (Nat.lt_of_lt_of_le g0 HBW.out.size) (by simp)).trans ((HBW.out.block _ g0).trans HF.out)), hide HR9.out, hide (zbT (zbT HBr.out HBW.out (Nat.le_of_lt g0)) (grown_below (B := w.heap.size) HG9.out (Nat.le_trans (Nat.le_of_lt g0) HBW.out.size) (fun g e => by have h1 := Option.some.inj e; omega)) (Nat.le_refl _))⟩
            case measure => simp [intOf]; omega
          · have HS := hide he
            clear he
            (try simp only [Int.not_le, Int.not_lt] at *)
            go_wp2_with fail
            have HBW := hide (show Below wr.heap.size wr (wr.alloc (.cells #[.int .i64 x.id, .int .i64 x.hour, .int .i64 x.kind, .int .i64 x.player, .int .i64 x.rank] 40)) by (repeat' first | exact zbR _ _ | assumption | refine zbD ?_ | refine zbA ?_ ?_ _ | refine zbS ?_ ?_ _ | refine zbT ?_ (by assumption) ?_ | (simp; done) | (simp; omega) | omega))
            clear d0 d1 d2 d3 d4 z0 a0 a1 a2 a4
            go_roundw
            case rel => exact ⟨k + 1, a, by omega, by go_num, hide (by rw [HTK.out, E.entF_app, ← HE.out]; exact HS.out.symm), hide ((HBW.out.block _ g0).trans HF.out), hide ((HBW.out.block _ g1).trans HA.out), hide (zbT HBr.out HBW.out (by omega))⟩
            case measure => simp [intOf]; omega
          · have HS := hide he
            clear he
            (try simp only [Int.not_le, Int.not_lt] at *)
            go_wp2_with fail
            have HBW := hide (show Below wr.heap.size wr (wr.alloc (.cells #[.int .i64 x.id, .int .i64 x.hour, .int .i64 x.kind, .int .i64 x.player, .int .i64 x.rank] 40)) by (repeat' first | exact zbR _ _ | assumption | refine zbD ?_ | refine zbA ?_ ?_ _ | refine zbS ?_ ?_ _ | refine zbT ?_ (by assumption) ?_ | (simp; done) | (simp; omega) | omega))
            clear d0 d1 d2 d3 d4 z0 a0 a1 a2 a4
            go_roundw
            case rel => exact ⟨k + 1, a, by omega, by go_num, hide (by rw [HTK.out, E.entF_app, ← HE.out]; exact HS.out.symm), hide ((HBW.out.block _ g0).trans HF.out), hide ((HBW.out.block _ g1).trans HA.out), hide (zbT HBr.out HBW.out (by omega))⟩
            case measure => simp [intOf]; omega
          · have HS := hide he
            clear he
            (try simp only [Int.not_le, Int.not_lt] at *)
            go_upto_region 7 with fail
            obtain ⟨W6, hW6⟩ : ∃ W6, (wr.alloc (.cells #[.int .i64 x.id, .int .i64 x.hour, .int .i64 x.kind, .int .i64 x.player, .int .i64 x.rank] 40)) = W6 := ⟨_, rfl⟩
            have HBW := hide (show Below wr.heap.size wr W6 by rw [← hW6]; (repeat' first | exact zbR _ _ | assumption | refine zbD ?_ | refine zbA ?_ ?_ _ | refine zbS ?_ ?_ _ | refine zbT ?_ (by assumption) ?_ | (simp; done) | (simp; omega) | omega))
            have HX6 := hide (show W6.heap[wr.heap.size]? = some (.cells #[.int .i64 x.id, .int .i64 x.hour, .int .i64 x.kind, .int .i64 x.player, .int .i64 x.rank] 40 (0, 0)) by rw [← hW6]; exact World.alloc_heap_new _ _)
            have HAW := hide ((HBW.out.block _ g1).trans HA.out)
            rw [hW6]
            clear hW6 d0 d1 d2 d3 d4 z0 a0 a1 a2 a4
            have x0 : W6.cell? ⟨wr.heap.size, 0, none⟩ = some (.int .i64 x.id) := (blk_cell HX6.out 0).trans rfl
            have x1 : W6.cell? ⟨wr.heap.size, 1, none⟩ = some (.int .i64 x.hour) := (blk_cell HX6.out 1).trans rfl
            have x2 : W6.cell? ⟨wr.heap.size, 2, none⟩ = some (.int .i64 x.kind) := (blk_cell HX6.out 2).trans rfl
            have x3 : W6.cell? ⟨wr.heap.size, 3, none⟩ = some (.int .i64 x.player) := (blk_cell HX6.out 3).trans rfl
            have x4 : W6.cell? ⟨wr.heap.size, 4, none⟩ = some (.int .i64 x.rank) := (blk_cell HX6.out 4).trans rfl
            go_wp2_with (refine wpList_store_row rfl 40 _ _ rfl (w.heap.size + 1) _ rfl rfl 40 _ HAW.out ntRow rfl (by simp [Value.oneCell']) ?_)
            obtain ⟨W9, hW9⟩ : ∃ W9, W6.setRow (w.heap.size + 1) #[.int .i64 x.id, .int .i64 x.hour, .int .i64 x.kind, .int .i64 x.player, .int .i64 x.rank] = W9 := ⟨_, rfl⟩
            have HR9 := hide (show W9.heap[w.heap.size + 1]? = some (.cells #[.int .i64 x.id, .int .i64 x.hour, .int .i64 x.kind, .int .i64 x.player, .int .i64 x.rank] 40 (0, 0)) by rw [← hW9]; exact setRow_heap1 HAW.out)
            have HG9 := hide (show W6.grownBy W9 (some (w.heap.size + 1)) by rw [← hW9]; exact setRow_grown _ _ _)
            (try rw [hW9])
            clear hW9 x0 x1 x2 x3 x4
            go_roundw
            case rel => exact ⟨k + 1, x, by omega, by go_num, hide (by rw [HTK.out, E.entF_app, ← HE.out]; exact HS.out.symm), hide ((HG9.out.block _ (Nat.lt_of_lt_of_le g0 HBW.out.size) (by simp)).trans ((HBW.out.block _ g0).trans HF.out)), hide HR9.out, hide (zbT (zbT HBr.out HBW.out (Nat.le_of_lt g0)) (grown_below (B := w.heap.size) HG9.out (Nat.le_trans (Nat.le_of_lt g0) HBW.out.size) (fun g e => by have h1 := Option.some.inj e; omega)) (Nat.le_refl _))⟩
            case measure => simp [intOf]; omega
        · rcases HC with ⟨he, e1⟩ | ⟨he, e1, e2⟩ | ⟨he, e1, e2, e3⟩ | ⟨he, e1, e2, e3, e4⟩ | ⟨he, e1, e2, e3, e4, e5⟩ | ⟨he, e1, e2, e3, e4, e5⟩
          · have HS := hide he
            clear he
            (try simp only [Int.not_le, Int.not_lt] at *)
            go_wp2_with fail
            have HBW := hide (show Below wr.heap.size wr (wr.alloc (.cells #[.int .i64 x.id, .int .i64 x.hour, .int .i64 x.kind, .int .i64 x.player, .int .i64 x.rank] 40)) by (repeat' first | exact zbR _ _ | assumption | refine zbD ?_ | refine zbA ?_ ?_ _ | refine zbS ?_ ?_ _ | refine zbT ?_ (by assumption) ?_ | (simp; done) | (simp; omega) | omega))
            clear d0 d1 d2 d3 d4 z0 a0 a1 a2 a4
            go_roundw
            case rel => exact ⟨k + 1, a, by omega, by go_num, hide (by rw [HTK.out, E.entF_app, ← HE.out]; exact HS.out.symm), hide ((HBW.out.block _ g0).trans HF.out), hide ((HBW.out.block _ g1).trans HA.out), hide (zbT HBr.out HBW.out (by omega))⟩
            case measure => simp [intOf]; omega
          · have HS := hide he
            clear he
            (try simp only [Int.not_le, Int.not_lt] at *)
            go_wp2_with fail
            have HBW := hide (show Below wr.heap.size wr (wr.alloc (.cells #[.int .i64 x.id, .int .i64 x.hour, .int .i64 x.kind, .int .i64 x.player, .int .i64 x.rank] 40)) by (repeat' first | exact zbR _ _ | assumption | refine zbD ?_ | refine zbA ?_ ?_ _ | refine zbS ?_ ?_ _ | refine zbT ?_ (by assumption) ?_ | (simp; done) | (simp; omega) | omega))
            clear d0 d1 d2 d3 d4 z0 a0 a1 a2 a4
            go_roundw
            case rel => exact ⟨k + 1, a, by omega, by go_num, hide (by rw [HTK.out, E.entF_app, ← HE.out]; exact HS.out.symm), hide ((HBW.out.block _ g0).trans HF.out), hide ((HBW.out.block _ g1).trans HA.out), hide (zbT HBr.out HBW.out (by omega))⟩
            case measure => simp [intOf]; omega
          · have HS := hide he
            clear he
            (try simp only [Int.not_le, Int.not_lt] at *)
            go_upto_region 7 with fail
            obtain ⟨W6, hW6⟩ : ∃ W6, (wr.alloc (.cells #[.int .i64 x.id, .int .i64 x.hour, .int .i64 x.kind, .int .i64 x.player, .int .i64 x.rank] 40)) = W6 := ⟨_, rfl⟩
            have HBW := hide (show Below wr.heap.size wr W6 by rw [← hW6]; (repeat' first | exact zbR _ _ | assumption | refine zbD ?_ | refine zbA ?_ ?_ _ | refine zbS ?_ ?_ _ | refine zbT ?_ (by assumption) ?_ | (simp; done) | (simp; omega) | omega))
            have HX6 := hide (show W6.heap[wr.heap.size]? = some (.cells #[.int .i64 x.id, .int .i64 x.hour, .int .i64 x.kind, .int .i64 x.player, .int .i64 x.rank] 40 (0, 0)) by rw [← hW6]; exact World.alloc_heap_new _ _)
            have HAW := hide ((HBW.out.block _ g1).trans HA.out)
            rw [hW6]
            clear hW6 d0 d1 d2 d3 d4 z0 a0 a1 a2 a4
            have x0 : W6.cell? ⟨wr.heap.size, 0, none⟩ = some (.int .i64 x.id) := (blk_cell HX6.out 0).trans rfl
            have x1 : W6.cell? ⟨wr.heap.size, 1, none⟩ = some (.int .i64 x.hour) := (blk_cell HX6.out 1).trans rfl
            have x2 : W6.cell? ⟨wr.heap.size, 2, none⟩ = some (.int .i64 x.kind) := (blk_cell HX6.out 2).trans rfl
            have x3 : W6.cell? ⟨wr.heap.size, 3, none⟩ = some (.int .i64 x.player) := (blk_cell HX6.out 3).trans rfl
            have x4 : W6.cell? ⟨wr.heap.size, 4, none⟩ = some (.int .i64 x.rank) := (blk_cell HX6.out 4).trans rfl
            go_wp2_with (refine wpList_store_row rfl 40 _ _ rfl (w.heap.size + 1) _ rfl rfl 40 _ HAW.out ntRow rfl (by simp [Value.oneCell']) ?_)
            obtain ⟨W9, hW9⟩ : ∃ W9, W6.setRow (w.heap.size + 1) #[.int .i64 x.id, .int .i64 x.hour, .int .i64 x.kind, .int .i64 x.player, .int .i64 x.rank] = W9 := ⟨_, rfl⟩
            have HR9 := hide (show W9.heap[w.heap.size + 1]? = some (.cells #[.int .i64 x.id, .int .i64 x.hour, .int .i64 x.kind, .int .i64 x.player, .int .i64 x.rank] 40 (0, 0)) by rw [← hW9]; exact setRow_heap1 HAW.out)
            have HG9 := hide (show W6.grownBy W9 (some (w.heap.size + 1)) by rw [← hW9]; exact setRow_grown _ _ _)
            (try rw [hW9])
            clear hW9 x0 x1 x2 x3 x4
            go_roundw
            case rel => exact ⟨k + 1, x, by omega, by go_num, hide (by rw [HTK.out, E.entF_app, ← HE.out]; exact HS.out.symm), hide ((HG9.out.block _ (Nat.lt_of_lt_of_le g0 HBW.out.size) (by simp)).trans ((HBW.out.block _ g0).trans HF.out)), hide HR9.out, hide (zbT (zbT HBr.out HBW.out (Nat.le_of_lt g0)) (grown_below (B := w.heap.size) HG9.out (Nat.le_trans (Nat.le_of_lt g0) HBW.out.size) (fun g e => by have h1 := Option.some.inj e; omega)) (Nat.le_refl _))⟩
            case measure => simp [intOf]; omega
          · have HS := hide he
            clear he
            (try simp only [Int.not_le, Int.not_lt] at *)
            go_wp2_with fail
            have HBW := hide (show Below wr.heap.size wr (wr.alloc (.cells #[.int .i64 x.id, .int .i64 x.hour, .int .i64 x.kind, .int .i64 x.player, .int .i64 x.rank] 40)) by (repeat' first | exact zbR _ _ | assumption | refine zbD ?_ | refine zbA ?_ ?_ _ | refine zbS ?_ ?_ _ | refine zbT ?_ (by assumption) ?_ | (simp; done) | (simp; omega) | omega))
            clear d0 d1 d2 d3 d4 z0 a0 a1 a2 a4
            go_roundw
            case rel => exact ⟨k + 1, a, by omega, by go_num, hide (by rw [HTK.out, E.entF_app, ← HE.out]; exact HS.out.symm), hide ((HBW.out.block _ g0).trans HF.out), hide ((HBW.out.block _ g1).trans HA.out), hide (zbT HBr.out HBW.out (by omega))⟩
            case measure => simp [intOf]; omega
          · have HS := hide he
            clear he
            (try simp only [Int.not_le, Int.not_lt] at *)
            go_wp2_with fail
            have HBW := hide (show Below wr.heap.size wr (wr.alloc (.cells #[.int .i64 x.id, .int .i64 x.hour, .int .i64 x.kind, .int .i64 x.player, .int .i64 x.rank] 40)) by (repeat' first | exact zbR _ _ | assumption | refine zbD ?_ | refine zbA ?_ ?_ _ | refine zbS ?_ ?_ _ | refine zbT ?_ (by assumption) ?_ | (simp; done) | (simp; omega) | omega))
            clear d0 d1 d2 d3 d4 z0 a0 a1 a2 a4
            go_roundw
            case rel => exact ⟨k + 1, a, by omega, by go_num, hide (by rw [HTK.out, E.entF_app, ← HE.out]; exact HS.out.symm), hide ((HBW.out.block _ g0).trans HF.out), hide ((HBW.out.block _ g1).trans HA.out), hide (zbT HBr.out HBW.out (by omega))⟩
            case measure => simp [intOf]; omega
          · have HS := hide he
            clear he
            (try simp only [Int.not_le, Int.not_lt] at *)
            go_upto_region 7 with fail
            obtain ⟨W6, hW6⟩ : ∃ W6, (wr.alloc (.cells #[.int .i64 x.id, .int .i64 x.hour, .int .i64 x.kind, .int .i64 x.player, .int .i64 x.rank] 40)) = W6 := ⟨_, rfl⟩
            have HBW := hide (show Below wr.heap.size wr W6 by rw [← hW6]; (repeat' first | exact zbR _ _ | assumption | refine zbD ?_ | refine zbA ?_ ?_ _ | refine zbS ?_ ?_ _ | refine zbT ?_ (by assumption) ?_ | (simp; done) | (simp; omega) | omega))
            have HX6 := hide (show W6.heap[wr.heap.size]? = some (.cells #[.int .i64 x.id, .int .i64 x.hour, .int .i64 x.kind, .int .i64 x.player, .int .i64 x.rank] 40 (0, 0)) by rw [← hW6]; exact World.alloc_heap_new _ _)
            have HAW := hide ((HBW.out.block _ g1).trans HA.out)
            rw [hW6]
            clear hW6 d0 d1 d2 d3 d4 z0 a0 a1 a2 a4
            have x0 : W6.cell? ⟨wr.heap.size, 0, none⟩ = some (.int .i64 x.id) := (blk_cell HX6.out 0).trans rfl
            have x1 : W6.cell? ⟨wr.heap.size, 1, none⟩ = some (.int .i64 x.hour) := (blk_cell HX6.out 1).trans rfl
            have x2 : W6.cell? ⟨wr.heap.size, 2, none⟩ = some (.int .i64 x.kind) := (blk_cell HX6.out 2).trans rfl
            have x3 : W6.cell? ⟨wr.heap.size, 3, none⟩ = some (.int .i64 x.player) := (blk_cell HX6.out 3).trans rfl
            have x4 : W6.cell? ⟨wr.heap.size, 4, none⟩ = some (.int .i64 x.rank) := (blk_cell HX6.out 4).trans rfl
            go_wp2_with (refine wpList_store_row rfl 40 _ _ rfl (w.heap.size + 1) _ rfl rfl 40 _ HAW.out ntRow rfl (by simp [Value.oneCell']) ?_)
            obtain ⟨W9, hW9⟩ : ∃ W9, W6.setRow (w.heap.size + 1) #[.int .i64 x.id, .int .i64 x.hour, .int .i64 x.kind, .int .i64 x.player, .int .i64 x.rank] = W9 := ⟨_, rfl⟩
            have HR9 := hide (show W9.heap[w.heap.size + 1]? = some (.cells #[.int .i64 x.id, .int .i64 x.hour, .int .i64 x.kind, .int .i64 x.player, .int .i64 x.rank] 40 (0, 0)) by rw [← hW9]; exact setRow_heap1 HAW.out)
            have HG9 := hide (show W6.grownBy W9 (some (w.heap.size + 1)) by rw [← hW9]; exact setRow_grown _ _ _)
            (try rw [hW9])
            clear hW9 x0 x1 x2 x3 x4
            go_roundw
            case rel => exact ⟨k + 1, x, by omega, by go_num, hide (by rw [HTK.out, E.entF_app, ← HE.out]; exact HS.out.symm), hide ((HG9.out.block _ (Nat.lt_of_lt_of_le g0 HBW.out.size) (by simp)).trans ((HBW.out.block _ g0).trans HF.out)), hide HR9.out, hide (zbT (zbT HBr.out HBW.out (Nat.le_of_lt g0)) (grown_below (B := w.heap.size) HG9.out (Nat.le_trans (Nat.le_of_lt g0) HBW.out.size) (fun g e => by have h1 := Option.some.inj e; omega)) (Nat.le_refl _))⟩
            case measure => simp [intOf]; omega
    · have hkn : k = n := by omega
      subst hkn
      have HEE := hide (show a = E.entF f h p l by have := HE.out; rw [List.take_of_length_le (by have := HN.out; omega)] at this; exact this)
      obtain ⟨q1, hq1⟩ : ∃ q, decide (a.hour ≤ 9999) = q := ⟨_, rfl⟩
      obtain ⟨q2, hq2⟩ : ∃ q, (a.kind == 2) = q := ⟨_, rfl⟩
      have HQ1 := hide (show decide ((E.entF f h p l).hour ≤ 9999) = q1 by rw [← HEE.out]; exact hq1)
      have HQ2 := hide (show decide ((E.entF f h p l).kind = 2) = q2 by rw [← HEE.out, ← hq2]; by_cases h : a.kind = 2 <;> simp [h])

      go_wp2_with fail
      go_quiet (fail)
      go_wp2_with fail
      refine bodyPost_ret (v := .tuple #[.bool q1, .bool q2, .int .i64 a.rank]) (by simp [results, Try.results22, go_sem]) rfl ?_
      exact ⟨by rw [HQ1.out, HQ2.out, ← HEE.out], by first | exact HBr.out | exact below_drewN HBr.out _⟩

end Go.Proofs.Ytklomhmdiflfaaa

namespace Go.Proofs.Ytklomhmdiflfaaa
open Go.RowKit
attribute [local go_sem ↓] Go.wp_at_zero Go.wp_at_succ

namespace E
theorem fold_bd : ∀ (l : List Nt) (s : St) (k : Nat), Bd k s → Bd (k + l.length) (l.foldl St.take s)
  | [], _, _, h => h
  | x :: r, s, k, h => by
    have := fold_bd r (s.take x) (k + 1) (take_bd h x)
    rw [List.length_cons]
    rw [show k + 1 + r.length = k + (r.length + 1) by omega] at this
    exact this
theorem atL_len {f : Fd} {h : Int} {d : List Nt} (h0 : 0 ≤ f.places) (h1 : f.places ≤ 32) (hl : d.length ≤ 60) : (atL f h d).main.length ≤ 1000 ∧ (atL f h d).cards.length ≤ 1000 := by
  have := fold_bd (d.filter (fun x => decide (x.hour ≤ h))) (St.new f) 0 (new_bd h0 h1)
  have h2 := this.main
  have h3 := this.cards
  have h4 := List.length_filter_le (fun x => decide (x.hour ≤ h)) d
  exact ⟨Nat.le_trans h2 (by omega), Nat.le_trans h3 (by omega)⟩
end E
theorem list_ok (f : E.Fd) (A : Option Addr) (n c : Nat) (l : List E.Nt) (h : Int) (d : List E.Nt) (M C : List Int) (w : World) (hn : l.length = n) (hr : RdN w w.heap.size A l) (hid : ∀ x ∈ l, (Lit.int .i64 x.id).wf = true) (hm : n ≤ 1000000) (hd : E.diffs l = some d) (he : E.errE f l h 0 = 0) (hM : (E.atL f h d).main = M) (hC : (E.atL f h d).cards = C) :
    Calls Try.prog 14 #[.agg #[.int .i64 f.places, .int .i64 f.wilds, .int .i64 f.guards, .int .i64 f.close, .int .i64 f.freeze], .slice A n c, .int .i64 h] w fun e w' => ∃ A1 c1 A2 c2 A3 c3 n3 P, e = .returned (.tuple #[.agg #[.slice A1 M.length c1, .slice A2 C.length c2, .slice A3 n3 c3, .int .i64 P], .int .i64 0]) ∧ RdI w' w'.heap.size A1 M ∧ RdI w' w'.heap.size A2 C ∧ Below w.heap.size w w' := by
  refine (List_any f A n c l h w hn hr hid hm).mono ?_
  rintro e w' ⟨(⟨h0, _⟩ | ⟨_, d', A1, c1, A2, c2, A3, c3, hd', rfl, h1, h2, h3⟩), hb⟩
  · exact absurd he h0
  · have e0 : d' = d := by rw [hd] at hd'; exact (Option.some.inj hd').symm
    subst e0
    have r1 := owns_RdI h1 rfl
    have r2 := owns_RdI h2 rfl
    rw [hM] at r1
    rw [hC] at r2
    exact ⟨A1, c1, A2, c2, A3, c3, _, _, by rw [hM, hC], r1, r2, hb⟩

set_option maxHeartbeats 1600000 in
theorem has_any (A : Option Addr) (n c : Nat) (xs : List Int) (y : Int) (w : World) (hn : xs.length = n) (hr : RdI w w.heap.size A xs) (hm : n ≤ 1000000) :
    Calls Try.prog 21 #[.slice A n c, .int .i64 y] w fun e w' => e = .returned (.bool (xs.contains y)) ∧ w = w' := by
  have HN := hide hn
  have HR := hide hr
  obtain ⟨q, hq⟩ : ∃ q, xs.contains y = q := ⟨_, rfl⟩
  rw [hq]
  have HQ := hide hq
  clear hn hr hq
  go_enter Try.func21, Try.ntmps21
  go_wp2_with fail
  go_loop [5] (fun i => ∃ k : Nat, k ≤ n ∧ i = .int .i64 k ∧ Hid (∀ j, j < k → xs[j]? ≠ some y)) (fun i => n - (intOf i).toNat)
  case atStart => exact ⟨0, by omega, rfl, hide (fun j hj => by omega)⟩
  case round =>
    obtain ⟨k, hk, rfl, HZ⟩ := hrel
    by_cases hlt : k < n
    · obtain ⟨x, hx⟩ : ∃ q, xs[k]? = some q := ⟨_, List.getElem?_eq_getElem (by have := HN.out; omega)⟩
      obtain ⟨b, o, hA, hbB, c0⟩ := HR.out k x hx
      subst hA
      have HX := hide hx
      clear hx
      have hlt' : (k : Int) < (n : Int) := by omega
      have hk0 : (0 : Int) ≤ (k : Int) := by omega
      cases h0 : (x == y)
      · have HX0 := hide (show x ≠ y by simpa using h0)
        go_wp2_with fail
        go_round
        case rel => exact ⟨k + 1, by omega, by go_num, hide (fun j hj => by
          rcases Nat.lt_or_ge j k with h | h
          · exact HZ.out j h
          · have : j = k := by omega
            rw [this, HX.out]
            intro e
            exact HX0.out (Option.some.inj e))⟩
        case measure => simp [intOf]; omega
      · have HX0 := hide (show x = y by simpa using h0)
        go_wp2_with fail
        go_ret
        have hq : q = true := HQ.out.symm.trans (by rw [List.contains_eq_mem, decide_eq_true_eq, ← HX0.out]; exact List.mem_of_getElem? HX.out)
        subst hq
        exact ⟨rfl, rfl⟩
    · have hkn : k = n := by omega
      subst hkn
      go_wp2_with fail
      go_ret
      have hq : q = false := HQ.out.symm.trans (by
        rw [List.contains_eq_mem, decide_eq_false_iff_not]
        intro hmem
        obtain ⟨j, hj⟩ := List.mem_iff_getElem?.1 hmem
        exact HZ.out j (by have := (List.getElem?_eq_some_iff.1 hj).1; have := HN.out; omega) hj)
      subst hq
      exact ⟨rfl, rfl⟩

end Go.Proofs.Ytklomhmdiflfaaa

namespace Go.Proofs.Ytklomhmdiflfaaa
open Go.RowKit

namespace E
def cntG (f : Fd) (h : Int) (l : List Nt) (xs : List Int) : Int := (xs.map fun k => one (decide ((entF f h k l).kind = 2))).sum
theorem cnt_nil (f : Fd) (h : Int) (l : List Nt) : cntG f h l [] = 0 := rfl
theorem cnt_take (f : Fd) (h : Int) (l : List Nt) {xs : List Int} {k : Nat} {m : Int} (hm : xs[k]? = some m) : cntG f h l (xs.take (k + 1)) = cntG f h l (xs.take k) + one (decide ((entF f h m l).kind = 2)) := by
  have : xs.take (k + 1) = xs.take k ++ [m] := by rw [List.take_add_one, hm]; rfl
  unfold cntG
  rw [this, List.map_append, List.sum_append]
  simp
theorem cnt_bd (f : Fd) (h : Int) (l : List Nt) : ∀ xs : List Int, 0 ≤ cntG f h l xs ∧ cntG f h l xs ≤ (xs.length : Int)
  | [] => by simp [cntG]
  | a :: r => by
    have ih := cnt_bd f h l r
    have h1 := one_bd (decide ((entF f h a l).kind = 2))
    have e : cntG f h l (a :: r) = one (decide ((entF f h a l).kind = 2)) + cntG f h l r := by simp [cntG]
    rw [e, List.length_cons]
    push_cast
    omega
theorem cnt_guards {l d : List Nt} (hd : diffs l = some d) (f : Fd) (h : Int) (xs : List Int) : cntG f h l xs = (atL f h d).guardsOf xs := by
  unfold cntG St.guardsOf
  congr 1
  refine List.map_congr_left fun k _ => ?_
  have h1 : ((atL f h d).pl k).grd = decide ((entF f h k l).kind = 2) := congrArg (fun t => t.2.1) (entered_eq hd f h k)
  rw [h1]
theorem known_said (s : St) (x : Nt) : (s.said x).known.length ≤ s.known.length + 1 := by
  have hp : ∀ k : Int, (if k ∈ s.known then s.known else s.known ++ [k]).length ≤ s.known.length + 1 := fun k => by split <;> simp
  unfold St.said
  dsimp only
  repeat' split
  all_goals exact hp _
theorem known_fold : ∀ (r : List Nt) (s : St), (r.foldl St.take s).known.length ≤ s.known.length + r.length
  | [], s => by simp
  | x :: r, s => by
    have h1 := known_fold r (s.take x)
    have h2 : (s.take x).known.length ≤ s.known.length + 1 := known_said s x
    rw [List.foldl_cons, List.length_cons]
    omega
theorem alts_len {f : Fd} {h : Int} {d : List Nt} (hl : d.length ≤ 60) : (atL f h d).alts.length ≤ 1000 := by
  have h1 := known_fold (d.filter (fun x => decide (x.hour ≤ h))) (St.new f)
  have h2 := List.length_filter_le (fun x => decide (x.hour ≤ h)) d
  have h3 : (St.new f).known.length = 0 := rfl
  have h4 : (atL f h d).alts.length ≤ (atL f h d).order.length := List.length_filter_le _ _
  have h5 : (atL f h d).order.length ≤ (atL f h d).known.length := by
    unfold St.order
    rw [List.length_mergeSort]
    exact List.length_filter_le _ _
  have h6 : (atL f h d).known.length ≤ (St.new f).known.length + (d.filter (fun x => decide (x.hour ≤ h))).length := h1
  omega

def Rgt (f : Fd) (h : Int) (l : List Nt) (M : List Int) (P : Int) (o : Int) : Prop :=
  (h ≤ f.freeze → P ≤ 0 ∧ ∀ m ∈ M, ¬ (0 < (entF f h o l).rank ∧ ((entF f h m l).rank = 0 ∨ (entF f h o l).rank < (entF f h m l).rank))) ∧
  (f.freeze < h → (∃ x ∈ l, f.freeze < x.hour ∧ x.hour ≤ h) → (∃ x ∈ l, x.kind = 5 ∧ x.player = o ∧ x.hour ≤ h) → P ≤ 0)
theorem right_law {f : Fd} {l d : List Nt} (hd : diffs l = some d) (h : Int) {M O : List Int} {P : Int} (hM : (atL f h d).main = M) (hO : (atL f h d).alts = O) (hP : (atL f h d).f.places - ((atL f h d).main.length : Int) = P) {o : Int} (ho : o ∈ O) (hb : (decide ((entF f h o l).kind = 2) && decide (f.guards ≤ cntG f h l M)) = false) : Rgt f h l M P o := by
  have hb' : ¬ ((entF f h o l).kind = 2 ∧ f.guards ≤ (atL f h d).guardsOf (atL f h d).main) := fun hh => by
    rw [← cnt_guards hd, hM] at hh
    rw [decide_eq_true hh.1, decide_eq_true hh.2] at hb
    cases hb
  have h1 := right (f := f) hd h (o := o) (by rw [hO]; exact ho) hb'
  rw [hM] at h1
  rw [hM] at hP
  refine ⟨fun hz => ⟨by have := (h1.1 hz).1; omega, (h1.1 hz).2⟩, fun hz a b => by have := h1.2 hz a b; omega⟩
end E

theorem list_ok3 (f : E.Fd) (A : Option Addr) (n c : Nat) (l : List E.Nt) (h : Int) (d : List E.Nt) (M O : List Int) (P : Int) (w : World) (hn : l.length = n) (hr : RdN w w.heap.size A l) (hid : ∀ x ∈ l, (Lit.int .i64 x.id).wf = true) (hm : n ≤ 1000000) (hd : E.diffs l = some d) (he : E.errE f l h 0 = 0) (hM : (E.atL f h d).main = M) (hO : (E.atL f h d).alts = O) (hP : (E.atL f h d).f.places - ((E.atL f h d).main.length : Int) = P) :
    Calls Try.prog 14 #[.agg #[.int .i64 f.places, .int .i64 f.wilds, .int .i64 f.guards, .int .i64 f.close, .int .i64 f.freeze], .slice A n c, .int .i64 h] w fun e w' => ∃ A1 c1 A2 n2 c2 A3 c3, e = .returned (.tuple #[.agg #[.slice A1 M.length c1, .slice A2 n2 c2, .slice A3 O.length c3, .int .i64 P], .int .i64 0]) ∧ RdI w' w'.heap.size A1 M ∧ RdI w' w'.heap.size A3 O ∧ Below w.heap.size w w' := by
  refine (List_any f A n c l h w hn hr hid hm).mono ?_
  rintro e w' ⟨(⟨h0, _⟩ | ⟨_, d', A1, c1, A2, c2, A3, c3, hd', rfl, h1, h2, h3⟩), hb⟩
  · exact absurd he h0
  · have e0 : d' = d := by rw [hd] at hd'; exact (Option.some.inj hd').symm
    subst e0
    have r1 := owns_RdI h1 rfl
    have r3 := owns_RdI h3 rfl
    rw [hM] at r1
    rw [hO] at r3
    exact ⟨A1, c1, A2, _, c2, A3, c3, by rw [hP, hM, hO], r1, r3, hb⟩
end Go.Proofs.Ytklomhmdiflfaaa

namespace Go.Proofs.Ytklomhmdiflfaaa
namespace E

theorem fill_nodup {s : St} (lt : Bool) : ∀ (l acc : List Int) (g : Int), (acc ++ l).Nodup → (s.fill lt l acc g).Nodup
  | [], acc, _, h => by simpa [St.fill] using h
  | a :: r, acc, g, h => by
    unfold St.fill
    split
    · exact fill_nodup lt r (acc ++ [a]) _ (by simpa using h)
    · exact fill_nodup lt r acc g (List.Nodup.sublist (List.Sublist.append_left (List.sublist_cons_self a r) acc) h)
theorem fill_grd {s : St} (lt : Bool) : ∀ (l acc : List Int) (g : Int), g = s.guardsOf acc → s.guardsOf acc ≤ s.f.guards → s.guardsOf (s.fill lt l acc g) ≤ s.f.guards
  | [], acc, _, _, h => h
  | a :: r, acc, g, hg, h => by
    unfold St.fill
    split
    · rename_i hc
      refine fill_grd lt r (acc ++ [a]) _ (by rw [guardsOf_app, guardsOf_one, hg]) ?_
      rw [guardsOf_app, guardsOf_one]
      rcases hc.2.2 with h1 | h1
      · have := one_bd (s.pl a).grd; omega
      · rw [h1]; show _ + (0 : Int) ≤ _; omega
    · exact fill_grd lt r acc g hg h
theorem fill_room {s : St} (lt : Bool) : ∀ (l acc : List Int) (g : Int), (acc.length : Int) ≤ s.f.places → ((s.fill lt l acc g).length : Int) ≤ s.f.places
  | [], acc, _, h => h
  | a :: r, acc, g, h => by
    unfold St.fill
    split
    · rename_i hc
      exact fill_room lt r (acc ++ [a]) _ (by rw [List.length_append, List.length_singleton]; push_cast; omega)
    · exact fill_room lt r acc g h
theorem guardsOf_filter (s : St) (p : Int → Bool) : ∀ (l : List Int), s.guardsOf (l.filter p) ≤ s.guardsOf l
  | [] => Int.le_refl _
  | a :: r => by
    have ih := guardsOf_filter s p r
    have h1 := one_bd (s.pl a).grd
    have e : s.guardsOf (a :: r) = one (s.pl a).grd + s.guardsOf r := by simp [St.guardsOf]
    by_cases h : p a = true
    · rw [List.filter_cons_of_pos h]
      have e2 : s.guardsOf (a :: r.filter p) = one (s.pl a).grd + s.guardsOf (r.filter p) := by simp [St.guardsOf]
      omega
    · rw [List.filter_cons_of_neg h]; omega
theorem guardsOf_congr {s u : St} : ∀ (l : List Int), (∀ k ∈ l, (u.pl k).grd = (s.pl k).grd) → u.guardsOf l = s.guardsOf l := by
  intro l h
  unfold St.guardsOf
  congr 1
  exact List.map_congr_left (fun k hk => by rw [h k hk])

structure Plc (s : St) : Prop where
  room : (s.main.length : Int) ≤ s.f.places
  wilds : (s.cards.length : Int) ≤ s.f.wilds
  mnd : s.main.Nodup
  cnd : s.cards.Nodup
  cards : CardsOk s
  ment : ∀ k ∈ s.main, (s.pl k).entry = true
  guards : s.guardsOf s.main ≤ s.f.guards
  g0 : 0 ≤ s.f.guards
  cf : s.f.close ≤ s.f.freeze

theorem said_wilds (s : St) (x : Nt) : (s.said x).f.wilds = s.f.wilds := by
  unfold St.said
  dsimp only
  repeat' split
  all_goals (first | rfl | (simp only [St.put]; split <;> rfl))
theorem said_main (s : St) (x : Nt) : (s.said x).main = s.main := by
  unfold St.said
  dsimp only
  repeat' split
  all_goals rfl
theorem said_places (s : St) (x : Nt) : s.f.places ≤ (s.said x).f.places := by
  unfold St.said
  dsimp only
  repeat' split
  all_goals first
    | exact Int.le_refl _
    | (show _ ≤ s.f.places + 1; omega)
theorem said_cards {s : St} (h : CardsOk s) (x : Nt) (hn : s.cards.Nodup) (hl : (s.cards.length : Int) ≤ s.f.wilds) : (s.said x).cards.Nodup ∧ ((s.said x).cards.length : Int) ≤ s.f.wilds := by
  unfold St.said
  dsimp only
  repeat' split
  all_goals first
    | exact ⟨hn, hl⟩
    | (rename_i hc
       refine ⟨?_, ?_⟩
       · show (s.cards ++ [x.player]).Nodup
         rw [List.nodup_append]
         refine ⟨hn, by simp, fun a ha b hb e => ?_⟩
         simp only [List.mem_singleton] at hb
         rw [e, hb] at ha
         have := ((h x.player).1 ha).1
         rw [hc.2.1] at this; cases this
       · show (((s.cards ++ [x.player]).length : Nat) : Int) ≤ _
         rw [List.length_append, List.length_singleton]; push_cast; have := hc.2.2.2; omega)
    | exact ⟨List.Nodup.sublist List.filter_sublist hn, Int.le_trans (by show (((s.cards.filter _).length : Nat) : Int) ≤ _; exact Int.ofNat_le.2 (List.length_filter_le _ _)) hl⟩

theorem plc_new {f : Fd} (h : validField f = true) : Plc (St.new f) := by
  have := valid_places h
  unfold validField at h
  simp only [Bool.and_eq_true] at h
  unfold within at h
  simp only [Bool.and_eq_true, decide_eq_true_eq] at h
  refine ⟨?_, ?_, List.nodup_nil, List.nodup_nil, cards_new f, (fun k hk => by cases hk), ?_, ?_, ?_⟩
  · show ((0 : Nat) : Int) ≤ f.places; omega
  · show ((0 : Nat) : Int) ≤ f.wilds; omega
  · show (0 : Int) ≤ f.guards; omega
  · show (0 : Int) ≤ f.guards; omega
  · show f.close ≤ f.freeze; omega
theorem plc_take {s : St} (hs : StOk s) (hT : 0 ≤ s.turns) (h : Plc s) (x : Nt) (hx : 0 ≤ x.player ∧ x.player ≤ 999) : Plc (s.take x) := by
  have hu := said_ok hs x hx hT
  have hm := said_main s x
  have hp := said_places s x
  have hg := said_guards s x
  have hw := said_wilds s x
  have hc := said_cards h.cards x h.cnd h.wilds
  have hce := said_fd s x
  have hfe := said_freeze s x
  have hment := main_entry s x
  have hlate : late s.f x.hour = true → ∀ k, ((s.said x).pl k).grd = (s.pl k).grd := fun hl k => by
    have h1 : s.f.freeze < x.hour := of_decide_eq_true hl
    have h2 := h.cf
    exact (said_lateS s x (by omega)).grd k
  obtain ⟨lt, hlt⟩ : ∃ b, late s.f x.hour = b := ⟨_, rfl⟩
  have et : s.take x = (s.said x).settle lt := by rw [← hlt]; rfl
  have hgr : (s.said x).guardsOf ((s.said x).main.filter (fun k => lt && ((s.said x).pl k).entry)) ≤ (s.said x).f.guards := by
    cases lt with
    | false =>
      have e : (s.said x).main.filter (fun k => false && ((s.said x).pl k).entry) = [] := by simp
      rw [e, hg]; exact h.g0
    | true =>
      refine Int.le_trans (guardsOf_filter _ _ _) ?_
      rw [hm, hg, guardsOf_congr (s := s) (u := s.said x) s.main (fun k _ => hlate hlt k)]
      exact h.guards
  rw [et] at hment ⊢
  refine ⟨?_, ?_, ?_, hc.1, (cards_take h.cards x), hment, ?_, ?_, ?_⟩
  · show ((St.fill (s.said x) lt _ _ _).length : Int) ≤ (s.said x).f.places
    refine fill_room lt _ _ _ (Int.le_trans (Int.ofNat_le.2 (List.length_filter_le _ _)) ?_)
    rw [hm]
    exact Int.le_trans h.room hp
  · show ((s.said x).cards.length : Int) ≤ (s.said x).f.wilds
    rw [hw]; exact hc.2
  · show (St.fill (s.said x) lt _ _ _).Nodup
    refine fill_nodup lt _ _ _ ?_
    rw [List.nodup_append]
    refine ⟨List.Nodup.sublist List.filter_sublist (by rw [hm]; exact h.mnd), List.Nodup.sublist List.filter_sublist (order_nodup (s := { s.said x with main := (s.said x).main.filter (fun k => lt && ((s.said x).pl k).entry) }) ⟨hu.1.known, hu.1.range, hu.1.zero, hu.1.turn, hu.1.apart, fun k hk => hu.1.main k (List.mem_filter.1 hk).1, hu.1.cards⟩), fun a ha b hb e => ?_⟩
    have := (alts_mem.1 hb).2
    rw [e] at ha
    exact this ha
  · exact fill_grd lt _ _ _ rfl hgr
  · show 0 ≤ (s.said x).f.guards
    rw [hg]; exact h.g0
  · show (s.said x).f.close ≤ (s.said x).f.freeze
    rw [hce, hfe]; exact h.cf
theorem plc_fold : ∀ (r : List Nt) (s : St), StOk s → 0 ≤ s.turns → Plc s → (∀ x ∈ r, 0 ≤ x.player ∧ x.player ≤ 999) → Plc (r.foldl St.take s)
  | [], _, _, _, h, _ => h
  | x :: r, s, hs, hT, h, hp => by
    have hx := hp x (List.mem_cons_self ..)
    have h1 := E.take_ok hs x hx hT
    exact plc_fold r (s.take x) h1.1 h1.2 (plc_take hs hT h x hx) (fun y hy => hp y (List.mem_cons_of_mem _ hy))

theorem quit_said (s : St) (x : Nt) (p : Int) : ((s.said x).pl p).quit = ((s.pl p).quit || (decide (x.kind = 4) && decide (x.player = p))) := by
  have put : ∀ (s0 : St) (q : Pl), (s0.put x.player q).pl p = if p = x.player then q else s0.pl p := fun _ _ => rfl
  unfold St.said
  dsimp only
  by_cases hp : p = x.player
  · subst hp
    repeat' split
    all_goals (rw [put, if_pos rfl])
    all_goals first
      | (rename_i h _; have h5 : ¬ x.kind = 4 := (by omega); simp [h5]; done)
      | (rename_i h; have h5 : ¬ x.kind = 4 := (by omega); simp [h5]; done)
      | (rename_i h; simp [h]; done)
      | (rename_i h _; simp [h]; done)
  · have e : decide (x.player = p) = false := decide_eq_false (fun h => hp h.symm)
    rw [e, Bool.and_false, Bool.or_false]
    repeat' split
    all_goals rw [put, if_neg hp]
theorem quit_fold (p : Int) : ∀ (r : List Nt) (s : St), ((r.foldl St.take s).pl p).quit = true ↔ (s.pl p).quit = true ∨ ∃ x ∈ r, x.kind = 4 ∧ x.player = p
  | [], s => by simp
  | x :: r, s => by
    have e : ((s.take x).pl p).quit = ((s.said x).pl p).quit := rfl
    rw [List.foldl_cons, quit_fold p r, e, quit_said]
    simp only [Bool.or_eq_true, Bool.and_eq_true, decide_eq_true_eq, List.mem_cons]
    constructor
    · rintro ((h | h) | ⟨y, hy, h⟩)
      · exact .inl h
      · exact .inr ⟨x, .inl rfl, h⟩
      · exact .inr ⟨y, .inr hy, h⟩
    · rintro (h | ⟨y, rfl | hy, h⟩)
      · exact .inl (.inl h)
      · exact .inl (.inr h)
      · exact .inr ⟨y, hy, h⟩

theorem late_count {s : St} (h : CardsOk s) (hn : s.cards.Nodup) (x : Nt) (hl : late s.f x.hour = true) : (s.take x).f.places + ((s.take x).cards.length : Int) = s.f.places + (s.cards.length : Int) ∧ (s.take x).cards.Sublist s.cards := by
  show (s.said x).f.places + ((s.said x).cards.length : Int) = _ ∧ (s.said x).cards.Sublist s.cards
  unfold St.said
  dsimp only
  rw [hl]
  by_cases k12 : x.kind = 1 ∨ x.kind = 2
  · rw [if_pos k12]
    split
    · exact ⟨rfl, List.Sublist.refl _⟩
    · exact ⟨rfl, List.Sublist.refl _⟩
  · rw [if_neg k12]
    by_cases k3 : x.kind = 3
    · rw [if_pos k3, if_neg (fun hh => by cases hh.1)]
      exact ⟨rfl, List.Sublist.refl _⟩
    · rw [if_neg k3]
      by_cases k4 : x.kind = 4
      · rw [if_pos k4]
        refine ⟨?_, List.filter_sublist⟩
        by_cases hc : x.player ∈ s.cards
        · have h1 := (h x.player).1 hc
          rw [if_pos ⟨rfl, h1⟩]
          show s.f.places + 1 + ((s.cards.filter (fun k => k != x.player)).length : Int) = _
          have e : s.cards.filter (fun k => k != x.player) = s.cards.erase x.player := (List.Nodup.erase_eq_filter hn x.player).symm
          rw [e, List.length_erase_of_mem hc]
          have := List.length_pos_of_mem hc
          omega
        · have h1 : ¬ (True ∧ (s.pl x.player).card = true ∧ (s.pl x.player).quit = false) := fun hh => hc ((h x.player).2 hh.2)
          rw [if_neg (fun hh => h1 ⟨trivial, hh.2⟩)]
          show s.f.places + ((s.cards.filter (fun k => k != x.player)).length : Int) = _
          rw [List.filter_eq_self.2 (fun k hk => by simp only [bne_iff_ne, ne_eq]; exact fun e => hc (e ▸ hk))]
      · rw [if_neg k4]
        split
        · exact ⟨rfl, List.Sublist.refl _⟩
        · exact ⟨rfl, List.Sublist.refl _⟩
theorem late_fold (z : Int) : ∀ (r : List Nt) (s : St), StOk s → 0 ≤ s.turns → Plc s → (∀ x ∈ r, 0 ≤ x.player ∧ x.player ≤ 999) → s.f.freeze = z → (∀ x ∈ r, z < x.hour) → (r.foldl St.take s).f.places + ((r.foldl St.take s).cards.length : Int) = s.f.places + (s.cards.length : Int) ∧ (r.foldl St.take s).cards.Sublist s.cards
  | [], _, _, _, _, _, _, _ => ⟨rfl, List.Sublist.refl _⟩
  | x :: r, s, hs, hT, h, hp, hz, hr => by
    have hx := hp x (List.mem_cons_self ..)
    have h1 := E.take_ok hs x hx hT
    have hl : late s.f x.hour = true := by unfold late; rw [hz]; exact decide_eq_true (hr x (List.mem_cons_self ..))
    obtain ⟨h2, h3⟩ := late_count h.cards h.cnd x hl
    obtain ⟨h4, h5⟩ := late_fold z r (s.take x) h1.1 h1.2 (plc_take hs hT h x hx) (fun y hy => hp y (List.mem_cons_of_mem _ hy)) ((said_freeze s x).trans hz) (fun y hy => hr y (List.mem_cons_of_mem _ hy))
    exact ⟨h4.trans h2, h5.trans h3⟩
theorem early_places (s : St) (x : Nt) (hl : late s.f x.hour = false) : (s.take x).f.places = s.f.places := by
  show (s.said x).f.places = _
  unfold St.said
  dsimp only
  rw [hl]
  repeat' split
  all_goals first
    | rfl
    | (rename_i hh; cases hh.1)
theorem early_fold (z : Int) : ∀ (r : List Nt) (s : St), s.f.freeze = z → (∀ x ∈ r, x.hour ≤ z) → (r.foldl St.take s).f.places = s.f.places
  | [], _, _, _ => rfl
  | x :: r, s, hz, hr => by
    have hl : late s.f x.hour = false := by unfold late; rw [hz]; have := hr x (List.mem_cons_self ..); exact decide_eq_false (by omega)
    exact (early_fold z r (s.take x) ((said_freeze s x).trans hz) (fun y hy => hr y (List.mem_cons_of_mem _ hy))).trans (early_places s x hl)

theorem sub_count : ∀ {a b : List Int}, a.Sublist b → b.Nodup → ((b.filter (fun k => !a.contains k)).length : Int) = (b.length : Int) - (a.length : Int) := by
  intro a b h hn
  have h1 : (b.filter (fun k => a.contains k)) = a := by
    induction h with
    | slnil => rfl
    | @cons l1 l2 c h ih =>
      have hc := List.nodup_cons.1 hn
      rw [List.filter_cons_of_neg (by simp only [List.contains_eq_mem, decide_eq_true_eq]; exact fun e => hc.1 (h.subset e)), ih hc.2]
    | @cons_cons l1 l2 c h ih =>
      have hc := List.nodup_cons.1 hn
      rw [List.filter_cons_of_pos (by simp)]
      congr 1
      refine Eq.trans (List.filter_congr (fun k hk => ?_)) (ih hc.2)
      have : k ≠ c := fun e => hc.1 (e ▸ hk)
      simp [this]
  have h2 := List.length_eq_countP_add_countP (fun k => a.contains k) (l := b)
  rw [List.countP_eq_length_filter, List.countP_eq_length_filter, h1] at h2
  have e : (b.filter (fun k => !a.contains k)) = (b.filter (fun k => decide (¬ (a.contains k = true)))) := List.filter_congr (fun k _ => by cases a.contains k <;> rfl)
  rw [e]
  omega

theorem idx_at {l : List Int} (hn : l.Nodup) {i : Nat} {k : Int} (h : l[i]? = some k) : idx l k = (i : Int) := by
  unfold idx
  have hi := (List.getElem?_eq_some_iff.1 h).1
  have : l.findIdx? (· == k) = some i := by
    rw [List.findIdx?_eq_some_iff_getElem]
    refine ⟨hi, by have := (List.getElem?_eq_some_iff.1 h).2; simp [this], fun j hj => ?_⟩
    simp only [beq_iff_eq]
    intro e
    have h2 := (List.getElem?_eq_some_iff.1 h).2
    exact List.pairwise_iff_getElem.1 hn j i (by omega) hi hj (e.trans h2.symm)
  rw [this]
theorem idx_no {l : List Int} {k : Int} (h : k ∉ l) : idx l k = -1 := by
  unfold idx
  have : l.findIdx? (· == k) = none := by
    rw [List.findIdx?_eq_none_iff]
    intro y hy
    simp only [beq_eq_false_iff_ne, ne_eq]
    exact fun e => h (e ▸ hy)
  rw [this]

structure PlcAt (f : Fd) (h : Int) (l d : List Nt) (i : Nat) (k : Int) (S : St) : Prop where
  stand : S.where_ k = if i < S.main.length then (1, (i : Int) + 1) else if i < S.main.length + S.cards.length then (2, (i : Int) + 1 - S.main.length) else (3, (i : Int) + 1 - S.main.length - S.cards.length)
  quit : ∀ x ∈ l, ¬ (x.player = k ∧ x.kind = 4 ∧ x.hour ≤ h)
  ent : (i < S.main.length ∨ S.main.length + S.cards.length ≤ i) → (entF f h k l).hour ≤ 9999

theorem places {f : Fd} {l d : List Nt} (hd : diffs l = some d) (hv : validField f = true) (h : Int) (S : St) (hS : atL f h d = S) :
    (S.main.length : Int) ≤ S.f.places ∧ (S.cards.length : Int) ≤ f.wilds ∧ (S.main ++ S.cards ++ S.alts).Nodup ∧ (∀ (i : Nat) (k : Int), (S.main ++ S.cards ++ S.alts)[i]? = some k → PlcAt f h l d i k S) ∧
    S.guardsOf S.main ≤ f.guards ∧ (h ≤ f.freeze → S.f.places = f.places) ∧ (f.freeze < h → S.f.places = f.places + (((atL f f.freeze d).cards.filter (fun k => !S.cards.contains k)).length : Int)) := by
  obtain ⟨_, ht, hm⟩ := diffs_spec hd
  have hp : ∀ x ∈ d, 0 ≤ x.player ∧ x.player ≤ 999 := fun x hx => valid_player (ht.valid x hx)
  have hs := taken_hours ht
  have hpl : ∀ u, Plc (atL f u d) := fun u => plc_fold _ _ (new_ok f) (Int.le_refl _) (plc_new hv) (fun x hx => hp x (List.mem_filter.1 hx).1)
  have hok : ∀ u, StOk (atL f u d) ∧ 0 ≤ (atL f u d).turns := fun u => atL_ok f u hp
  have hfw : ∀ u, (atL f u d).f.wilds = f.wilds := fun u => by
    have : ∀ (r : List Nt) (s : St), (r.foldl St.take s).f.wilds = s.f.wilds := by
      intro r
      induction r with
      | nil => intro s; rfl
      | cons x r ih => intro s; exact (ih (s.take x)).trans (said_wilds s x)
    exact this _ _
  have hfg : ∀ u, (atL f u d).f.guards = f.guards := fun u => fold_guards _ _
  have P := hpl h
  have O := hok h
  have hent := fun k => entered_eq hd f h k
  have hquit : ∀ k, ((atL f h d).pl k).quit = true ↔ ∃ x ∈ l, x.player = k ∧ x.kind = 4 ∧ x.hour ≤ h := fun k => by
    have := quit_fold k (d.filter (fun x => decide (x.hour ≤ h))) (St.new f)
    change ((atL f h d).pl k).quit = true ↔ _ at this
    rw [this]
    constructor
    · rintro (h1 | ⟨x, hx, h1, h2⟩)
      · cases h1
      · obtain ⟨h3, h4⟩ := List.mem_filter.1 hx
        exact ⟨x, (hm x).1 h3, h2, h1, of_decide_eq_true h4⟩
    · rintro ⟨x, hx, h1, h2, h3⟩
      exact .inr ⟨x, List.mem_filter.2 ⟨(hm x).2 hx, decide_eq_true h3⟩, h2, h1⟩
  have hearly : ∀ u, u ≤ f.freeze → (atL f u d).f.places = f.places := fun u hu => early_fold f.freeze _ (St.new f) rfl (fun x hx => by have := of_decide_eq_true (List.mem_filter.1 hx).2; omega)
  have hlate : f.freeze < h → (atL f h d).f.places + ((atL f h d).cards.length : Int) = (atL f f.freeze d).f.places + ((atL f f.freeze d).cards.length : Int) ∧ (atL f h d).cards.Sublist (atL f f.freeze d).cards := fun hz => by
    have e2 : atL f h d = (d.filter (fun x => decide (f.freeze < x.hour) && decide (x.hour ≤ h))).foldl St.take (atL f f.freeze d) := by
      unfold atL
      rw [filter_split (h1 := f.freeze) (by omega) d hs, List.foldl_append]
    rw [e2]
    exact late_fold f.freeze _ _ (hok f.freeze).1 (hok f.freeze).2 (hpl f.freeze) (fun x hx => hp x (List.mem_filter.1 hx).1) (fold_fd _ _).2 (fun x hx => by have := (List.mem_filter.1 hx).2; simp at this; omega)
  rw [hS] at P O hent hquit hlate
  have hfw' := hfw h
  have hfg' := hfg h
  have hea := hearly h
  rw [hS] at hfw' hfg' hea

  have hment : ∀ k ∈ S.main, (S.pl k).entry = true := P.ment
  have haent : ∀ k ∈ S.alts, (S.pl k).entry = true := fun k hk => (order_mem.1 (alts_mem.1 hk).1).2
  have hcnot : ∀ k, (S.pl k).entry = true → k ∉ S.cards := fun k he hk => by
    have := ((P.cards k).1 hk).1
    unfold Pl.entry at he
    rw [this] at he
    simp at he
  have hnda : S.alts.Nodup := List.Nodup.sublist List.filter_sublist (order_nodup O.1)
  have hnd : (S.main ++ S.cards ++ S.alts).Nodup := by
    rw [List.nodup_append, List.nodup_append]
    refine ⟨⟨P.mnd, P.cnd, fun a ha b hb e => hcnot a (hment a ha) (e ▸ hb)⟩, hnda, fun a ha b hb e => ?_⟩
    subst e
    rcases List.mem_append.1 ha with h1 | h1
    · exact (alts_mem.1 hb).2 h1
    · exact hcnot a (haent a hb) h1
  refine ⟨P.room, by rw [← hfw']; exact P.wilds, hnd, fun i k hik => ?_, by rw [← hfg']; exact P.guards, hea, fun hz => ?_⟩
  · have hquitEnt : (S.pl k).entry = true → (S.pl k).quit = false := fun he => by
      unfold Pl.entry at he
      simp only [Bool.and_eq_true, Bool.not_eq_true'] at he
      exact he.1.2
    have entEnt : (S.pl k).entry = true → (entF f h k l).hour ≤ 9999 := fun he => by
      have h1 := congrArg (fun t => t.1) (hent k)
      have h2 : (tri (S.pl k)).1 = true := entry_ent he
      have h3 : decide ((entF f h k l).hour ≤ 9999) = true := h1.symm.trans h2
      exact of_decide_eq_true h3
    have noquit : (S.pl k).quit = false → ∀ x ∈ l, ¬ (x.player = k ∧ x.kind = 4 ∧ x.hour ≤ h) := fun hq x hx hh => by
      have := (hquit k).2 ⟨x, hx, hh⟩
      rw [hq] at this; cases this
    by_cases c1 : i < S.main.length
    · have hk : S.main[i]? = some k := by rw [List.append_assoc, List.getElem?_append_left c1] at hik; exact hik
      have hmem := List.mem_of_getElem? hk
      have he := hment k hmem
      refine ⟨?_, noquit (hquitEnt he), fun _ => entEnt he⟩
      rw [if_pos c1]
      unfold St.where_
      rw [idx_at P.mnd hk, if_pos (by omega)]
    · by_cases c2 : i < S.main.length + S.cards.length
      · have hk : S.cards[i - S.main.length]? = some k := by
          rw [List.append_assoc, List.getElem?_append_right (by omega), List.getElem?_append_left (by omega)] at hik; exact hik
        have hmem := List.mem_of_getElem? hk
        have hq := ((P.cards k).1 hmem).2
        have hnm : k ∉ S.main := fun hh => hcnot k (hment k hh) hmem
        refine ⟨?_, noquit hq, fun hh => by omega⟩
        rw [if_neg c1, if_pos c2]
        unfold St.where_
        rw [idx_no hnm, if_neg (by decide), idx_at P.cnd hk, if_pos (by omega)]
        congr 1
        omega
      · have hk : S.alts[i - (S.main.length + S.cards.length)]? = some k := by
          rw [List.getElem?_append_right (by rw [List.length_append]; omega), List.length_append] at hik; exact hik
        have hmem := List.mem_of_getElem? hk
        have he := haent k hmem
        have hnm : k ∉ S.main := (alts_mem.1 hmem).2
        have hnc : k ∉ S.cards := hcnot k he
        refine ⟨?_, noquit (hquitEnt he), fun _ => entEnt he⟩
        rw [if_neg c1, if_neg c2]
        unfold St.where_
        rw [idx_no hnm, if_neg (by decide), idx_no hnc, if_neg (by decide), idx_at hnda hk, if_pos (by omega)]
        congr 1
        omega
  · obtain ⟨h1, h2⟩ := hlate hz
    have h3 := hearly f.freeze (Int.le_refl _)
    have h4 := sub_count h2 (hpl f.freeze).cnd
    omega
end E
end Go.Proofs.Ytklomhmdiflfaaa

namespace Go.Proofs.Ytklomhmdiflfaaa
open Go.RowKit

theorem step_app_ints {w : World} {ops : Array Oper} {o : Oper} {a : Act} {K : Act → World → Prop} {Q : Exit → Act → World → Prop} {E : Prop} (hgd : o.guard = none) (s x : Operand)
    (ho : o.op = .call { callee := .builtin .append, args := #[s, x], argTypes := #[31, 31] }) (base : Nat) (v : Value) (ps : List Int) (m0 : Nat) (hs : a.eval s = v) (hown : w.ownsRow base 3 1 v m0 (flatI ps))
    (A : Option Addr) (n c : Nat) (xs : List Int) (hx : a.eval x = .slice A n c) (hn : xs.length = n) (hr : RdI w w.heap.size A xs) (hA : A = none → c = 0) (N : Nat) (hN : m0 + n = N) (h0 : m0 ≤ 1000) (h1 : n ≤ 1000) (hbase : base ≤ w.heap.size)
    (h : ∀ A' c' w', w'.ownsRow base 3 1 (.slice A' N c') N (flatI (ps ++ xs)) → w.grownBy w' v.ownBlock → K (a.put o.dst (.slice A' N c')) w') :
    if Region.wanted o (yielded ops a.tmps) = true then Oper.wp Try.prog o a w K Q else E := by
  subst hN
  have hw : Region.wanted o (yielded ops a.tmps) = true := by simp [Region.wanted, hgd]
  rw [if_pos hw]
  obtain ⟨A', c', w', hr', h2, h3⟩ := run_app_ints o.type base v ps m0 hown A n c xs hn hr hA h0 h1 hbase
  unfold Oper.wp execOp
  simp only [ho, resolve, invoke, builtin, Sem.run_bind, Sem.run_pure, Result.andThen_ok, List.map_toArray, List.map_cons, List.map_nil, hs, hx, hr']
  exact h A' c' w' h2 h3
theorem owns_empty {w : World} {q B : Nat} (hq : w.heap[q]? = some (.cells #[] 3 (0, 0))) (h : B ≤ q) : w.ownsRow B 3 1 (.slice (some ⟨q, 0, Option.none⟩) 0 0) 0 (flatI []) :=
  ⟨rfl, .inr ⟨q, 0, #[], rfl, h, hq, Nat.le_refl _, Nat.zero_le _, rfl, rfl⟩⟩
theorem owns_cap {w : World} {base : Nat} {e : TypeId} {n m c size : Nat} {xs : List Value} {A : Option Addr} (h : w.ownsRow base e size (.slice A m c) n xs) : A = Option.none → c = 0 := by
  intro hA
  rcases h.2 with ⟨h1, h2⟩ | ⟨g, cap, cur, h1, _⟩
  · simp only [Value.slice.injEq] at h1; exact h1.2.2
  · simp only [Value.slice.injEq] at h1; rw [hA] at h1; cases h1.1

theorem list_ok4 (f : E.Fd) (A : Option Addr) (n c : Nat) (l : List E.Nt) (h : Int) (d : List E.Nt) (M C O : List Int) (P : Int) (w : World) (hn : l.length = n) (hr : RdN w w.heap.size A l) (hid : ∀ x ∈ l, (Lit.int .i64 x.id).wf = true) (hm : n ≤ 1000000) (hd : E.diffs l = some d) (he : E.errE f l h 0 = 0) (hM : (E.atL f h d).main = M) (hC : (E.atL f h d).cards = C) (hO : (E.atL f h d).alts = O) (hP : (E.atL f h d).f.places - ((E.atL f h d).main.length : Int) = P) :
    Calls Try.prog 14 #[.agg #[.int .i64 f.places, .int .i64 f.wilds, .int .i64 f.guards, .int .i64 f.close, .int .i64 f.freeze], .slice A n c, .int .i64 h] w fun e w' => ∃ A1 c1 A2 c2 A3 c3, e = .returned (.tuple #[.agg #[.slice A1 M.length c1, .slice A2 C.length c2, .slice A3 O.length c3, .int .i64 P], .int .i64 0]) ∧ RdI w' w'.heap.size A1 M ∧ RdI w' w'.heap.size A2 C ∧ RdI w' w'.heap.size A3 O ∧ ((A1 = none → c1 = 0) ∧ (A2 = none → c2 = 0) ∧ (A3 = none → c3 = 0)) ∧ Below w.heap.size w w' := by
  refine (List_any f A n c l h w hn hr hid hm).mono ?_
  rintro e w' ⟨(⟨h0, _⟩ | ⟨_, d', A1, c1, A2, c2, A3, c3, hd', rfl, h1, h2, h3⟩), hb⟩
  · exact absurd he h0
  · have e0 : d' = d := by rw [hd] at hd'; exact (Option.some.inj hd').symm
    subst e0
    have r1 := owns_RdI h1 rfl
    have r2 := owns_RdI h2 rfl
    have r3 := owns_RdI h3 rfl
    rw [hM] at r1
    rw [hC] at r2
    rw [hO] at r3
    exact ⟨A1, c1, A2, c2, A3, c3, by rw [hP, hM, hC, hO], r1, r2, r3, ⟨owns_cap h1, owns_cap h2, owns_cap h3⟩, hb⟩

namespace E
theorem atL_len2 {f : Fd} {h : Int} {d : List Nt} (h0 : 0 ≤ f.places) (h1 : f.places ≤ 32) (hl : d.length ≤ 60) : (atL f h d).main.length ≤ 92 ∧ (atL f h d).cards.length ≤ 60 := by
  have := fold_bd (d.filter (fun x => decide (x.hour ≤ h))) (St.new f) 0 (new_bd h0 h1)
  have h2 := this.main
  have h3 := this.cards
  have h4 := List.length_filter_le (fun x => decide (x.hour ≤ h)) d
  exact ⟨Nat.le_trans h2 (by omega), Nat.le_trans h3 (by omega)⟩

structure PlcAll (f : Fd) (h : Int) (l : List Nt) (M C O B : List Int) (P : Int) : Prop where
  open_ : 0 ≤ P
  wilds : (C.length : Int) ≤ f.wilds
  nodup : (M ++ C ++ O).Nodup
  guards : cntG f h l M ≤ f.guards
  sum : (M.length : Int) + P = f.places + (if f.freeze < h then ((B.filter (fun k => !C.contains k)).length : Int) else 0)
structure PlcOne (f : Fd) (h : Int) (l : List Nt) (M C : List Int) (i : Nat) (k : Int) (s1 s2 : Int) : Prop where
  stand : StandVal f l h k = .tuple #[.int .i64 s1, .int .i64 s2, .int .i64 0]
  quit : ∀ x ∈ l, ¬ (x.player = k ∧ x.kind = 4 ∧ x.hour ≤ h)
  ent : s1 ≠ 2 → (entF f h k l).hour ≤ 9999
def plc1 (M C : List Int) (i : Nat) : Int := if i < M.length then 1 else if i < M.length + C.length then 2 else 3
def plc2 (M C : List Int) (i : Nat) : Int := if i < M.length then (i : Int) + 1 else if i < M.length + C.length then (i : Int) + 1 - M.length else (i : Int) + 1 - M.length - C.length

theorem places_law {f : Fd} {l d : List Nt} (hd : diffs l = some d) (hc : checkE f l = 0) {h : Int} (hh : 0 ≤ h ∧ h ≤ 9999) {M C O B : List Int} {P : Int} (hM : (atL f h d).main = M) (hC : (atL f h d).cards = C) (hO : (atL f h d).alts = O) (hP : (atL f h d).f.places - ((atL f h d).main.length : Int) = P) (hB : (atL f f.freeze d).cards = B) :
    PlcAll f h l M C O B P ∧ ∀ (i : Nat) (k : Int), (M ++ C ++ O)[i]? = some k → PlcOne f h l M C i k (plc1 M C i) (plc2 M C i) := by
  have hv : validField f = true := (errE_ok (err_zero (h := h) (p := 0) hc hh (by omega))).2.1
  obtain ⟨S, hS⟩ : ∃ S, atL f h d = S := ⟨_, rfl⟩
  obtain ⟨_, ht, hm⟩ := diffs_spec hd
  obtain ⟨ok, _⟩ := atL_ok f h (fun x hx => valid_player (ht.valid x hx))
  obtain ⟨p1, p2, p3, p4, p5, p6, p7⟩ := places hd hv h S hS
  have hcg := cnt_guards hd f h M
  rw [hS] at hM hC hO hP ok hcg
  rw [hM, hC, hO] at p3 p4
  rw [hM] at p1 p5 hP
  rw [hC] at p2 p7
  rw [hB] at p7
  refine ⟨⟨by omega, p2, p3, by rw [hcg]; exact p5, ?_⟩, fun i k hik => ?_⟩
  · split
    · rename_i hz
      have := p7 hz
      omega
    · rename_i hz
      have := p6 (by omega)
      omega
  · obtain ⟨q1, q2, q3⟩ := p4 i k hik
    have hr : 0 ≤ k ∧ k ≤ 999 := by
      have hk := List.mem_of_getElem? hik
      rcases List.mem_append.1 hk with hk | hk
      · rcases List.mem_append.1 hk with hk | hk
        · exact ok.range k (ok.main k (hM ▸ hk))
        · exact ok.range k (ok.cards k (hC ▸ hk))
      · exact ok.range k (order_mem.1 (alts_mem.1 (hO ▸ hk)).1).1
    rw [hM, hC] at q1 q3
    have e1 : S.where_ k = (plc1 M C i, plc2 M C i) := by
      rw [q1]
      unfold plc1 plc2
      repeat' split
      all_goals rfl
    refine ⟨?_, q2, fun hne => q3 ?_⟩
    · unfold StandVal standV
      rw [if_pos (err_zero hc hh hr), hd]
      dsimp only
      rw [hS, e1]
    · unfold plc1 at hne
      by_cases a1 : i < M.length
      · exact .inl a1
      · rw [if_neg a1] at hne
        by_cases a2 : i < M.length + C.length
        · rw [if_pos a2] at hne; exact absurd rfl hne
        · exact .inr (by omega)
theorem nodup_ne {xs : List Int} (hn : xs.Nodup) {i j : Nat} (hij : i < j) {a b : Int} (ha : xs[i]? = some a) (hb : xs[j]? = some b) : (a == b) = false := by
  obtain ⟨h1, e1⟩ := List.getElem?_eq_some_iff.1 ha
  obtain ⟨h2, e2⟩ := List.getElem?_eq_some_iff.1 hb
  have := List.pairwise_iff_getElem.1 hn i j h1 h2 hij
  rw [e1, e2] at this
  exact beq_eq_false_iff_ne.2 this
theorem cnt_past (f : Fd) (h : Int) (l : List Nt) {xs : List Int} {k : Nat} (hk : xs.length ≤ k) : cntG f h l (xs.take (k + 1)) = cntG f h l (xs.take k) := by
  rw [List.take_of_length_le (by omega), List.take_of_length_le hk]
theorem take_filter {xs : List Int} (p : Int → Bool) {k : Nat} {m : Int} (hm : xs[k]? = some m) : ((xs.take (k + 1)).filter p).length = ((xs.take k).filter p).length + (if p m then 1 else 0) := by
  have : xs.take (k + 1) = xs.take k ++ [m] := by rw [List.take_add_one, hm]; rfl
  rw [this, List.filter_append, List.length_append]
  congr 1
  by_cases e : p m = true
  · rw [if_pos e, List.filter_cons_of_pos e]; rfl
  · rw [if_neg e, List.filter_cons_of_neg e]; rfl
theorem atL_len3 {f : Fd} {h : Int} {d : List Nt} (hl : d.length ≤ 60) : (atL f h d).alts.length ≤ 60 := by
  have h1 := known_fold (d.filter (fun x => decide (x.hour ≤ h))) (St.new f)
  have h2 := List.length_filter_le (fun x => decide (x.hour ≤ h)) d
  have h3 : (St.new f).known.length = 0 := rfl
  have h4 : (atL f h d).alts.length ≤ (atL f h d).order.length := List.length_filter_le _ _
  have h5 : (atL f h d).order.length ≤ (atL f h d).known.length := by
    unfold St.order
    rw [List.length_mergeSort]
    exact List.length_filter_le _ _
  have h6 : (atL f h d).known.length ≤ (St.new f).known.length + (d.filter (fun x => decide (x.hour ≤ h))).length := h1
  omega
end E
end Go.Proofs.Ytklomhmdiflfaaa

namespace Go.Proofs.Ytklomhmdiflfaaa
open Go

section
variable {P : Program} {ops : Array Oper} {md : Region.Mode} {w : World}

def upTo (N : Nat) : Nat → Array Bool
  | 0 => Array.replicate N false
  | k + 1 => (upTo N k).setIfInBounds k true
def gateB (md : Region.Mode) (ops : Array Oper) (k n : Nat) : Bool :=
  ((List.range n).all fun i => decide (i < k) || (List.range (n + 1)).any fun j => decide (i < j) && Region.waitsFor md ops j i) &&
  ((List.range ops.size).all fun t => decide (t ≤ n) || (List.range t).any fun j => decide (n ≤ j) && Region.waitsFor md ops t j)
def gateAtB (md : Region.Mode) (ops : Array Oper) (k n : Nat) (listed : Array Bool) : Bool :=
  (listed.size == ops.size) &&
  ((List.range ops.size).all fun j => !listed.getD j false || match ops[j]? with
    | some oj => oj.after.all fun e => !Region.binds md e || listed.getD e.on false
    | none => true) &&
  ((List.range k).all fun i => listed.getD i false) &&
  ((List.range ops.size).all fun t => decide (t < n) || !listed.getD t true)
def segRun (md : Region.Mode) (ops : Array Oper) : Nat → Nat → Array Bool → Option (Array Bool)
  | 0, _, listed => some listed
  | f + 1, k, listed => if ((Region.ready md ops listed).contains k && Region.free md ops listed k) = true then segRun md ops f (k + 1) (listed.setIfInBounds k true) else none
def segB (md : Region.Mode) (ops : Array Oper) (k n : Nat) : Bool :=
  Region.noSelect ops && decide (k ≤ n) && decide (n < ops.size) && gateB md ops k n && gateAtB md ops k n (upTo ops.size k) &&
  (segRun md ops (n - k) k (upTo ops.size k) == some (upTo ops.size n)) && (Region.ready md ops (upTo ops.size n) == [n])

structure GateAt (md : Region.Mode) (ops : Array Oper) (k n : Nat) (listed : Array Bool) : Prop where
  size : listed.size = ops.size
  closed : ∀ j oj, ops[j]? = some oj → listed.getD j false = true → ∀ e ∈ oj.after, Region.binds md e = true → listed.getD e.on false = true
  low : ∀ i, i < k → listed.getD i false = true
  high : ∀ t, n ≤ t → t < ops.size → listed.getD t true = false

theorem gateAt_of {k n : Nat} {listed : Array Bool} (h : gateAtB md ops k n listed = true) : GateAt md ops k n listed := by
  unfold gateAtB at h
  simp only [Bool.and_eq_true, List.all_eq_true, List.mem_range, beq_iff_eq] at h
  obtain ⟨⟨⟨h1, h2⟩, h3⟩, h4⟩ := h
  refine ⟨h1, fun j oj hj hl e he hb => ?_, h3, fun t ht hs => ?_⟩
  · have h5 := h2 j (Array.getElem?_eq_some_iff.1 hj).1
    rw [hj, hl] at h5
    simp only [Bool.not_true, Bool.false_or] at h5
    have h6 := (Array.all_eq_true_iff_forall_mem.1 h5) e he
    rw [hb] at h6
    simpa using h6
  · have h5 := h4 t hs
    rw [decide_eq_false (by omega : ¬ t < n)] at h5
    simpa using h5

theorem GateAt.put {k n i : Nat} {listed : Array Bool} (h : GateAt md ops k n listed) (hi : i ∈ Region.ready md ops listed) (hn : i < n) : GateAt md ops k n (listed.setIfInBounds i true) := by
  obtain ⟨_, oi, ho, hd⟩ := mem_ready.1 hi
  refine ⟨by rw [Array.size_setIfInBounds]; exact h.size, ?_, fun j hj => getD_set_true (h.low j hj), ?_⟩
  · intro j oj hj hl e he hb
    refine getD_set_true ?_
    rcases Nat.decEq i j with hne | heq
    · rw [getD_set_ne false hne] at hl
      exact h.closed j oj hj hl e he hb
    · subst heq
      rw [ho] at hj
      rw [← Option.some.inj hj] at he
      exact hd e he hb
  · intro t ht hs
    rw [getD_set_ne true (by omega)]
    exact h.high t ht hs

theorem gate_shut {k n : Nat} {listed : Array Bool} (hg : gateB md ops k n = true) (hn : n < ops.size) (h : GateAt md ops k n listed) {i : Nat} (hi : i < n) (hu : listed.getD i true = false) : ∀ t, n ≤ t → t ∉ Region.ready md ops listed := by
  unfold gateB at hg
  simp only [Bool.and_eq_true, List.all_eq_true, List.mem_range, Bool.or_eq_true, decide_eq_true_eq, List.any_eq_true] at hg
  obtain ⟨g1, g2⟩ := hg
  have hnr : ∀ (d i : Nat), n - i ≤ d → i < n → listed.getD i true = false → n ∉ Region.ready md ops listed := by
    intro d
    induction d with
    | zero => intro i hd hi; omega
    | succ d ih =>
      intro i hd hi hu hr
      have hu' := getD_both hu
      have hk : ¬ i < k := fun hk => by rw [h.low i hk] at hu'; cases hu'
      obtain ⟨j, hj, hij, hw⟩ := (g1 i hi).resolve_left hk
      obtain ⟨oj, hoj, e, he, hb, hon⟩ := Region.waitsFor_spec hw
      rcases Nat.lt_or_ge j n with hjn | hjn
      · have hjs : j < listed.size := by rw [h.size]; omega
        cases hl : listed.getD j false with
        | false => exact ih j (by omega) hjn (getD_in hjs hl) hr
        | true =>
          have := h.closed j oj hoj hl e he hb
          rw [hon, hu'] at this
          cases this
      · have hjn' : j = n := by omega
        subst hjn'
        obtain ⟨_, on, ho, hd'⟩ := mem_ready.1 hr
        rw [ho] at hoj
        rw [← Option.some.inj hoj] at he
        have := hd' e he hb
        rw [hon, hu'] at this
        cases this
  intro t ht hr
  rcases Nat.lt_or_ge n t with h1 | h1
  · obtain ⟨_, ot, ho, hd⟩ := mem_ready.1 hr
    have hts := (Array.getElem?_eq_some_iff.1 ho).1
    obtain ⟨j, hj, hnj, hw⟩ := (g2 t hts).resolve_left (by omega)
    obtain ⟨o', ho', e, he, hb, hon⟩ := Region.waitsFor_spec hw
    rw [ho] at ho'
    rw [← Option.some.inj ho'] at he
    have h2 := hd e he hb
    rw [hon, getD_both (h.high j hnj (by omega))] at h2
    cases h2
  · have : t = n := by omega
    subst this
    exact hnr t i (by omega) hi hu hr

theorem seg_first {k n i : Nat} {oi : Oper} {v : Value} {L : Array Bool → Act → Prop} (hi : ops[i]? = some oi) (hsel : ∀ (j : Nat) (o : Oper) cs b, ops[j]? = some o → o.op ≠ .select cs b)
    (hg : gateB md ops k n = true) (hn : n < ops.size) (hin : i < n) (hend : ∀ listed a, L listed a → ∀ j ∈ Region.ready md ops listed, n ≤ j) :
    ∀ (f : Nat) (listed : Array Bool) (a : Act), GateAt md ops k n listed →
      (∀ j oj, ops[j]? = some oj → j ≠ i → listed.getD j true = false → (∀ e ∈ oj.after, Region.binds md e = true → e.on ≠ i) → oi.apart ops oj = true) →
      i ∈ Region.ready md ops listed → YieldsAt P ops w oi v a →
      wpAnyL P md ops w n L f (listed.setIfInBounds i true) (a.put oi.dst v) → wpAnyL P md ops w n L (f + 1) listed a
  | f, listed, a, hG, hfree, hr, hy, H => by
    have hun := (mem_ready.1 hr).1
    refine ⟨List.ne_nil_of_mem hr, fun j hj => ?_⟩
    have hjn : j < n := Nat.lt_of_not_le fun h => gate_shut hg hn hG hin hun j h hj
    refine ⟨hjn, ?_⟩
    by_cases e : j = i
    · subst e; exact hy.stOp hi H
    · match f, H with
      | 0, H => exact absurd (hend _ _ H j (ready_mono hj e)) (by omega)
      | f + 1, H =>
        obtain ⟨hju, oj, hoj, hall⟩ := mem_ready.1 hj
        have hisz : i < listed.size := by rw [hG.size]; omega
        have hno : ∀ e ∈ oj.after, Region.binds md e = true → e.on ≠ i := fun e he hb hq => by
          have h1 := hall e he hb
          rw [hq, getD_both hun] at h1
          cases h1
        have step := stOp_put hoj (hfree j oj hoj e hju hno) (fun cs b => hsel i oi cs b hi) (fun cs b => hsel j oj cs b hoj) hy (H.2 j (ready_mono hj e)).2
        refine stOp_mono (fun a' h3 => ?_) step
        refine seg_first hi hsel hg hn hin hend f (listed.setIfInBounds j true) a' (hG.put hj hjn) (fun q oq hq hqi hqu hqn => ?_) (ready_mono hr (Ne.symm e)) h3.1 ?_
        · refine hfree q oq hq hqi ?_ hqn
          by_cases hjq : j = q
          · rw [← hjq]; exact hju
          · rw [getD_set_ne true hjq] at hqu; exact hqu
        · rw [Array.setIfInBounds_comm _ _ e]
          exact h3.2

theorem seg_lex {k0 n : Nat} {Lq : Act → Prop} {lend : Array Bool} (hsel : Region.noSelect ops = true) (hg : gateB md ops k0 n = true) (hn : n < ops.size) (hend : ∀ j ∈ Region.ready md ops lend, n ≤ j) :
    ∀ (l : List Oper) (k : Nat) (listed : Array Bool) (a : Act), (∀ j, j < l.length → l[j]? = ops[k + j]?) → k + l.length = n → GateAt md ops k0 n listed →
    segRun md ops l.length k listed = some lend → wpStill P ops w Lq l a → wpAnyL P md ops w n (fun li a' => li = lend ∧ Lq a') l.length listed a
  | [], k, listed, a, _, _, _, hB, h => ⟨Option.some.inj hB, h⟩
  | o :: l, k, listed, a, hl, hk, hG, hB, h => by
    have h0 : ops[k]? = some o := (hl 0 (by simp)).symm
    rw [List.length_cons] at hk
    rw [List.length_cons, segRun] at hB
    split at hB
    · rename_i hc
      rw [Bool.and_eq_true, List.contains_eq_mem, decide_eq_true_eq] at hc
      have hst : stOp P ops w k (wpStill P ops w Lq l) a := by unfold stOp; rw [h0]; exact h
      obtain ⟨v, hy, hK⟩ := yieldsAt_of_stOp h0 hst
      refine seg_first h0 (Region.noSelect_spec hsel) hg hn (by omega) (fun li a' hL => by rw [hL.1]; exact hend) l.length listed a hG (Region.free_spec h0 hc.2) hc.1 hy ?_
      exact seg_lex hsel hg hn hend l (k + 1) _ _ (fun j hj => by
        have := hl (j + 1) (by rw [List.length_cons]; omega)
        rw [show k + 1 + j = k + (j + 1) by omega, ← this]; rfl) (by omega) (hG.put hc.1 (by omega)) hB hK
    · cases hB

theorem wpAny_seg {Q' : Exit → Act → World → Prop} {a : Act} (k n : Nat) (l : List Oper) (hl : ∀ j, j < l.length → l[j]? = ops[k + j]?) (hk : k + l.length = n) (hB : segB md ops k n = true)
    (h : wpStill P ops w (fun a' => wpOp P ops Q' n (wpAny P md ops Q' (ops.size - (n + 1)) (upTo ops.size (n + 1))) a' w) l a) : wpAny P md ops Q' (ops.size - k) (upTo ops.size k) a w := by
  unfold segB at hB
  simp only [Bool.and_eq_true, decide_eq_true_eq, beq_iff_eq] at hB
  obtain ⟨⟨⟨⟨⟨⟨hsel, _⟩, hn⟩, hg⟩, hga⟩, hrun⟩, hrd⟩ := hB
  have hlen : n - k = l.length := by omega
  rw [hlen] at hrun
  have H := seg_lex hsel hg hn (fun j hj => by rw [hrd] at hj; have := List.mem_singleton.1 hj; omega) l k _ a hl hk (gateAt_of hga) hrun h
  have := wpAny_of_head (Q' := Q') (g := ops.size - n) (fun li a' hL => by
    obtain ⟨rfl, hL⟩ := hL
    rw [show ops.size - n = (ops.size - (n + 1)) + 1 by omega]
    refine ⟨fun h0 => (by rw [hrd] at h0; cases h0), fun i hi => ?_⟩
    rw [hrd] at hi
    rw [List.mem_singleton.1 hi]
    exact hL) _ _ _ H
  rw [show l.length + (ops.size - n) = ops.size - k by omega] at this
  exact this
theorem wpAny_segEnd {Q' : Exit → Act → World → Prop} {a : Act} (k : Nat) (l : List Oper) (hl : ∀ j, l[j]? = ops[k + j]?) (hk : k + l.length = ops.size) (hB : (Region.noSelect ops && Region.lexFrom md ops l.length k (upTo ops.size k)) = true)
    (h : wpStill P ops w (fun a' => Q' .normal a' w) l a) : wpAny P md ops Q' (ops.size - k) (upTo ops.size k) a w := by
  rw [Bool.and_eq_true] at hB
  have := wpAny_of_still (Q' := Q') (fun _ h => h) _ _ _ (wpAnyS_lex hB.1 l k _ a hl hB.2 h)
  rw [show l.length = ops.size - k by omega] at this
  exact this

theorem segTake_get {l : List Oper} {n : Nat} : ∀ j, j < (l.take n).length → (l.take n)[j]? = l.toArray[0 + j]? := fun j hj => by
  rw [List.length_take] at hj
  rw [List.getElem?_take, if_pos (by omega)]; simp
theorem segMid_get {l : List Oper} {k m : Nat} : ∀ j, j < ((l.drop k).take m).length → ((l.drop k).take m)[j]? = l.toArray[k + j]? := fun j hj => by
  rw [List.length_take] at hj
  rw [List.getElem?_take, if_pos (by omega)]; simp
theorem segDrop_get {l : List Oper} {k : Nat} : ∀ j, (l.drop k)[j]? = l.toArray[k + j]? := fun j => by simp
theorem segDrop_len {l : List Oper} {k : Nat} (h : k ≤ l.length) : k + (l.drop k).length = l.toArray.size := by simp; omega

theorem wp_region_seg {id : Nat} {Q : Exit → Act → World → Prop} {a : Act} {w : World} {l : List Oper} (n : Nat) (hm : P.follows .mixedOrders = true) (hB : segB .any l.toArray 0 n = true)
    (h : wpStill P l.toArray w.drew (fun a' => wpOp P l.toArray Q n (wpAny P .any l.toArray Q (l.toArray.size - (n + 1)) (upTo l.toArray.size (n + 1))) a' w.drew) (l.take n) a) : (Code.region id l.toArray true).wp P Q a w := by
  have hn : n < l.length := by
    unfold segB at hB
    simp only [Bool.and_eq_true, decide_eq_true_eq] at hB
    simpa using hB.1.1.1.1.2
  refine wp_region_any hm ?_
  have := wpAny_seg (P := P) (md := .any) (Q' := Q) 0 n (l.take n) segTake_get (by rw [List.length_take]; omega) hB h
  exact this
theorem wpAny_seg' {Q : Exit → Act → World → Prop} {a : Act} {w : World} {l : List Oper} {k : Nat} (n : Nat) (hB : segB .any l.toArray k n = true)
    (h : wpStill P l.toArray w (fun a' => wpOp P l.toArray Q n (wpAny P .any l.toArray Q (l.toArray.size - (n + 1)) (upTo l.toArray.size (n + 1))) a' w) ((l.drop k).take (n - k)) a) : wpAny P .any l.toArray Q (l.toArray.size - k) (upTo l.toArray.size k) a w := by
  have hn : k ≤ n ∧ n < l.length := by
    unfold segB at hB
    simp only [Bool.and_eq_true, decide_eq_true_eq] at hB
    have := hB.1.1.1.1
    exact ⟨this.1.2, by simpa using this.2⟩
  exact wpAny_seg (P := P) (md := .any) (Q' := Q) k n _ segMid_get (by rw [List.length_take, List.length_drop]; omega) hB h
theorem wpAny_end {Q : Exit → Act → World → Prop} {a : Act} {w : World} {l : List Oper} {k : Nat} (hk : k ≤ l.length) (hB : (Region.noSelect l.toArray && Region.lexFrom .any l.toArray (l.drop k).length k (upTo l.toArray.size k)) = true)
    (h : wpStill P l.toArray w (fun a' => Q .normal a' w) (l.drop k) a) : wpAny P .any l.toArray Q (l.toArray.size - k) (upTo l.toArray.size k) a w :=
  wpAny_segEnd k _ segDrop_get (segDrop_len hk) hB h

theorem opEnter {Q : Exit → Act → World → Prop} {i : Nat} {K : Act → World → Prop} {a : Act} {o : Oper} {f : FuncId} {args : Array Value} (dst : Option Nat) (ho : ops[i]? = some o) (hd : o.dst = dst) (hw : Region.wanted o (yielded ops a.tmps) = true) (hx : (execOp a.eval o).run P w = .ok (.enter f args) w)
    (hc : Calls P f args w fun e w' => ∃ v, e = .returned v ∧ K (a.put dst v) w') : wpOp P ops Q i K a w := by
  subst hd
  unfold wpOp
  rw [ho]
  simp only [hw, if_true]
  refine .inl ?_
  unfold Oper.wp
  rw [hx, Oper.upon_enter]
  refine hc.mono fun e w' h => ?_
  obtain ⟨v, rfl, h⟩ := h
  exact h
end
end Go.Proofs.Ytklomhmdiflfaaa

namespace Go.Proofs.Ytklomhmdiflfaaa
open Go.RowKit
attribute [local go_sem ↓] Go.wp_at_zero Go.wp_at_succ

set_option maxHeartbeats 6400000 in
set_option maxRecDepth 100000 in
theorem placesLaw_no1 (f : E.Fd) (A : Option Addr) (n c : Nat) (l : List E.Nt) (h : Int) (w : World) (hn : l.length = n) (hr : RdN w w.heap.size A l) (hid : ∀ x ∈ l, (Lit.int .i64 x.id).wf = true) (hm : n ≤ 1000000) (hrd : E.readyB f l n = false) :
    Calls Try.prog 5 #[.agg #[.int .i64 f.places, .int .i64 f.wilds, .int .i64 f.guards, .int .i64 f.close, .int .i64 f.freeze], .slice A n c, .int .i64 h] w fun e w' => e = .returned (.bool true) ∧ Below w.heap.size w w' := by
  have HN := hide hn
  have HR := hide hr
  have HID := hide hid
  have HM := hide hm
  clear hn hr hid hm
  have HRD := hide hrd
  clear hrd
  go_enter Try.func5, Try.ntmps5
  obtain ⟨w0, hw0⟩ : ∃ w0, w.alloc (.cells #[.int .i64 f.places, .int .i64 f.wilds, .int .i64 f.guards, .int .i64 f.close, .int .i64 f.freeze] 23) = w0 := ⟨_, rfl⟩
  have HB0 := hide (show Below w.heap.size w w0 by rw [← hw0]; (repeat' first | exact zbR _ _ | assumption | refine zbD ?_ | refine zbA ?_ ?_ _ | refine zbS ?_ ?_ _ | refine zbT ?_ (by assumption) ?_ | (simp; done) | (simp; omega) | omega))
  have HF0 := hide (show w0.heap[w.heap.size]? = some (.cells #[.int .i64 f.places, .int .i64 f.wilds, .int .i64 f.guards, .int .i64 f.close, .int .i64 f.freeze] 23 (0, 0)) by rw [← hw0]; exact World.alloc_heap_new _ _)
  have HR0 := hide ((HR.out.below HB0.out).mono HB0.out.size)
  have HW0 := hide hw0
  clear hw0
  go_wp2_with (first | (go_at_call 19; rw [HW0.out]; refine (ready_any f A n c l w0 HN.out HR0.out HM.out).mono ?_; rintro e w1 ⟨rfl, hb1⟩; rw [HRD.out]; have HB1 := hide hb1; clear hb1; have HF1 := hide ((HB1.out.block w.heap.size (blk_lt HF0.out)).trans HF0.out); have x10 : w1.cell? ⟨w.heap.size, 0, none⟩ = some (.int .i64 f.places) := (blk_cell HF1.out 0).trans rfl; have x11 : w1.cell? ⟨w.heap.size, 1, none⟩ = some (.int .i64 f.wilds) := (blk_cell HF1.out 1).trans rfl; have x12 : w1.cell? ⟨w.heap.size, 2, none⟩ = some (.int .i64 f.guards) := (blk_cell HF1.out 2).trans rfl; have x13 : w1.cell? ⟨w.heap.size, 3, none⟩ = some (.int .i64 f.close) := (blk_cell HF1.out 3).trans rfl; have x14 : w1.cell? ⟨w.heap.size, 4, none⟩ = some (.int .i64 f.freeze) := (blk_cell HF1.out 4).trans rfl; have l10 := blk_lt HF1.out) | (go_at_call 20; with_reducible refine (isHour_any h _).mono ?_; rintro e w' ⟨rfl, rfl⟩; rw [HI1.out]) | (go_at_call 11; refine (works_any _).mono ?_; rintro e w9 ⟨rfl, hb9⟩; have HB9 := hide (zbT HB1.out hb9 HB1.out.size); clear hb9))
  go_ret
  exact ⟨rfl, HB0.out.trans (HB9.out.mono HB0.out.size)⟩
set_option maxHeartbeats 6400000 in
set_option maxRecDepth 100000 in
theorem placesLaw_no2 (f : E.Fd) (A : Option Addr) (n c : Nat) (l : List E.Nt) (h : Int) (w : World) (hn : l.length = n) (hr : RdN w w.heap.size A l) (hid : ∀ x ∈ l, (Lit.int .i64 x.id).wf = true) (hm : n ≤ 1000000) (hrd : E.readyB f l n = true) (hi1 : E.within h 0 9999 = false) :
    Calls Try.prog 5 #[.agg #[.int .i64 f.places, .int .i64 f.wilds, .int .i64 f.guards, .int .i64 f.close, .int .i64 f.freeze], .slice A n c, .int .i64 h] w fun e w' => e = .returned (.bool true) ∧ Below w.heap.size w w' := by
  have HN := hide hn
  have HR := hide hr
  have HID := hide hid
  have HM := hide hm
  clear hn hr hid hm
  have HRD := hide hrd
  have HI1 := hide hi1
  clear hrd hi1
  go_enter Try.func5, Try.ntmps5
  obtain ⟨w0, hw0⟩ : ∃ w0, w.alloc (.cells #[.int .i64 f.places, .int .i64 f.wilds, .int .i64 f.guards, .int .i64 f.close, .int .i64 f.freeze] 23) = w0 := ⟨_, rfl⟩
  have HB0 := hide (show Below w.heap.size w w0 by rw [← hw0]; (repeat' first | exact zbR _ _ | assumption | refine zbD ?_ | refine zbA ?_ ?_ _ | refine zbS ?_ ?_ _ | refine zbT ?_ (by assumption) ?_ | (simp; done) | (simp; omega) | omega))
  have HF0 := hide (show w0.heap[w.heap.size]? = some (.cells #[.int .i64 f.places, .int .i64 f.wilds, .int .i64 f.guards, .int .i64 f.close, .int .i64 f.freeze] 23 (0, 0)) by rw [← hw0]; exact World.alloc_heap_new _ _)
  have HR0 := hide ((HR.out.below HB0.out).mono HB0.out.size)
  have HW0 := hide hw0
  clear hw0
  go_wp2_with (first | (go_at_call 19; rw [HW0.out]; refine (ready_any f A n c l w0 HN.out HR0.out HM.out).mono ?_; rintro e w1 ⟨rfl, hb1⟩; rw [HRD.out]; have HB1 := hide hb1; clear hb1; have HF1 := hide ((HB1.out.block w.heap.size (blk_lt HF0.out)).trans HF0.out); have x10 : w1.cell? ⟨w.heap.size, 0, none⟩ = some (.int .i64 f.places) := (blk_cell HF1.out 0).trans rfl; have x11 : w1.cell? ⟨w.heap.size, 1, none⟩ = some (.int .i64 f.wilds) := (blk_cell HF1.out 1).trans rfl; have x12 : w1.cell? ⟨w.heap.size, 2, none⟩ = some (.int .i64 f.guards) := (blk_cell HF1.out 2).trans rfl; have x13 : w1.cell? ⟨w.heap.size, 3, none⟩ = some (.int .i64 f.close) := (blk_cell HF1.out 3).trans rfl; have x14 : w1.cell? ⟨w.heap.size, 4, none⟩ = some (.int .i64 f.freeze) := (blk_cell HF1.out 4).trans rfl; have l10 := blk_lt HF1.out) | (go_at_call 20; with_reducible refine (isHour_any h _).mono ?_; rintro e w' ⟨rfl, rfl⟩; rw [HI1.out]) | (go_at_call 11; refine (works_any _).mono ?_; rintro e w9 ⟨rfl, hb9⟩; have HB9 := hide (zbT HB1.out hb9 HB1.out.size); clear hb9))
  go_ret
  exact ⟨rfl, HB0.out.trans (HB9.out.mono HB0.out.size)⟩
set_option maxHeartbeats 6400000 in
set_option maxRecDepth 100000 in
theorem placesLaw_main (f : E.Fd) (A : Option Addr) (n c : Nat) (l : List E.Nt) (h : Int) (w : World) (hn : l.length = n) (hr : RdN w w.heap.size A l) (hid : ∀ x ∈ l, (Lit.int .i64 x.id).wf = true) (hm : n ≤ 1000000) (hrd : E.readyB f l n = true) (hi1 : E.within h 0 9999 = true) :
    Calls Try.prog 5 #[.agg #[.int .i64 f.places, .int .i64 f.wilds, .int .i64 f.guards, .int .i64 f.close, .int .i64 f.freeze], .slice A n c, .int .i64 h] w fun e w' => e = .returned (.bool true) ∧ Below w.heap.size w w' := by
  have HN := hide hn
  have HR := hide hr
  have HID := hide hid
  have HM := hide hm
  clear hn hr hid hm
  have HRD := hide hrd
  have HI1 := hide hi1
  clear hrd hi1
  have HI1' := hide (show 0 ≤ h ∧ h ≤ 9999 by have := HI1.out; unfold E.within at this; simpa using this)
  have HCK := hide (show E.checkE f l = 0 by have := HRD.out; unfold E.readyB at this; simp only [Bool.and_eq_true, beq_iff_eq] at this; exact this.2)
  obtain ⟨d, hd⟩ := E.check_diffs HCK.out
  have HD := hide hd
  have hvf := (E.errE_ok (E.err_zero (h := h) (p := 0) HCK.out HI1'.out (by omega))).2.1
  have HVF0 := hide (E.valid_places hvf)
  have HFZ := hide (show 0 ≤ f.freeze ∧ f.freeze ≤ 9999 by unfold E.validField E.within at hvf; simp only [Bool.and_eq_true, decide_eq_true_eq] at hvf; omega)
  obtain ⟨M, hM⟩ : ∃ M, (E.atL f h d).main = M := ⟨_, rfl⟩
  obtain ⟨C, hC⟩ : ∃ M, (E.atL f h d).cards = M := ⟨_, rfl⟩
  obtain ⟨O, hO⟩ : ∃ M, (E.atL f h d).alts = M := ⟨_, rfl⟩
  obtain ⟨P, hP⟩ : ∃ M, (E.atL f h d).f.places - ((E.atL f h d).main.length : Int) = M := ⟨_, rfl⟩
  obtain ⟨M2, hM2⟩ : ∃ M, (E.atL f f.freeze d).main = M := ⟨_, rfl⟩
  obtain ⟨B, hB⟩ : ∃ M, (E.atL f f.freeze d).cards = M := ⟨_, rfl⟩
  obtain ⟨O2, hO2⟩ : ∃ M, (E.atL f f.freeze d).alts = M := ⟨_, rfl⟩
  obtain ⟨P2, hP2⟩ : ∃ M, (E.atL f f.freeze d).f.places - ((E.atL f f.freeze d).main.length : Int) = M := ⟨_, rfl⟩
  have hl1 := fun u => E.atL_len2 (f := f) (h := u) (d := d) (by have := HVF0.out.1; omega) HVF0.out.2 (E.diffs_len hd)
  have hl3 := E.atL_len3 (f := f) (h := h) (E.diffs_len hd)
  have HN1 := hide (show M.length ≤ 92 by rw [← hM]; exact (hl1 h).1)
  have HN2 := hide (show C.length ≤ 60 by rw [← hC]; exact (hl1 h).2)
  have HNB := hide (show B.length ≤ 60 by rw [← hB]; exact (hl1 f.freeze).2)
  have HNO := hide (show O.length ≤ 60 by rw [← hO]; exact hl3)
  have HL1 := fun W hr => list_ok4 f A n c l h d M C O P W HN.out hr HID.out HM.out hd (E.err_zero (p := 0) HCK.out HI1'.out (by omega)) hM hC hO hP
  have HL2 := fun W hr => list_ok4 f A n c l f.freeze d M2 B O2 P2 W HN.out hr HID.out HM.out hd (E.err_zero (p := 0) HCK.out HFZ.out (by omega)) hM2 hB hO2 hP2
  have hall := E.places_law hd HCK.out HI1'.out hM hC hO hP hB
  have HPA := hide hall.1
  have HPO := hide hall.2
  clear hd hl1 hl3 hM hC hO hP hM2 hB hO2 hP2 hall hvf
  have HP0 := HPA.out.open_
  have HC0 := HPA.out.wilds
  have hc60 := HN2.out
  go_enter Try.func5, Try.ntmps5
  obtain ⟨w0, hw0⟩ : ∃ w0, w.alloc (.cells #[.int .i64 f.places, .int .i64 f.wilds, .int .i64 f.guards, .int .i64 f.close, .int .i64 f.freeze] 23) = w0 := ⟨_, rfl⟩
  have HB0 := hide (show Below w.heap.size w w0 by rw [← hw0]; (repeat' first | exact zbR _ _ | assumption | refine zbD ?_ | refine zbA ?_ ?_ _ | refine zbS ?_ ?_ _ | refine zbT ?_ (by assumption) ?_ | (simp; done) | (simp; omega) | omega))
  have HF0 := hide (show w0.heap[w.heap.size]? = some (.cells #[.int .i64 f.places, .int .i64 f.wilds, .int .i64 f.guards, .int .i64 f.close, .int .i64 f.freeze] 23 (0, 0)) by rw [← hw0]; exact World.alloc_heap_new _ _)
  have HR0 := hide ((HR.out.below HB0.out).mono HB0.out.size)
  have HW0 := hide hw0
  clear hw0
  go_upto_region 5 with (first | (go_at_call 19; rw [HW0.out]; refine (ready_any f A n c l w0 HN.out HR0.out HM.out).mono ?_; rintro e w1 ⟨rfl, hb1⟩; rw [HRD.out]; have HB1 := hide hb1; clear hb1; have HF1 := hide ((HB1.out.block w.heap.size (blk_lt HF0.out)).trans HF0.out); have x10 : w1.cell? ⟨w.heap.size, 0, none⟩ = some (.int .i64 f.places) := (blk_cell HF1.out 0).trans rfl; have x11 : w1.cell? ⟨w.heap.size, 1, none⟩ = some (.int .i64 f.wilds) := (blk_cell HF1.out 1).trans rfl; have x12 : w1.cell? ⟨w.heap.size, 2, none⟩ = some (.int .i64 f.guards) := (blk_cell HF1.out 2).trans rfl; have x13 : w1.cell? ⟨w.heap.size, 3, none⟩ = some (.int .i64 f.close) := (blk_cell HF1.out 3).trans rfl; have x14 : w1.cell? ⟨w.heap.size, 4, none⟩ = some (.int .i64 f.freeze) := (blk_cell HF1.out 4).trans rfl; have l10 := blk_lt HF1.out) | (go_at_call 20; with_reducible refine (isHour_any h _).mono ?_; rintro e w' ⟨rfl, rfl⟩; rw [HI1.out]) | (go_at_call 14; with_reducible refine (HL1 w1 ?hr).mono ?_; (case hr => exact ((HR0.out.below HB1.out).mono HB1.out.size)); rintro e w2 ⟨A1, c1, A2, c2, A3, c3, rfl, hm1, hm2, hm3, ⟨ha1, ha2, ha3⟩, hb2⟩; have HM1 := hide hm1; have HM2 := hide hm2; have HM3 := hide hm3; have HA1 := hide ha1; have HA2 := hide ha2; have HA3 := hide ha3; have HB2 := hide (zbT HB1.out hb2 HB1.out.size); clear hm1 hm2 hm3 ha1 ha2 ha3 hb2; have HF2 := hide ((HB2.out.block w.heap.size (blk_lt HF0.out)).trans HF0.out); have x20 : w2.cell? ⟨w.heap.size, 0, none⟩ = some (.int .i64 f.places) := (blk_cell HF2.out 0).trans rfl; have x21 : w2.cell? ⟨w.heap.size, 1, none⟩ = some (.int .i64 f.wilds) := (blk_cell HF2.out 1).trans rfl; have x22 : w2.cell? ⟨w.heap.size, 2, none⟩ = some (.int .i64 f.guards) := (blk_cell HF2.out 2).trans rfl; have x23 : w2.cell? ⟨w.heap.size, 3, none⟩ = some (.int .i64 f.close) := (blk_cell HF2.out 3).trans rfl; have x24 : w2.cell? ⟨w.heap.size, 4, none⟩ = some (.int .i64 f.freeze) := (blk_cell HF2.out 4).trans rfl; have l20 := blk_lt HF2.out) | (go_at_call 14; with_reducible refine (HL2 _ ?hr).mono ?_; (case hr => exact ((((HR0.out.below HB2.out).mono HB2.out.size).below (show Below w2.heap.size w2 (w2.alloc (.cells #[.slice A1 M.length c1, .slice A2 C.length c2, .slice A3 O.length c3, .int .i64 P] 33)) by (repeat' first | exact zbR _ _ | assumption | refine zbD ?_ | refine zbA ?_ ?_ _ | refine zbS ?_ ?_ _ | refine zbT ?_ (by assumption) ?_ | (simp; done) | (simp; omega) | omega))).mono (by simp))); rintro e w4 ⟨D1, e1, D2, e2, D3, e3, rfl, -, hq2, -, -, hb4⟩; have HQ2 := hide hq2; have HB24 := hide (zbT (show Below w2.heap.size w2 (w2.alloc (.cells #[.slice A1 M.length c1, .slice A2 C.length c2, .slice A3 O.length c3, .int .i64 P] 33)) by (repeat' first | exact zbR _ _ | assumption | refine zbD ?_ | refine zbA ?_ ?_ _ | refine zbS ?_ ?_ _ | refine zbT ?_ (by assumption) ?_ | (simp; done) | (simp; omega) | omega)) hb4 (by simp)); have HE7 := hide ((hb4.block w2.heap.size (by simp)).trans (World.alloc_heap_new w2 (.cells #[.slice A1 M.length c1, .slice A2 C.length c2, .slice A3 O.length c3, .int .i64 P] 33))); clear hq2 hb4))
  obtain ⟨w5, hw5⟩ : ∃ w5, w4.alloc (.cells #[.slice D1 M2.length e1, .slice D2 B.length e2, .slice D3 O2.length e3, .int .i64 P2] 33) = w5 := ⟨_, rfl⟩
  have HB45 := hide (show Below w4.heap.size w4 w5 by rw [← hw5]; (repeat' first | exact zbR _ _ | assumption | refine zbD ?_ | refine zbA ?_ ?_ _ | refine zbS ?_ ?_ _ | refine zbT ?_ (by assumption) ?_ | (simp; done) | (simp; omega) | omega))
  have HE9 := hide (show w5.heap[w4.heap.size]? = some (.cells #[.slice D1 M2.length e1, .slice D2 B.length e2, .slice D3 O2.length e3, .int .i64 P2] 33 (0, 0)) by rw [← hw5]; exact World.alloc_heap_new _ _)
  rw [hw5]
  clear hw5
  have HB25 := hide (zbT HB24.out HB45.out HB24.out.size)
  have HB5 := hide (zbT HB2.out HB25.out HB2.out.size)
  have HE75 := hide ((HB45.out.block _ (blk_lt HE7.out)).trans HE7.out)
  have HF5 := hide ((HB5.out.block w.heap.size (blk_lt HF0.out)).trans HF0.out)
  have RL := hide ((HR0.out.below HB5.out).mono HB5.out.size)
  have RM := hide ((HM1.out.below HB25.out).mono HB25.out.size)
  have RC := hide ((HM2.out.below HB25.out).mono HB25.out.size)
  have RO := hide ((HM3.out.below HB25.out).mono HB25.out.size)
  have RB := hide ((HQ2.out.below HB45.out).mono HB45.out.size)
  clear HE7
  have HE7 := HE75
  clear HE75
  obtain ⟨g7, hg7⟩ : ∃ g, w2.heap.size = g := ⟨_, rfl⟩
  obtain ⟨g9, hg9⟩ : ∃ g, w4.heap.size = g := ⟨_, rfl⟩
  rw [hg7] at HE7 ⊢
  rw [hg9] at HE9 ⊢
  clear hg7 hg9
  (try clear x10 x11 x12 x13 x14 l10)
  (try clear x20 x21 x22 x23 x24 l20)
  have x50 : w5.cell? ⟨w.heap.size, 0, none⟩ = some (.int .i64 f.places) := (blk_cell HF5.out 0).trans rfl
  have x51 : w5.cell? ⟨w.heap.size, 1, none⟩ = some (.int .i64 f.wilds) := (blk_cell HF5.out 1).trans rfl
  have x52 : w5.cell? ⟨w.heap.size, 2, none⟩ = some (.int .i64 f.guards) := (blk_cell HF5.out 2).trans rfl
  have x53 : w5.cell? ⟨w.heap.size, 3, none⟩ = some (.int .i64 f.close) := (blk_cell HF5.out 3).trans rfl
  have x54 : w5.cell? ⟨w.heap.size, 4, none⟩ = some (.int .i64 f.freeze) := (blk_cell HF5.out 4).trans rfl
  have l50 := blk_lt HF5.out
  have y70 : w5.cell? ⟨g7, 0, none⟩ = some (.slice A1 M.length c1) := (blk_cell HE7.out 0).trans rfl
  have y71 : w5.cell? ⟨g7, 1, none⟩ = some (.slice A2 C.length c2) := (blk_cell HE7.out 1).trans rfl
  have y73 : w5.cell? ⟨g7, 3, none⟩ = some (.int .i64 P) := (blk_cell HE7.out 3).trans rfl
  have ly7 := blk_lt HE7.out
  go_upto_region 8 with fail
  have HR5 := hide (Below.refl w5.heap.size w5)
  obtain ⟨bk, hbk⟩ : ∃ q, (if f.freeze < h then (((B.filter (fun k => !C.contains k)).length : Nat) : Int) else 0) = q := ⟨_, rfl⟩
  have HBK := hide hbk.symm
  have HSUM := hide (show (M.length : Int) + P = f.places + bk by rw [← hbk]; exact HPA.out.sum)
  have HBB := hide (show 0 ≤ bk ∧ bk ≤ 60 by have h1 := List.length_filter_le (fun k => !C.contains k) B; have h2 := HNB.out; rw [← hbk]; split <;> omega)
  clear hbk
  go_upto_if 73 with fail
  go_cut [11] from 70 (fun v11 wx => v11 = .int .i64 bk ∧ Hid (Below w5.heap.size w5 wx))
  case first =>
    by_cases hz : f.freeze < h
    · have HZ := hide hz
      go_wp2_with fail
      go_loopw [11, 12] (fun bq i wr => ∃ (i' : Nat) (c' : Nat), i' ≤ B.length ∧ bq = .int .i64 c' ∧ i = .int .i64 i' ∧ Hid (c' = ((B.take i').filter (fun k => !C.contains k)).length) ∧ Hid (Below w5.heap.size w5 wr)) (fun _ i _ => B.length - (intOf i).toNat)
      case atStart => exact ⟨0, 0, by omega, rfl, rfl, hide rfl, HR5⟩
      case round =>
        obtain ⟨i, cb, hi, rfl, rfl, HCQ, HR5⟩ := hrel
        have hnb := HNB.out
        have y1 : wr.cell? ⟨g9, 1, none⟩ = some (.slice D2 B.length e2) := (blk_cell ((HR5.out.block _ (blk_lt HE9.out)).trans HE9.out) 1).trans rfl
        have y2 : g9 < wr.heap.size := Nat.lt_of_lt_of_le (blk_lt HE9.out) HR5.out.size
        by_cases hlt : i < B.length
        · obtain ⟨m, hm⟩ : ∃ q, B[i]? = some q := ⟨_, List.getElem?_eq_getElem hlt⟩
          have HMK := hide hm
          have hlt' : (i : Int) < (B.length : Int) := by omega
          have hi0 : (0 : Int) ≤ (i : Int) := by omega
          have HCB := hide (show cb ≤ 60 by have h1 := List.length_filter_le (fun k => !C.contains k) (B.take i); rw [← HCQ.out, List.length_take] at h1; omega)
          have HCT := hide (E.take_filter (fun k => !C.contains k) hm)
          clear hm
          obtain ⟨ct, hct⟩ : ∃ q, C.contains m = q := ⟨_, rfl⟩
          have HC1 := hide hct
          clear hct
          go_upto_region 12 with fail
          obtain ⟨V, hV⟩ : ∃ V, (wr).drew = V := ⟨_, rfl⟩
          have HV4 := hide (show Below w5.heap.size w5 V by rw [← hV]; exact zbD HR5.out)
          have v71 : V.cell? ⟨g7, 1, none⟩ = some (.slice A2 C.length c2) := (blk_cell ((HV4.out.block _ (blk_lt HE7.out)).trans HE7.out) 1).trans rfl
          have v91 : V.cell? ⟨g9, 1, none⟩ = some (.slice D2 B.length e2) := (blk_cell ((HV4.out.block _ (blk_lt HE9.out)).trans HE9.out) 1).trans rfl
          obtain ⟨bm, om, hAm, _, vm⟩ := (RB.out.below HV4.out) i m HMK.out
          subst hAm
          refine wp_region_still_lit (by kernel_rfl) (by kernel_rfl) ?_
          change wpStill _ _ (wr).drew (fun a' => Exit.then _ _ Exit.normal a' (wr).drew) _ _
          rw [hV]
          clear hV
          with_reducible refine stTake (v := ?_) (by kernel_rfl) ?_ ?_; rotate_left
          · (go_simp; (try with_reducible rfl))
          (try simp only [Act.put, zl, List.set_cons_zero, List.set_cons_succ])
          with_reducible refine stTake (v := ?_) (by kernel_rfl) ?_ ?_; rotate_left
          · (go_simp; (try with_reducible rfl))
          (try simp only [Act.put, zl, List.set_cons_zero, List.set_cons_succ])
          with_reducible refine stTake (v := ?_) (by kernel_rfl) ?_ ?_; rotate_left
          · (go_simp; (try with_reducible rfl))
          (try simp only [Act.put, zl, List.set_cons_zero, List.set_cons_succ])
          with_reducible refine stTake (v := ?_) (by kernel_rfl) ?_ ?_; rotate_left
          · (go_simp; (try with_reducible rfl))
          (try simp only [Act.put, zl, List.set_cons_zero, List.set_cons_succ])
          with_reducible refine stTake (v := ?_) (by kernel_rfl) ?_ ?_; rotate_left
          · (go_simp; (try with_reducible rfl))
          (try simp only [Act.put, zl, List.set_cons_zero, List.set_cons_succ])
          with_reducible refine stTake (v := ?_) (by kernel_rfl) ?_ ?_; rotate_left
          · (go_simp; (try with_reducible rfl))
          (try simp only [Act.put, zl, List.set_cons_zero, List.set_cons_succ])
          with_reducible refine stTake (v := ?_) (by kernel_rfl) ?_ ?_; rotate_left
          · (go_simp; (try with_reducible rfl))
          (try simp only [Act.put, zl, List.set_cons_zero, List.set_cons_succ])
          with_reducible refine stCall (v := .bool ct) (f := 21) (args := #[.slice A2 C.length c2, .int .i64 m]) (by kernel_rfl) (by go_simp) ((has_any A2 C.length c2 C m V rfl ((RC.out.below HV4.out).mono HV4.out.size) (by have := HN2.out; omega)).mono (fun e w h => ⟨h.1.trans (by rw [HC1.out]), h.2.symm⟩)) ?_
          (try simp only [Act.put, zl, List.set_cons_zero, List.set_cons_succ])
          with_reducible refine stTake (v := ?_) (by kernel_rfl) ?_ ?_; rotate_left
          · (go_simp; (try with_reducible rfl))
          (try simp only [Act.put, zl, List.set_cons_zero, List.set_cons_succ])
          refine wpStill_nil ?_
          clear v71 v91 vm
          clear y1 y2
          have hcb := HCB.out
          cases ct
          · as_aux_lemma =>
              go_wp2_with fail
              go_roundw
              case rel => exact ⟨i + 1, cb + 1, by omega, by go_num, by go_num, hide (by rw [HCT.out, ← HCQ.out, HC1.out]; rfl), HV4⟩
              case measure => simp [intOf]; omega
          · as_aux_lemma =>
              go_wp2_with fail
              go_roundw
              case rel => exact ⟨i + 1, cb, by omega, rfl, by go_num, hide (by rw [HCT.out, ← HCQ.out, HC1.out]; rfl), HV4⟩
              case measure => simp [intOf]; omega
        · have hkn : i = B.length := by omega
          subst hkn
          clear hi hlt
          go_wp2_with fail
          go_meet
          case rel => exact ⟨by rw [HBK.out, if_pos HZ.out, HCQ.out, List.take_length], HR5⟩
    · have hz' : h ≤ f.freeze := by omega
      go_wp2_with fail
      go_meet
      case rel => exact ⟨by rw [HBK.out, if_neg (by omega)], HR5⟩
  case rest =>
    obtain ⟨rfl, HRC⟩ := hcut
    clear HR5
    (try clear x50 x51 x52 x53 x54 l50 y70 y71 y72 y73 ly7 HP0 HC0)
    have HRW := HRC
    have hSof : ∀ v, Below w5.heap.size w5 v → (fun w' => Below w5.heap.size w5 w' ∧ g7 < w'.heap.size ∧ w'.cell? ⟨g7, 0, none⟩ = some (.slice A1 M.length c1) ∧ w'.cell? ⟨g7, 1, none⟩ = some (.slice A2 C.length c2) ∧ w'.cell? ⟨g7, 2, none⟩ = some (.slice A3 O.length c3)) v := fun v hv => ⟨hv, Nat.lt_of_lt_of_le (blk_lt HE7.out) hv.size, (blk_cell ((hv.block _ (blk_lt HE7.out)).trans HE7.out) 0).trans rfl, (blk_cell ((hv.block _ (blk_lt HE7.out)).trans HE7.out) 1).trans rfl, (blk_cell ((hv.block _ (blk_lt HE7.out)).trans HE7.out) 2).trans rfl⟩
    go_upto_region 14 with fail
    refine wp_region_held_drew (S := (fun w' => Below w5.heap.size w5 w' ∧ g7 < w'.heap.size ∧ w'.cell? ⟨g7, 0, none⟩ = some (.slice A1 M.length c1) ∧ w'.cell? ⟨g7, 1, none⟩ = some (.slice A2 C.length c2) ∧ w'.cell? ⟨g7, 2, none⟩ = some (.slice A3 O.length c3))) (by kernel_rfl) ?_ (fun hHeld0 => ?_)
    · (try dsimp only); first | exact hSof _ HKd.out | exact hSof _ HKc.out | exact hSof _ HKb.out | exact hSof _ HKa.out | exact hSof _ (zbD HRC.out)
    refine tL (v := ?_) 1 rfl (by kernel_rfl) (fun _ _ _ h => h) (Or.inl ⟨by rfl, ?_⟩) (by assumption) ?_; rotate_left
    · (intro w hSw; (try dsimp only at hSw); go_simp; try with_reducible rfl)
    try simp only [Act.put, zl, z0, z1]
    refine tL (v := ?_) 2 rfl (by kernel_rfl) (fun _ _ _ h => h) (Or.inl ⟨by rfl, ?_⟩) (by assumption) ?_; rotate_left
    · (intro w hSw; (try dsimp only at hSw); go_simp; try with_reducible rfl)
    try simp only [Act.put, zl, z0, z1]
    refine tL (v := ?_) 4 rfl (by kernel_rfl) (fun _ _ _ h => h) (Or.inl ⟨by rfl, ?_⟩) (by assumption) ?_; rotate_left
    · (intro w hSw; (try dsimp only at hSw); go_simp; try with_reducible rfl)
    try simp only [Act.put, zl, z0, z1]
    refine tL (v := ?_) 5 rfl (by kernel_rfl) (fun _ _ _ h => h) (Or.inl ⟨by rfl, ?_⟩) (by assumption) ?_; rotate_left
    · (intro w hSw; (try dsimp only at hSw); go_simp; try with_reducible rfl)
    try simp only [Act.put, zl, z0, z1]
    refine tL (v := ?_) 7 rfl (by kernel_rfl) (fun _ _ _ h => h) (Or.inl ⟨by rfl, ?_⟩) (by assumption) ?_; rotate_left
    · (intro w hSw; (try dsimp only at hSw); go_simp; try with_reducible rfl)
    try simp only [Act.put, zl, z0, z1]
    refine tL (v := ?_) 8 rfl (by kernel_rfl) (fun _ _ _ h => h) (Or.inl ⟨by rfl, ?_⟩) (by assumption) ?_; rotate_left
    · (intro w hSw; (try dsimp only at hSw); go_simp; try with_reducible rfl)
    try simp only [Act.put, zl, z0, z1]
    refine wpAnyH_ready (rs := [0]) (by kernel_rfl) (by simp) ?_
    refine consL 0 rfl (fun K hK => ?_) AllReadyH.nil
    (go_simp; refine cap_gen (K := K) (fun W1 hW1 => ?_); have HO0 := hide (owns_empty (B := w5.heap.size) (show W1.heap[wc.heap.size]? = some (.cells #[] 3 (0, 0)) by rw [hW1]; exact World.alloc_heap_new _ _) HRC.out.size); have HKa := hide (show Below w5.heap.size w5 W1 by rw [hW1]; first | exact zbD (zbA HRC.out HRC.out.size _) | exact zbA (zbD HRC.out) HRC.out.size _); clear hW1)
    refine hK.out _ _ ?_ (fun hHeld1 => ?_)
    · (try dsimp only); first | exact hSof _ HKd.out | exact hSof _ HKc.out | exact hSof _ HKb.out | exact hSof _ HKa.out | exact hSof _ (zbD HRC.out)
    clear hK K hHeld0
    try simp only [Act.put, zl, z0, z1]
    refine wpAnyH_ready (rs := [3]) (by kernel_rfl) (by simp) ?_
    refine consL 3 rfl (fun K hK => ?_) AllReadyH.nil
    (refine step_app_ints rfl (.tmp 92) (.tmp 94) rfl w5.heap.size _ [] 0 rfl HO0.out A1 M.length c1 M rfl rfl ((RM.out.below HKa.out).mono HKa.out.size) HA1.out (M.length) (by omega) (by have := HN1.out; have := HN2.out; omega) (by have := HN1.out; have := HN2.out; have := HNO.out; omega) HKa.out.size ?_; intro A4 c4 W2 hown hgrow; have HO1 := hide hown; have HKb := hide (HKa.out.trans (grown_below (B := w5.heap.size) hgrow HKa.out.size (fun g hg => (HO0.out.lt g hg).1))); clear hown hgrow)
    refine hK.out _ _ ?_ (fun hHeld2 => ?_)
    · (try dsimp only); first | exact hSof _ HKd.out | exact hSof _ HKc.out | exact hSof _ HKb.out | exact hSof _ HKa.out | exact hSof _ (zbD HRC.out)
    clear hK K hHeld1
    try simp only [Act.put, zl, z0, z1]
    refine wpAnyH_ready (rs := [6]) (by kernel_rfl) (by simp) ?_
    refine consL 6 rfl (fun K hK => ?_) AllReadyH.nil
    (refine step_app_ints rfl (.tmp 95) (.tmp 97) rfl w5.heap.size _ ([] ++ M) (M.length) rfl HO1.out A2 C.length c2 C rfl rfl ((RC.out.below HKb.out).mono HKb.out.size) HA2.out (M.length + C.length) (by omega) (by have := HN1.out; have := HN2.out; omega) (by have := HN1.out; have := HN2.out; have := HNO.out; omega) HKb.out.size ?_; intro A4 c4 W3 hown hgrow; have HO2 := hide hown; have HKc := hide (HKb.out.trans (grown_below (B := w5.heap.size) hgrow HKb.out.size (fun g hg => (HO1.out.lt g hg).1))); clear hown hgrow)
    refine hK.out _ _ ?_ (fun hHeld3 => ?_)
    · (try dsimp only); first | exact hSof _ HKd.out | exact hSof _ HKc.out | exact hSof _ HKb.out | exact hSof _ HKa.out | exact hSof _ (zbD HRC.out)
    clear hK K hHeld2
    try simp only [Act.put, zl, z0, z1]
    refine wpAnyH_ready (rs := [9]) (by kernel_rfl) (by simp) ?_
    refine consL 9 rfl (fun K hK => ?_) AllReadyH.nil
    (refine step_app_ints rfl (.tmp 98) (.tmp 100) rfl w5.heap.size _ ([] ++ M ++ C) (M.length + C.length) rfl HO2.out A3 O.length c3 O rfl rfl ((RO.out.below HKc.out).mono HKc.out.size) HA3.out (M.length + C.length + O.length) (by omega) (by have := HN1.out; have := HN2.out; omega) (by have := HN1.out; have := HN2.out; have := HNO.out; omega) HKc.out.size ?_; intro A4 c4 w6 hown hgrow; have HO3 := hide hown; have HKd := hide (HKc.out.trans (grown_below (B := w5.heap.size) hgrow HKc.out.size (fun g hg => (HO2.out.lt g hg).1))); clear hown hgrow)
    refine hK.out _ _ ?_ (fun hHeld4 => ?_)
    · (try dsimp only); first | exact hSof _ HKd.out | exact hSof _ HKc.out | exact hSof _ HKb.out | exact hSof _ HKa.out | exact hSof _ (zbD HRC.out)
    clear hK K hHeld3
    try simp only [Act.put, zl, z0, z1]
    refine tL (v := ?_) 10 rfl (by kernel_rfl) (fun _ _ _ h => h) (Or.inl ⟨by rfl, ?_⟩) (by assumption) ?_; rotate_left
    · (intro w hSw; (try dsimp only at hSw); go_simp; try with_reducible rfl)
    try simp only [Act.put, zl, z0, z1]
    refine wpAnyH_done (by kernel_rfl) ?_ _
    clear hSof
    (try dsimp only [Exit.then])
    have RY0 := hide (owns_RdI HO3.out (by simp; omega))
    have HB56 := HKd
    have HYL := hide (show (M ++ C ++ O).length = M.length + C.length + O.length by simp; omega)
    obtain ⟨Y, hY⟩ : ∃ q, M ++ C ++ O = q := ⟨_, rfl⟩
    have HYE := hide hY.symm
    have RY1 := hide (show RdI w6 w6.heap.size A4 Y by rw [← hY]; exact RY0.out)
    rw [hY] at HYL
    have HND := hide (show Y.Nodup by rw [← hY]; exact HPA.out.nodup)
    have HNY := hide (show Y.length ≤ 1000 by rw [HYL.out]; have := HN1.out; have := HN2.out; have := HNO.out; omega)
    clear hY RY0
    rw [← HYL.out]
    clear HO0 HO1 HO2 HO3 HKa HKb HKc
    (try clear hHeld4)
    obtain ⟨ba, oa, HA4⟩ : ∃ ba oa, Hid (∀ (k : Nat) (x : Int), Y[k]? = some x → A4 = some ⟨ba, oa, none⟩) := by
      cases hY : Y[0]? with
      | none => exact ⟨0, 0, hide (fun k x hk => by have h1 := (List.getElem?_eq_some_iff.1 hk).1; rw [List.getElem?_eq_none_iff] at hY; omega)⟩
      | some y0 =>
        obtain ⟨ba, oa, e, _, _⟩ := RY1.out 0 y0 hY
        exact ⟨ba, oa, hide (fun _ _ _ => e)⟩
    have RY := RY1
    clear RY1
    go_wp2_with fail
    go_loopw [14, 15] (fun gq k wr => ∃ (k' : Nat) (gq' : Int), k' ≤ Y.length ∧ gq = .int .i64 gq' ∧ k = .int .i64 k' ∧ Hid (gq' = E.cntG f h l (M.take k')) ∧ Hid (Below w6.heap.size w6 wr)) (fun _ k _ => Y.length - (intOf k).toNat)
    case atStart => exact ⟨0, 0, by omega, rfl, rfl, hide rfl, hide (Below.refl _ _)⟩
    case round =>
      obtain ⟨k, gq, hk, rfl, rfl, HGQ, HR6⟩ := hrel
      have hny := HNY.out
      have HGB := hide (show 0 ≤ gq ∧ gq ≤ 1000 by have h1 := E.cnt_bd f h l (M.take k); rw [← HGQ.out, List.length_take] at h1; have := HN1.out; omega)
      by_cases hlt : k < Y.length
      · obtain ⟨y, hy⟩ : ∃ q, Y[k]? = some q := ⟨_, List.getElem?_eq_getElem hlt⟩
        have HYK := hide hy
        have hlt' : (k : Int) < (Y.length : Int) := by omega
        have hk0 : (0 : Int) ≤ (k : Int) := by omega
        clear hy
        have hA4 := HA4.out k y HYK.out
        subst hA4
        obtain ⟨s1, hs1⟩ : ∃ q, E.plc1 M C k = q := ⟨_, rfl⟩
        obtain ⟨s2, hs2⟩ : ∃ q, E.plc2 M C k = q := ⟨_, rfl⟩
        have HONE := hide (show E.PlcOne f h l M C k y s1 s2 by rw [← hs1, ← hs2]; exact HPO.out k y (by rw [← HYE.out]; exact HYK.out))
        have HS1 := hide hs1
        have HS2 := hide hs2
        have HSV := hide HONE.out.stand
        clear hs1 hs2
        go_wp2_with fail
        go_loopw [16] (fun j wr => ∃ j' : Nat, j' ≤ k ∧ j = .int .i64 j' ∧ Hid (Below w6.heap.size w6 wr)) (fun j _ => k - (intOf j).toNat)
        case atStart => exact ⟨0, by omega, rfl, HR6⟩
        case round =>
          obtain ⟨j, hj, rfl, HR7⟩ := hrel
          have hny := HNY.out
          have hjN : k < Y.length := hlt
          by_cases hjk : j < k
          · obtain ⟨z, hz⟩ : ∃ q, Y[j]? = some q := ⟨_, List.getElem?_eq_getElem (by omega)⟩
            have HZK := hide hz
            have HNE := hide (E.nodup_ne HND.out hjk hz HYK.out)
            have hjk' : (j : Int) < (k : Int) := by omega
            have hjY : (j : Int) < (Y.length : Int) := by omega
            have hkY : (k : Int) < (Y.length : Int) := by omega
            have hj0 : (0 : Int) ≤ (j : Int) := by omega
            have hk0 : (0 : Int) ≤ (k : Int) := by omega
            clear hz
            as_aux_lemma =>
              go_upto_region 22 with fail
              obtain ⟨V, hV⟩ : ∃ V, (wr).drew = V := ⟨_, rfl⟩
              have HW4 := hide (show Below w6.heap.size w6 V by rw [← hV]; exact zbD HR7.out)
              have HV4 := hide (HB56.out.trans (HW4.out.mono HB56.out.size))
              obtain ⟨bm', om', hAm, _, vz⟩ := (RY.out.below HW4.out) j z HZK.out
              injection hAm with hAm
              injection hAm with hAm1 hAm2
              subst hAm1 hAm2
              obtain ⟨bm', om', hAm, _, vy⟩ := (RY.out.below HW4.out) k y HYK.out
              injection hAm with hAm
              injection hAm with hAm1 hAm2
              subst hAm1 hAm2
              refine wp_region_still_lit (by kernel_rfl) (by kernel_rfl) ?_
              change wpStill _ _ (wr).drew (fun a' => Exit.then _ _ Exit.normal a' (wr).drew) _ _
              rw [hV]
              clear hV
              with_reducible refine stTake (v := ?_) (by kernel_rfl) ?_ ?_; rotate_left
              · (go_simp; (try with_reducible rfl))
              (try simp only [Act.put, zl, List.set_cons_zero, List.set_cons_succ])
              with_reducible refine stTake (v := ?_) (by kernel_rfl) ?_ ?_; rotate_left
              · (go_simp; (try with_reducible rfl))
              (try simp only [Act.put, zl, List.set_cons_zero, List.set_cons_succ])
              with_reducible refine stTake (v := ?_) (by kernel_rfl) ?_ ?_; rotate_left
              · (go_simp; (try with_reducible rfl))
              (try simp only [Act.put, zl, List.set_cons_zero, List.set_cons_succ])
              with_reducible refine stTake (v := ?_) (by kernel_rfl) ?_ ?_; rotate_left
              · (go_simp; (try with_reducible rfl))
              (try simp only [Act.put, zl, List.set_cons_zero, List.set_cons_succ])
              with_reducible refine stTake (v := ?_) (by kernel_rfl) ?_ ?_; rotate_left
              · (go_simp; (try with_reducible rfl))
              (try simp only [Act.put, zl, List.set_cons_zero, List.set_cons_succ])
              with_reducible refine stTake (v := ?_) (by kernel_rfl) ?_ ?_; rotate_left
              · (go_simp; (try with_reducible rfl))
              (try simp only [Act.put, zl, List.set_cons_zero, List.set_cons_succ])
              with_reducible refine stTake (v := ?_) (by kernel_rfl) ?_ ?_; rotate_left
              · (go_simp; (try with_reducible rfl))
              (try simp only [Act.put, zl, List.set_cons_zero, List.set_cons_succ])
              with_reducible refine stTake (v := ?_) (by kernel_rfl) ?_ ?_; rotate_left
              · (go_simp; (try with_reducible rfl))
              (try simp only [Act.put, zl, List.set_cons_zero, List.set_cons_succ])
              with_reducible refine stTake (v := ?_) (by kernel_rfl) ?_ ?_; rotate_left
              · (go_simp; (try simp only [HNE.out]); (try with_reducible rfl))
              (try simp only [Act.put, zl, List.set_cons_zero, List.set_cons_succ])
              refine wpStill_nil ?_
              clear vz vy
              go_wp2_with fail
              go_roundw
              case rel => exact ⟨j + 1, by omega, by go_num, HW4⟩
              case measure => simp [intOf]; omega
          · have hjn : j = k := by omega
            subst hjn
            clear hj hjk
            go_wp2_with fail
            have hkY : (j : Int) < (Y.length : Int) := by omega
            have hk0 : (0 : Int) ≤ (j : Int) := by omega
            go_upto_region 24 with fail
            obtain ⟨V, hV⟩ : ∃ V, (wr).drew = V := ⟨_, rfl⟩
            have HW4 := hide (show Below w6.heap.size w6 V by rw [← hV]; exact zbD HR7.out)
            have HV4 := hide (HB56.out.trans (HW4.out.mono HB56.out.size))
            have HVF := hide ((HV4.out.block _ (blk_lt HF5.out)).trans HF5.out)
            have v30 : V.cell? ⟨w.heap.size, 0, none⟩ = some (.int .i64 f.places) := (blk_cell HVF.out 0).trans rfl
            have v31 : V.cell? ⟨w.heap.size, 1, none⟩ = some (.int .i64 f.wilds) := (blk_cell HVF.out 1).trans rfl
            have v32 : V.cell? ⟨w.heap.size, 2, none⟩ = some (.int .i64 f.guards) := (blk_cell HVF.out 2).trans rfl
            have v33 : V.cell? ⟨w.heap.size, 3, none⟩ = some (.int .i64 f.close) := (blk_cell HVF.out 3).trans rfl
            have v34 : V.cell? ⟨w.heap.size, 4, none⟩ = some (.int .i64 f.freeze) := (blk_cell HVF.out 4).trans rfl
            have lv3 := blk_lt HVF.out
            obtain ⟨bm', om', hAm, _, vy⟩ := (RY.out.below HW4.out) j y HYK.out
            injection hAm with hAm
            injection hAm with hAm1 hAm2
            subst hAm1 hAm2
            refine wp_region_seg 7 (by kernel_rfl) (by kernel_rfl) ?_
            simp only [List.take_succ_cons, List.take_zero]
            rw [hV]
            clear hV
            with_reducible refine stTake (v := ?_) (by kernel_rfl) ?_ ?_; rotate_left
            · (go_simp; (try with_reducible rfl))
            (try simp only [Act.put, zl, List.set_cons_zero, List.set_cons_succ])
            with_reducible refine stTake (v := ?_) (by kernel_rfl) ?_ ?_; rotate_left
            · (go_simp; (try with_reducible rfl))
            (try simp only [Act.put, zl, List.set_cons_zero, List.set_cons_succ])
            with_reducible refine stTake (v := ?_) (by kernel_rfl) ?_ ?_; rotate_left
            · (go_simp; (try with_reducible rfl))
            (try simp only [Act.put, zl, List.set_cons_zero, List.set_cons_succ])
            with_reducible refine stTake (v := ?_) (by kernel_rfl) ?_ ?_; rotate_left
            · (go_simp; (try with_reducible rfl))
            (try simp only [Act.put, zl, List.set_cons_zero, List.set_cons_succ])
            with_reducible refine stTake (v := ?_) (by kernel_rfl) ?_ ?_; rotate_left
            · (go_simp; (try with_reducible rfl))
            (try simp only [Act.put, zl, List.set_cons_zero, List.set_cons_succ])
            with_reducible refine stTake (v := ?_) (by kernel_rfl) ?_ ?_; rotate_left
            · (go_simp; (try with_reducible rfl))
            (try simp only [Act.put, zl, List.set_cons_zero, List.set_cons_succ])
            with_reducible refine stTake (v := ?_) (by kernel_rfl) ?_ ?_; rotate_left
            · (go_simp; (try with_reducible rfl))
            (try simp only [Act.put, zl, List.set_cons_zero, List.set_cons_succ])
            refine wpStill_nil ?_
            refine opEnter (some 130) (f := 16) (args := #[.agg #[.int .i64 f.places, .int .i64 f.wilds, .int .i64 f.guards, .int .i64 f.close, .int .i64 f.freeze], .slice A n c, .int .i64 h, .int .i64 y]) rfl (by kernel_rfl) (by kernel_rfl) (by go_simp) ?_
            with_reducible refine (Stand_any f A n c l h y V HN.out ?hr HID.out HM.out).mono ?_
            (case hr => exact (RL.out.below HV4.out).mono HV4.out.size)
            rintro e w7 ⟨rfl, hb5⟩
            rw [HSV.out]
            have HW7 := hide (zbT HW4.out hb5 HW4.out.size)
            clear hb5
            refine ⟨_, rfl, ?_⟩
            (try dsimp only [Act.put])
            (try simp only [Act.put, zl, List.set_cons_zero, List.set_cons_succ])
            refine wpAny_end (k := 8) (Nat.le_of_ble_eq_true (by kernel_rfl)) (by kernel_rfl) ?_
            simp only [List.drop_succ_cons, List.drop_zero]
            with_reducible refine stTake (v := ?_) (by kernel_rfl) ?_ ?_; rotate_left
            · (go_simp; (try with_reducible rfl))
            (try simp only [Act.put, zl, List.set_cons_zero, List.set_cons_succ])
            with_reducible refine stTake (v := ?_) (by kernel_rfl) ?_ ?_; rotate_left
            · (go_simp; (try with_reducible rfl))
            (try simp only [Act.put, zl, List.set_cons_zero, List.set_cons_succ])
            with_reducible refine stTake (v := ?_) (by kernel_rfl) ?_ ?_; rotate_left
            · (go_simp; (try with_reducible rfl))
            (try simp only [Act.put, zl, List.set_cons_zero, List.set_cons_succ])
            with_reducible refine stTake (v := ?_) (by kernel_rfl) ?_ ?_; rotate_left
            · (go_simp; (try with_reducible rfl))
            (try simp only [Act.put, zl, List.set_cons_zero, List.set_cons_succ])
            with_reducible refine stTake (v := ?_) (by kernel_rfl) ?_ ?_; rotate_left
            · (go_simp; (try with_reducible rfl))
            (try simp only [Act.put, zl, List.set_cons_zero, List.set_cons_succ])
            with_reducible refine stTake (v := ?_) (by kernel_rfl) ?_ ?_; rotate_left
            · (go_simp; (try with_reducible rfl))
            (try simp only [Act.put, zl, List.set_cons_zero, List.set_cons_succ])
            with_reducible refine stTake (v := ?_) (by kernel_rfl) ?_ ?_; rotate_left
            · (go_simp; (try with_reducible rfl))
            (try simp only [Act.put, zl, List.set_cons_zero, List.set_cons_succ])
            refine wpStill_nil ?_
            (try dsimp only [Exit.then])
            clear v30 v31 v32 v33 v34 lv3 vy
            clear HV4 HVF HW4
            have HE6 := hide (((HB56.out.trans (HW7.out.mono HB56.out.size)).block _ (blk_lt HE7.out)).trans HE7.out)
            have y70 : w7.cell? ⟨g7, 0, none⟩ = some (.slice A1 M.length c1) := (blk_cell HE6.out 0).trans rfl
            have y71 : w7.cell? ⟨g7, 1, none⟩ = some (.slice A2 C.length c2) := (blk_cell HE6.out 1).trans rfl
            have ly7 := blk_lt HE6.out
            have hm92 := HN1.out
            have hc60 := HN2.out
            have hkY : (j : Int) < (Y.length : Int) := by omega
            have hk0 : (0 : Int) ≤ (j : Int) := by omega
            have hny := HNY.out
            obtain ⟨q1, hq1⟩ : ∃ q, (if j < M.length then (1 : Int) else 2) = q := ⟨_, rfl⟩
            obtain ⟨q2, hq2⟩ : ∃ q, (if j < M.length then (j : Int) + 1 else (j : Int) + 1 - M.length) = q := ⟨_, rfl⟩
            have HQ1 := hide hq1
            have HQ2' := hide hq2
            clear hq1 hq2
            go_upto_if 140 with fail
            go_cut [20, 21] from 102 to 235 (fun v20 v21 wx => v20 = .int .i64 q1 ∧ v21 = .int .i64 q2 ∧ Hid (Below w6.heap.size w6 wx))
            case first =>
              by_cases h1 : j < M.length
              · have h1' : (j : Int) < (M.length : Int) := by omega
                have hb1 : decide ((M.length : Int) ≤ (j : Int)) = false := decide_eq_false (by omega)
                go_wp2_with fail
                go_meet
                case rel => exact ⟨by rw [← HQ1.out, if_pos h1], by rw [← HQ2'.out, if_pos h1], HW7⟩
              · have h1' : (M.length : Int) ≤ (j : Int) := by omega
                have hwa : IntKind.i64.wrap ((j : Int) + 1) = (j : Int) + 1 := IntWalk.i64_in _ (by omega)
                have hwb : IntKind.i64.wrap ((j : Int) + 1 - (M.length : Int)) = (j : Int) + 1 - (M.length : Int) := IntWalk.i64_in _ (by omega)
                have hb1 : decide ((M.length : Int) ≤ (j : Int)) = true := decide_eq_true (by omega)
                go_upto_region 27 with fail
                obtain ⟨V, hV⟩ : ∃ V, (w7).drew = V := ⟨_, rfl⟩
                have HW4 := hide (show Below w6.heap.size w6 V by rw [← hV]; exact zbD HW7.out)
                have HV4 := hide (HB56.out.trans (HW4.out.mono HB56.out.size))
                have v70 : V.cell? ⟨g7, 0, none⟩ = some (.slice A1 M.length c1) := (blk_cell ((HV4.out.block _ (blk_lt HE7.out)).trans HE7.out) 0).trans rfl
                refine wp_region_still_lit (by kernel_rfl) (by kernel_rfl) ?_
                change wpStill _ _ (w7).drew (fun a' => Exit.then _ _ Exit.normal a' (w7).drew) _ _
                rw [hV]
                clear hV
                with_reducible refine stTake (v := ?_) (by kernel_rfl) ?_ ?_; rotate_left
                · (go_simp; (try with_reducible rfl))
                (try simp only [Act.put, zl, List.set_cons_zero, List.set_cons_succ])
                with_reducible refine stTake (v := ?_) (by kernel_rfl) ?_ ?_; rotate_left
                · (go_simp; (try with_reducible rfl))
                (try simp only [Act.put, zl, List.set_cons_zero, List.set_cons_succ])
                with_reducible refine stTake (v := ?_) (by kernel_rfl) ?_ ?_; rotate_left
                · (go_simp; (try with_reducible rfl))
                (try simp only [Act.put, zl, List.set_cons_zero, List.set_cons_succ])
                with_reducible refine stTake (v := ?_) (by kernel_rfl) ?_ ?_; rotate_left
                · (go_simp; (try with_reducible rfl))
                (try simp only [Act.put, zl, List.set_cons_zero, List.set_cons_succ])
                with_reducible refine stTake (v := ?_) (by kernel_rfl) ?_ ?_; rotate_left
                · (go_simp; (try with_reducible rfl))
                (try simp only [Act.put, zl, List.set_cons_zero, List.set_cons_succ])
                with_reducible refine stTake (v := ?_) (by kernel_rfl) ?_ ?_; rotate_left
                · (go_simp; (try with_reducible rfl))
                (try simp only [Act.put, zl, List.set_cons_zero, List.set_cons_succ])
                with_reducible refine stTake (v := ?_) (by kernel_rfl) ?_ ?_; rotate_left
                · (go_simp; (try with_reducible rfl))
                (try simp only [Act.put, zl, List.set_cons_zero, List.set_cons_succ])
                with_reducible refine stTake (v := ?_) (by kernel_rfl) ?_ ?_; rotate_left
                · (go_simp; (try with_reducible rfl))
                (try simp only [Act.put, zl, List.set_cons_zero, List.set_cons_succ])
                refine wpStill_nil ?_
                go_wp2_with fail
                go_meet
                case rel => exact ⟨by rw [← HQ1.out, if_neg (by omega)], by rw [← HQ2'.out, if_neg (by omega)], HW4⟩
            case rest =>
              obtain ⟨rfl, rfl, HW7'⟩ := hcut
              clear y70 y71 ly7 HE6 HW7
              have HW7 := HW7'
              clear HW7'
              have HE6 := hide (((HB56.out.trans (HW7.out.mono HB56.out.size)).block _ (blk_lt HE7.out)).trans HE7.out)
              have y70 : wc.cell? ⟨g7, 0, none⟩ = some (.slice A1 M.length c1) := (blk_cell HE6.out 0).trans rfl
              have y71 : wc.cell? ⟨g7, 1, none⟩ = some (.slice A2 C.length c2) := (blk_cell HE6.out 1).trans rfl
              have ly7 := blk_lt HE6.out
              go_upto_if 155 with fail
              go_cut [20, 21] from 102 to 235 (fun v20 v21 wx => v20 = .int .i64 s1 ∧ v21 = .int .i64 s2 ∧ Hid (Below w6.heap.size w6 wx))
              case first =>
                by_cases h1 : j < M.length + C.length
                · have hb1 : decide ((M.length : Int) + (C.length : Int) ≤ (j : Int)) = false := decide_eq_false (by omega)
                  have h1' : (j : Int) < (M.length : Int) + (C.length : Int) := by omega
                  go_wp2_with fail
                  go_meet
                  case rel =>
                    refine ⟨?_, ?_, HW7⟩
                    · rw [← HQ1.out, ← HS1.out]; unfold E.plc1; by_cases h2 : j < M.length
                      · rw [if_pos h2, if_pos h2]
                      · rw [if_neg (by omega), if_neg (by omega), if_pos (by omega)]
                    · rw [← HQ2'.out, ← HS2.out]; unfold E.plc2; by_cases h2 : j < M.length
                      · rw [if_pos h2, if_pos h2]
                      · rw [if_neg (by omega), if_neg (by omega), if_pos (by omega)]
                · have hb1 : decide ((M.length : Int) + (C.length : Int) ≤ (j : Int)) = true := decide_eq_true (by omega)
                  have h1' : (M.length : Int) + (C.length : Int) ≤ (j : Int) := by omega
                  have hwa : IntKind.i64.wrap ((j : Int) + 1) = (j : Int) + 1 := IntWalk.i64_in _ (by omega)
                  have hwb : IntKind.i64.wrap ((j : Int) + 1 - (M.length : Int)) = (j : Int) + 1 - (M.length : Int) := IntWalk.i64_in _ (by omega)
                  have hwc : IntKind.i64.wrap ((j : Int) + 1 - (M.length : Int) - (C.length : Int)) = (j : Int) + 1 - (M.length : Int) - (C.length : Int) := IntWalk.i64_in _ (by omega)
                  go_upto_region 29 with fail
                  obtain ⟨V, hV⟩ : ∃ V, (wc).drew = V := ⟨_, rfl⟩
                  have HW4 := hide (show Below w6.heap.size w6 V by rw [← hV]; exact zbD HW7.out)
                  have HV4 := hide (HB56.out.trans (HW4.out.mono HB56.out.size))
                  have v70 : V.cell? ⟨g7, 0, none⟩ = some (.slice A1 M.length c1) := (blk_cell ((HV4.out.block _ (blk_lt HE7.out)).trans HE7.out) 0).trans rfl
                  have v71 : V.cell? ⟨g7, 1, none⟩ = some (.slice A2 C.length c2) := (blk_cell ((HV4.out.block _ (blk_lt HE7.out)).trans HE7.out) 1).trans rfl
                  refine wp_region_still_lit (by kernel_rfl) (by kernel_rfl) ?_
                  change wpStill _ _ (wc).drew (fun a' => Exit.then _ _ Exit.normal a' (wc).drew) _ _
                  rw [hV]
                  clear hV
                  with_reducible refine stTake (v := ?_) (by kernel_rfl) ?_ ?_; rotate_left
                  · (go_simp; (try with_reducible rfl))
                  (try simp only [Act.put, zl, List.set_cons_zero, List.set_cons_succ])
                  with_reducible refine stTake (v := ?_) (by kernel_rfl) ?_ ?_; rotate_left
                  · (go_simp; (try with_reducible rfl))
                  (try simp only [Act.put, zl, List.set_cons_zero, List.set_cons_succ])
                  with_reducible refine stTake (v := ?_) (by kernel_rfl) ?_ ?_; rotate_left
                  · (go_simp; (try with_reducible rfl))
                  (try simp only [Act.put, zl, List.set_cons_zero, List.set_cons_succ])
                  with_reducible refine stTake (v := ?_) (by kernel_rfl) ?_ ?_; rotate_left
                  · (go_simp; (try with_reducible rfl))
                  (try simp only [Act.put, zl, List.set_cons_zero, List.set_cons_succ])
                  with_reducible refine stTake (v := ?_) (by kernel_rfl) ?_ ?_; rotate_left
                  · (go_simp; (try with_reducible rfl))
                  (try simp only [Act.put, zl, List.set_cons_zero, List.set_cons_succ])
                  with_reducible refine stTake (v := ?_) (by kernel_rfl) ?_ ?_; rotate_left
                  · (go_simp; (try with_reducible rfl))
                  (try simp only [Act.put, zl, List.set_cons_zero, List.set_cons_succ])
                  with_reducible refine stTake (v := ?_) (by kernel_rfl) ?_ ?_; rotate_left
                  · (go_simp; (try with_reducible rfl))
                  (try simp only [Act.put, zl, List.set_cons_zero, List.set_cons_succ])
                  with_reducible refine stTake (v := ?_) (by kernel_rfl) ?_ ?_; rotate_left
                  · (go_simp; (try with_reducible rfl))
                  (try simp only [Act.put, zl, List.set_cons_zero, List.set_cons_succ])
                  with_reducible refine stTake (v := ?_) (by kernel_rfl) ?_ ?_; rotate_left
                  · (go_simp; (try with_reducible rfl))
                  (try simp only [Act.put, zl, List.set_cons_zero, List.set_cons_succ])
                  with_reducible refine stTake (v := ?_) (by kernel_rfl) ?_ ?_; rotate_left
                  · (go_simp; (try with_reducible rfl))
                  (try simp only [Act.put, zl, List.set_cons_zero, List.set_cons_succ])
                  with_reducible refine stTake (v := ?_) (by kernel_rfl) ?_ ?_; rotate_left
                  · (go_simp; (try with_reducible rfl))
                  (try simp only [Act.put, zl, List.set_cons_zero, List.set_cons_succ])
                  with_reducible refine stTake (v := ?_) (by kernel_rfl) ?_ ?_; rotate_left
                  · (go_simp; (try with_reducible rfl))
                  (try simp only [Act.put, zl, List.set_cons_zero, List.set_cons_succ])
                  refine wpStill_nil ?_
                  go_wp2_with fail
                  go_meet
                  case rel =>
                    refine ⟨?_, ?_, HW4⟩
                    · rw [← HS1.out]; unfold E.plc1; rw [if_neg (by omega), if_neg (by omega)]
                    · rw [← HS2.out]; unfold E.plc2; rw [if_neg (by omega), if_neg (by omega)]
              case rest =>
                obtain ⟨rfl, rfl, HR8⟩ := hcut
                clear y70 y71 ly7 HE6 HW7
                have hs11 : (s1 != s1) = false := by simp
                have hs22 : (s2 != s2) = false := by simp
                go_wp2_with fail
                clear hs11 hs22
                go_loopw [22] (fun i wr => ∃ i' : Nat, i' ≤ n ∧ i = .int .i64 i' ∧ Hid (Below w6.heap.size w6 wr)) (fun i _ => n - (intOf i).toNat)
                case atStart => exact ⟨0, by omega, rfl, HR8⟩
                case round =>
                  obtain ⟨i, hi, rfl, HR8⟩ := hrel
                  have hmn := HM.out
                  have hny := HNY.out
                  by_cases hin : i < n
                  · obtain ⟨x, hx⟩ : ∃ q, l[i]? = some q := ⟨_, List.getElem?_eq_getElem (by have := HN.out; omega)⟩
                    have HX := hide hx
                    have hi1 : (i : Int) < (n : Int) := by omega
                    have hi0 : (0 : Int) ≤ (i : Int) := by omega
                    have hkY : (j : Int) < (Y.length : Int) := by omega
                    have hk0 : (0 : Int) ≤ (j : Int) := by omega
                    clear hx
                    go_upto_region 35 with fail
                    obtain ⟨c1, hbc1⟩ : ∃ b, (x.player == y) = b := ⟨_, rfl⟩
                    have Pc1 := hide hbc1
                    have Pc1' := hide (show decide (x.player = y) = c1 from hbc1)
                    clear hbc1
                    cases c1
                    · as_aux_lemma =>
                        obtain ⟨V, hV⟩ : ∃ V, (wr).drew = V := ⟨_, rfl⟩
                        have HW4 := hide (show Below w6.heap.size w6 V by rw [← hV]; exact zbD HR8.out)
                        have HV4 := hide (HB56.out.trans (HW4.out.mono HB56.out.size))
                        obtain ⟨bm', om', hAm, _, vy⟩ := (RY.out.below HW4.out) j y HYK.out
                        injection hAm with hAm
                        injection hAm with hAm1 hAm2
                        subst hAm1 hAm2
                        obtain ⟨bx, ox, hAx, _, u0, u1, u2, u3, u4⟩ := (RL.out.below HV4.out) i x HX.out
                        subst hAx
                        refine wp_region_still_lit (by kernel_rfl) (by kernel_rfl) ?_
                        change wpStill _ _ (wr).drew (fun a' => Exit.then _ _ Exit.normal a' (wr).drew) _ _
                        rw [hV]
                        clear hV
                        with_reducible refine stTake (v := ?_) (by kernel_rfl) ?_ ?_; rotate_left
                        · (go_simp; (try with_reducible rfl))
                        (try simp only [Act.put, zl, List.set_cons_zero, List.set_cons_succ])
                        with_reducible refine stTake (v := ?_) (by kernel_rfl) ?_ ?_; rotate_left
                        · (go_simp; (try with_reducible rfl))
                        (try simp only [Act.put, zl, List.set_cons_zero, List.set_cons_succ])
                        with_reducible refine stTake (v := ?_) (by kernel_rfl) ?_ ?_; rotate_left
                        · (go_simp; (try with_reducible rfl))
                        (try simp only [Act.put, zl, List.set_cons_zero, List.set_cons_succ])
                        with_reducible refine stTake (v := ?_) (by kernel_rfl) ?_ ?_; rotate_left
                        · (go_simp; (try with_reducible rfl))
                        (try simp only [Act.put, zl, List.set_cons_zero, List.set_cons_succ])
                        with_reducible refine stTake (v := ?_) (by kernel_rfl) ?_ ?_; rotate_left
                        · (go_simp; (try with_reducible rfl))
                        (try simp only [Act.put, zl, List.set_cons_zero, List.set_cons_succ])
                        with_reducible refine stTake (v := ?_) (by kernel_rfl) ?_ ?_; rotate_left
                        · (go_simp; (try with_reducible rfl))
                        (try simp only [Act.put, zl, List.set_cons_zero, List.set_cons_succ])
                        with_reducible refine stTake (v := ?_) (by kernel_rfl) ?_ ?_; rotate_left
                        · (go_simp; (try with_reducible rfl))
                        (try simp only [Act.put, zl, List.set_cons_zero, List.set_cons_succ])
                        with_reducible refine stTake (v := ?_) (by kernel_rfl) ?_ ?_; rotate_left
                        · (go_simp; (try with_reducible rfl))
                        (try simp only [Act.put, zl, List.set_cons_zero, List.set_cons_succ])
                        with_reducible refine stTake (v := ?_) (by kernel_rfl) ?_ ?_; rotate_left
                        · (go_simp; (try with_reducible rfl))
                        (try simp only [Act.put, zl, List.set_cons_zero, List.set_cons_succ])
                        with_reducible refine stTake (v := ?_) (by kernel_rfl) ?_ ?_; rotate_left
                        · (go_simp; (try simp only [Pc1.out, Pc1'.out]); (try with_reducible rfl))
                        (try simp only [Act.put, zl, List.set_cons_zero, List.set_cons_succ])
                        with_reducible refine stTake (v := ?_) (by kernel_rfl) ?_ ?_; rotate_left
                        · (go_simp; (try with_reducible rfl))
                        (try simp only [Act.put, zl, List.set_cons_zero, List.set_cons_succ])
                        with_reducible refine stSkip (by kernel_rfl) ?_
                        (try simp only [Act.put, zl, List.set_cons_zero, List.set_cons_succ])
                        with_reducible refine stSkip (by kernel_rfl) ?_
                        (try simp only [Act.put, zl, List.set_cons_zero, List.set_cons_succ])
                        with_reducible refine stSkip (by kernel_rfl) ?_
                        (try simp only [Act.put, zl, List.set_cons_zero, List.set_cons_succ])
                        with_reducible refine stSkip (by kernel_rfl) ?_
                        (try simp only [Act.put, zl, List.set_cons_zero, List.set_cons_succ])
                        with_reducible refine stSkip (by kernel_rfl) ?_
                        (try simp only [Act.put, zl, List.set_cons_zero, List.set_cons_succ])
                        with_reducible refine stSkip (by kernel_rfl) ?_
                        (try simp only [Act.put, zl, List.set_cons_zero, List.set_cons_succ])
                        with_reducible refine stTake (v := ?_) (by kernel_rfl) ?_ ?_; rotate_left
                        · (go_simp; (try with_reducible rfl))
                        (try simp only [Act.put, zl, List.set_cons_zero, List.set_cons_succ])
                        with_reducible refine stTake (v := ?_) (by kernel_rfl) ?_ ?_; rotate_left
                        · (go_simp; (try with_reducible rfl))
                        (try simp only [Act.put, zl, List.set_cons_zero, List.set_cons_succ])
                        with_reducible refine stSkip (by kernel_rfl) ?_
                        (try simp only [Act.put, zl, List.set_cons_zero, List.set_cons_succ])
                        with_reducible refine stSkip (by kernel_rfl) ?_
                        (try simp only [Act.put, zl, List.set_cons_zero, List.set_cons_succ])
                        with_reducible refine stSkip (by kernel_rfl) ?_
                        (try simp only [Act.put, zl, List.set_cons_zero, List.set_cons_succ])
                        with_reducible refine stSkip (by kernel_rfl) ?_
                        (try simp only [Act.put, zl, List.set_cons_zero, List.set_cons_succ])
                        with_reducible refine stSkip (by kernel_rfl) ?_
                        (try simp only [Act.put, zl, List.set_cons_zero, List.set_cons_succ])
                        with_reducible refine stSkip (by kernel_rfl) ?_
                        (try simp only [Act.put, zl, List.set_cons_zero, List.set_cons_succ])
                        with_reducible refine stSkip (by kernel_rfl) ?_
                        (try simp only [Act.put, zl, List.set_cons_zero, List.set_cons_succ])
                        with_reducible refine stTake (v := ?_) (by kernel_rfl) ?_ ?_; rotate_left
                        · (go_simp; (try with_reducible rfl))
                        (try simp only [Act.put, zl, List.set_cons_zero, List.set_cons_succ])
                        refine wpStill_nil ?_
                        clear vy u0 u1 u2 u3 u4
                        go_wp2_with fail
                        go_roundw
                        case rel => exact ⟨i + 1, by omega, by go_num, HW4⟩
                        case measure => simp [intOf]; omega
                    · obtain ⟨c2, hbc2⟩ : ∃ b, (x.kind == 4) = b := ⟨_, rfl⟩
                      have Pc2 := hide hbc2
                      have Pc2' := hide (show decide (x.kind = 4) = c2 from hbc2)
                      clear hbc2
                      cases c2
                      · as_aux_lemma =>
                          obtain ⟨V, hV⟩ : ∃ V, (wr).drew = V := ⟨_, rfl⟩
                          have HW4 := hide (show Below w6.heap.size w6 V by rw [← hV]; exact zbD HR8.out)
                          have HV4 := hide (HB56.out.trans (HW4.out.mono HB56.out.size))
                          obtain ⟨bm', om', hAm, _, vy⟩ := (RY.out.below HW4.out) j y HYK.out
                          injection hAm with hAm
                          injection hAm with hAm1 hAm2
                          subst hAm1 hAm2
                          obtain ⟨bx, ox, hAx, _, u0, u1, u2, u3, u4⟩ := (RL.out.below HV4.out) i x HX.out
                          subst hAx
                          refine wp_region_still_lit (by kernel_rfl) (by kernel_rfl) ?_
                          change wpStill _ _ (wr).drew (fun a' => Exit.then _ _ Exit.normal a' (wr).drew) _ _
                          rw [hV]
                          clear hV
                          with_reducible refine stTake (v := ?_) (by kernel_rfl) ?_ ?_; rotate_left
                          · (go_simp; (try with_reducible rfl))
                          (try simp only [Act.put, zl, List.set_cons_zero, List.set_cons_succ])
                          with_reducible refine stTake (v := ?_) (by kernel_rfl) ?_ ?_; rotate_left
                          · (go_simp; (try with_reducible rfl))
                          (try simp only [Act.put, zl, List.set_cons_zero, List.set_cons_succ])
                          with_reducible refine stTake (v := ?_) (by kernel_rfl) ?_ ?_; rotate_left
                          · (go_simp; (try with_reducible rfl))
                          (try simp only [Act.put, zl, List.set_cons_zero, List.set_cons_succ])
                          with_reducible refine stTake (v := ?_) (by kernel_rfl) ?_ ?_; rotate_left
                          · (go_simp; (try with_reducible rfl))
                          (try simp only [Act.put, zl, List.set_cons_zero, List.set_cons_succ])
                          with_reducible refine stTake (v := ?_) (by kernel_rfl) ?_ ?_; rotate_left
                          · (go_simp; (try with_reducible rfl))
                          (try simp only [Act.put, zl, List.set_cons_zero, List.set_cons_succ])
                          with_reducible refine stTake (v := ?_) (by kernel_rfl) ?_ ?_; rotate_left
                          · (go_simp; (try with_reducible rfl))
                          (try simp only [Act.put, zl, List.set_cons_zero, List.set_cons_succ])
                          with_reducible refine stTake (v := ?_) (by kernel_rfl) ?_ ?_; rotate_left
                          · (go_simp; (try with_reducible rfl))
                          (try simp only [Act.put, zl, List.set_cons_zero, List.set_cons_succ])
                          with_reducible refine stTake (v := ?_) (by kernel_rfl) ?_ ?_; rotate_left
                          · (go_simp; (try with_reducible rfl))
                          (try simp only [Act.put, zl, List.set_cons_zero, List.set_cons_succ])
                          with_reducible refine stTake (v := ?_) (by kernel_rfl) ?_ ?_; rotate_left
                          · (go_simp; (try with_reducible rfl))
                          (try simp only [Act.put, zl, List.set_cons_zero, List.set_cons_succ])
                          with_reducible refine stTake (v := ?_) (by kernel_rfl) ?_ ?_; rotate_left
                          · (go_simp; (try simp only [Pc1.out, Pc1'.out]); (try with_reducible rfl))
                          (try simp only [Act.put, zl, List.set_cons_zero, List.set_cons_succ])
                          with_reducible refine stTake (v := ?_) (by kernel_rfl) ?_ ?_; rotate_left
                          · (go_simp; (try with_reducible rfl))
                          (try simp only [Act.put, zl, List.set_cons_zero, List.set_cons_succ])
                          with_reducible refine stTake (v := ?_) (by kernel_rfl) ?_ ?_; rotate_left
                          · (go_simp; (try with_reducible rfl))
                          (try simp only [Act.put, zl, List.set_cons_zero, List.set_cons_succ])
                          with_reducible refine stTake (v := ?_) (by kernel_rfl) ?_ ?_; rotate_left
                          · (go_simp; (try with_reducible rfl))
                          (try simp only [Act.put, zl, List.set_cons_zero, List.set_cons_succ])
                          with_reducible refine stTake (v := ?_) (by kernel_rfl) ?_ ?_; rotate_left
                          · (go_simp; (try with_reducible rfl))
                          (try simp only [Act.put, zl, List.set_cons_zero, List.set_cons_succ])
                          with_reducible refine stTake (v := ?_) (by kernel_rfl) ?_ ?_; rotate_left
                          · (go_simp; (try with_reducible rfl))
                          (try simp only [Act.put, zl, List.set_cons_zero, List.set_cons_succ])
                          with_reducible refine stTake (v := ?_) (by kernel_rfl) ?_ ?_; rotate_left
                          · (go_simp; (try with_reducible rfl))
                          (try simp only [Act.put, zl, List.set_cons_zero, List.set_cons_succ])
                          with_reducible refine stTake (v := ?_) (by kernel_rfl) ?_ ?_; rotate_left
                          · (go_simp; (try simp only [Pc2.out, Pc2'.out]); (try with_reducible rfl))
                          (try simp only [Act.put, zl, List.set_cons_zero, List.set_cons_succ])
                          with_reducible refine stTake (v := ?_) (by kernel_rfl) ?_ ?_; rotate_left
                          · (go_simp; (try with_reducible rfl))
                          (try simp only [Act.put, zl, List.set_cons_zero, List.set_cons_succ])
                          with_reducible refine stTake (v := ?_) (by kernel_rfl) ?_ ?_; rotate_left
                          · (go_simp; (try with_reducible rfl))
                          (try simp only [Act.put, zl, List.set_cons_zero, List.set_cons_succ])
                          with_reducible refine stSkip (by kernel_rfl) ?_
                          (try simp only [Act.put, zl, List.set_cons_zero, List.set_cons_succ])
                          with_reducible refine stSkip (by kernel_rfl) ?_
                          (try simp only [Act.put, zl, List.set_cons_zero, List.set_cons_succ])
                          with_reducible refine stSkip (by kernel_rfl) ?_
                          (try simp only [Act.put, zl, List.set_cons_zero, List.set_cons_succ])
                          with_reducible refine stSkip (by kernel_rfl) ?_
                          (try simp only [Act.put, zl, List.set_cons_zero, List.set_cons_succ])
                          with_reducible refine stSkip (by kernel_rfl) ?_
                          (try simp only [Act.put, zl, List.set_cons_zero, List.set_cons_succ])
                          with_reducible refine stSkip (by kernel_rfl) ?_
                          (try simp only [Act.put, zl, List.set_cons_zero, List.set_cons_succ])
                          with_reducible refine stSkip (by kernel_rfl) ?_
                          (try simp only [Act.put, zl, List.set_cons_zero, List.set_cons_succ])
                          with_reducible refine stTake (v := ?_) (by kernel_rfl) ?_ ?_; rotate_left
                          · (go_simp; (try with_reducible rfl))
                          (try simp only [Act.put, zl, List.set_cons_zero, List.set_cons_succ])
                          refine wpStill_nil ?_
                          clear vy u0 u1 u2 u3 u4
                          go_wp2_with fail
                          go_roundw
                          case rel => exact ⟨i + 1, by omega, by go_num, HW4⟩
                          case measure => simp [intOf]; omega
                      · obtain ⟨c3, hbc3⟩ : ∃ b, decide (x.hour ≤ h) = b := ⟨_, rfl⟩
                        have Pc3 := hide hbc3
                        have Pc3' := hide (show decide (x.hour ≤ h) = c3 from hbc3)
                        clear hbc3
                        cases c3
                        · as_aux_lemma =>
                            obtain ⟨V, hV⟩ : ∃ V, (wr).drew = V := ⟨_, rfl⟩
                            have HW4 := hide (show Below w6.heap.size w6 V by rw [← hV]; exact zbD HR8.out)
                            have HV4 := hide (HB56.out.trans (HW4.out.mono HB56.out.size))
                            obtain ⟨bm', om', hAm, _, vy⟩ := (RY.out.below HW4.out) j y HYK.out
                            injection hAm with hAm
                            injection hAm with hAm1 hAm2
                            subst hAm1 hAm2
                            obtain ⟨bx, ox, hAx, _, u0, u1, u2, u3, u4⟩ := (RL.out.below HV4.out) i x HX.out
                            subst hAx
                            refine wp_region_still_lit (by kernel_rfl) (by kernel_rfl) ?_
                            change wpStill _ _ (wr).drew (fun a' => Exit.then _ _ Exit.normal a' (wr).drew) _ _
                            rw [hV]
                            clear hV
                            with_reducible refine stTake (v := ?_) (by kernel_rfl) ?_ ?_; rotate_left
                            · (go_simp; (try with_reducible rfl))
                            (try simp only [Act.put, zl, List.set_cons_zero, List.set_cons_succ])
                            with_reducible refine stTake (v := ?_) (by kernel_rfl) ?_ ?_; rotate_left
                            · (go_simp; (try with_reducible rfl))
                            (try simp only [Act.put, zl, List.set_cons_zero, List.set_cons_succ])
                            with_reducible refine stTake (v := ?_) (by kernel_rfl) ?_ ?_; rotate_left
                            · (go_simp; (try with_reducible rfl))
                            (try simp only [Act.put, zl, List.set_cons_zero, List.set_cons_succ])
                            with_reducible refine stTake (v := ?_) (by kernel_rfl) ?_ ?_; rotate_left
                            · (go_simp; (try with_reducible rfl))
                            (try simp only [Act.put, zl, List.set_cons_zero, List.set_cons_succ])
                            with_reducible refine stTake (v := ?_) (by kernel_rfl) ?_ ?_; rotate_left
                            · (go_simp; (try with_reducible rfl))
                            (try simp only [Act.put, zl, List.set_cons_zero, List.set_cons_succ])
                            with_reducible refine stTake (v := ?_) (by kernel_rfl) ?_ ?_; rotate_left
                            · (go_simp; (try with_reducible rfl))
                            (try simp only [Act.put, zl, List.set_cons_zero, List.set_cons_succ])
                            with_reducible refine stTake (v := ?_) (by kernel_rfl) ?_ ?_; rotate_left
                            · (go_simp; (try with_reducible rfl))
                            (try simp only [Act.put, zl, List.set_cons_zero, List.set_cons_succ])
                            with_reducible refine stTake (v := ?_) (by kernel_rfl) ?_ ?_; rotate_left
                            · (go_simp; (try with_reducible rfl))
                            (try simp only [Act.put, zl, List.set_cons_zero, List.set_cons_succ])
                            with_reducible refine stTake (v := ?_) (by kernel_rfl) ?_ ?_; rotate_left
                            · (go_simp; (try with_reducible rfl))
                            (try simp only [Act.put, zl, List.set_cons_zero, List.set_cons_succ])
                            with_reducible refine stTake (v := ?_) (by kernel_rfl) ?_ ?_; rotate_left
                            · (go_simp; (try simp only [Pc1.out, Pc1'.out]); (try with_reducible rfl))
                            (try simp only [Act.put, zl, List.set_cons_zero, List.set_cons_succ])
                            with_reducible refine stTake (v := ?_) (by kernel_rfl) ?_ ?_; rotate_left
                            · (go_simp; (try with_reducible rfl))
                            (try simp only [Act.put, zl, List.set_cons_zero, List.set_cons_succ])
                            with_reducible refine stTake (v := ?_) (by kernel_rfl) ?_ ?_; rotate_left
                            · (go_simp; (try with_reducible rfl))
                            (try simp only [Act.put, zl, List.set_cons_zero, List.set_cons_succ])
                            with_reducible refine stTake (v := ?_) (by kernel_rfl) ?_ ?_; rotate_left
                            · (go_simp; (try with_reducible rfl))
                            (try simp only [Act.put, zl, List.set_cons_zero, List.set_cons_succ])
                            with_reducible refine stTake (v := ?_) (by kernel_rfl) ?_ ?_; rotate_left
                            · (go_simp; (try with_reducible rfl))
                            (try simp only [Act.put, zl, List.set_cons_zero, List.set_cons_succ])
                            with_reducible refine stTake (v := ?_) (by kernel_rfl) ?_ ?_; rotate_left
                            · (go_simp; (try with_reducible rfl))
                            (try simp only [Act.put, zl, List.set_cons_zero, List.set_cons_succ])
                            with_reducible refine stTake (v := ?_) (by kernel_rfl) ?_ ?_; rotate_left
                            · (go_simp; (try with_reducible rfl))
                            (try simp only [Act.put, zl, List.set_cons_zero, List.set_cons_succ])
                            with_reducible refine stTake (v := ?_) (by kernel_rfl) ?_ ?_; rotate_left
                            · (go_simp; (try simp only [Pc2.out, Pc2'.out]); (try with_reducible rfl))
                            (try simp only [Act.put, zl, List.set_cons_zero, List.set_cons_succ])
                            with_reducible refine stTake (v := ?_) (by kernel_rfl) ?_ ?_; rotate_left
                            · (go_simp; (try with_reducible rfl))
                            (try simp only [Act.put, zl, List.set_cons_zero, List.set_cons_succ])
                            with_reducible refine stTake (v := ?_) (by kernel_rfl) ?_ ?_; rotate_left
                            · (go_simp; (try with_reducible rfl))
                            (try simp only [Act.put, zl, List.set_cons_zero, List.set_cons_succ])
                            with_reducible refine stTake (v := ?_) (by kernel_rfl) ?_ ?_; rotate_left
                            · (go_simp; (try with_reducible rfl))
                            (try simp only [Act.put, zl, List.set_cons_zero, List.set_cons_succ])
                            with_reducible refine stTake (v := ?_) (by kernel_rfl) ?_ ?_; rotate_left
                            · (go_simp; (try with_reducible rfl))
                            (try simp only [Act.put, zl, List.set_cons_zero, List.set_cons_succ])
                            with_reducible refine stTake (v := ?_) (by kernel_rfl) ?_ ?_; rotate_left
                            · (go_simp; (try with_reducible rfl))
                            (try simp only [Act.put, zl, List.set_cons_zero, List.set_cons_succ])
                            with_reducible refine stTake (v := ?_) (by kernel_rfl) ?_ ?_; rotate_left
                            · (go_simp; (try with_reducible rfl))
                            (try simp only [Act.put, zl, List.set_cons_zero, List.set_cons_succ])
                            with_reducible refine stTake (v := ?_) (by kernel_rfl) ?_ ?_; rotate_left
                            · (go_simp; (try with_reducible rfl))
                            (try simp only [Act.put, zl, List.set_cons_zero, List.set_cons_succ])
                            with_reducible refine stTake (v := ?_) (by kernel_rfl) ?_ ?_; rotate_left
                            · (go_simp; (try with_reducible rfl))
                            (try simp only [Act.put, zl, List.set_cons_zero, List.set_cons_succ])
                            with_reducible refine stTake (v := ?_) (by kernel_rfl) ?_ ?_; rotate_left
                            · (go_simp; (try simp only [Pc3.out, Pc3'.out]); (try with_reducible rfl))
                            (try simp only [Act.put, zl, List.set_cons_zero, List.set_cons_succ])
                            with_reducible refine stTake (v := ?_) (by kernel_rfl) ?_ ?_; rotate_left
                            · (go_simp; (try with_reducible rfl))
                            (try simp only [Act.put, zl, List.set_cons_zero, List.set_cons_succ])
                            refine wpStill_nil ?_
                            clear vy u0 u1 u2 u3 u4
                            go_wp2_with fail
                            go_roundw
                            case rel => exact ⟨i + 1, by omega, by go_num, HW4⟩
                            case measure => simp [intOf]; omega
                        · exact absurd ⟨by simpa using Pc1'.out, by simpa using Pc2'.out, by simpa using Pc3'.out⟩ (HONE.out.quit x (List.mem_of_getElem? HX.out))
                  · have hine : n = i := by omega
                    subst hine
                    clear hi hin
                    have hkY : (j : Int) < (Y.length : Int) := by omega
                    have hk0 : (0 : Int) ≤ (j : Int) := by omega
                    obtain ⟨iy, hiy⟩ : ∃ q, decide ((E.entF f h y l).hour ≤ 9999) = q := ⟨_, rfl⟩
                    obtain ⟨gy, hgy⟩ : ∃ q, decide ((E.entF f h y l).kind = 2) = q := ⟨_, rfl⟩
                    obtain ⟨ry, hry⟩ : ∃ q, (E.entF f h y l).rank = q := ⟨_, rfl⟩
                    have HIy := hide hiy
                    have HGy := hide hgy
                    have HKy := hide hry
                    clear hiy hgy hry
                    go_upto_region 37 with fail
                    obtain ⟨V, hV⟩ : ∃ V, (wr).drew = V := ⟨_, rfl⟩
                    have HW4 := hide (show Below w6.heap.size w6 V by rw [← hV]; exact zbD HR8.out)
                    have HV4 := hide (HB56.out.trans (HW4.out.mono HB56.out.size))
                    have HVF := hide ((HV4.out.block _ (blk_lt HF5.out)).trans HF5.out)
                    have v30 : V.cell? ⟨w.heap.size, 0, none⟩ = some (.int .i64 f.places) := (blk_cell HVF.out 0).trans rfl
                    have v31 : V.cell? ⟨w.heap.size, 1, none⟩ = some (.int .i64 f.wilds) := (blk_cell HVF.out 1).trans rfl
                    have v32 : V.cell? ⟨w.heap.size, 2, none⟩ = some (.int .i64 f.guards) := (blk_cell HVF.out 2).trans rfl
                    have v33 : V.cell? ⟨w.heap.size, 3, none⟩ = some (.int .i64 f.close) := (blk_cell HVF.out 3).trans rfl
                    have v34 : V.cell? ⟨w.heap.size, 4, none⟩ = some (.int .i64 f.freeze) := (blk_cell HVF.out 4).trans rfl
                    have lv3 := blk_lt HVF.out
                    obtain ⟨bm', om', hAm, _, vy⟩ := (RY.out.below HW4.out) j y HYK.out
                    injection hAm with hAm
                    injection hAm with hAm1 hAm2
                    subst hAm1 hAm2
                    refine wp_region_seg 7 (by kernel_rfl) (by kernel_rfl) ?_
                    simp only [List.take_succ_cons, List.take_zero]
                    rw [hV]
                    clear hV
                    with_reducible refine stTake (v := ?_) (by kernel_rfl) ?_ ?_; rotate_left
                    · (go_simp; (try with_reducible rfl))
                    (try simp only [Act.put, zl, List.set_cons_zero, List.set_cons_succ])
                    with_reducible refine stTake (v := ?_) (by kernel_rfl) ?_ ?_; rotate_left
                    · (go_simp; (try with_reducible rfl))
                    (try simp only [Act.put, zl, List.set_cons_zero, List.set_cons_succ])
                    with_reducible refine stTake (v := ?_) (by kernel_rfl) ?_ ?_; rotate_left
                    · (go_simp; (try with_reducible rfl))
                    (try simp only [Act.put, zl, List.set_cons_zero, List.set_cons_succ])
                    with_reducible refine stTake (v := ?_) (by kernel_rfl) ?_ ?_; rotate_left
                    · (go_simp; (try with_reducible rfl))
                    (try simp only [Act.put, zl, List.set_cons_zero, List.set_cons_succ])
                    with_reducible refine stTake (v := ?_) (by kernel_rfl) ?_ ?_; rotate_left
                    · (go_simp; (try with_reducible rfl))
                    (try simp only [Act.put, zl, List.set_cons_zero, List.set_cons_succ])
                    with_reducible refine stTake (v := ?_) (by kernel_rfl) ?_ ?_; rotate_left
                    · (go_simp; (try with_reducible rfl))
                    (try simp only [Act.put, zl, List.set_cons_zero, List.set_cons_succ])
                    with_reducible refine stTake (v := ?_) (by kernel_rfl) ?_ ?_; rotate_left
                    · (go_simp; (try with_reducible rfl))
                    (try simp only [Act.put, zl, List.set_cons_zero, List.set_cons_succ])
                    refine wpStill_nil ?_
                    refine opEnter (some 219) (f := 22) (args := #[.agg #[.int .i64 f.places, .int .i64 f.wilds, .int .i64 f.guards, .int .i64 f.close, .int .i64 f.freeze], .slice A n c, .int .i64 h, .int .i64 y]) rfl (by kernel_rfl) (by kernel_rfl) (by go_simp) ?_
                    refine (entered_any f A n c l h y V HN.out ((RL.out.below HV4.out).mono HV4.out.size) HM.out).mono ?_
                    rintro e w8 ⟨rfl, hb5⟩
                    rw [HIy.out, HGy.out, HKy.out]
                    have HW8 := hide (zbT HW4.out hb5 HW4.out.size)
                    clear hb5
                    refine ⟨_, rfl, ?_⟩
                    (try dsimp only [Act.put])
                    (try simp only [Act.put, zl, List.set_cons_zero, List.set_cons_succ])
                    refine wpAny_end (k := 8) (Nat.le_of_ble_eq_true (by kernel_rfl)) (by kernel_rfl) ?_
                    simp only [List.drop_succ_cons, List.drop_zero]
                    with_reducible refine stTake (v := ?_) (by kernel_rfl) ?_ ?_; rotate_left
                    · (go_simp; (try with_reducible rfl))
                    (try simp only [Act.put, zl, List.set_cons_zero, List.set_cons_succ])
                    with_reducible refine stTake (v := ?_) (by kernel_rfl) ?_ ?_; rotate_left
                    · (go_simp; (try with_reducible rfl))
                    (try simp only [Act.put, zl, List.set_cons_zero, List.set_cons_succ])
                    with_reducible refine stTake (v := ?_) (by kernel_rfl) ?_ ?_; rotate_left
                    · (go_simp; (try with_reducible rfl))
                    (try simp only [Act.put, zl, List.set_cons_zero, List.set_cons_succ])
                    with_reducible refine stTake (v := ?_) (by kernel_rfl) ?_ ?_; rotate_left
                    · (go_simp; (try with_reducible rfl))
                    (try simp only [Act.put, zl, List.set_cons_zero, List.set_cons_succ])
                    with_reducible refine stTake (v := ?_) (by kernel_rfl) ?_ ?_; rotate_left
                    · (go_simp; (try with_reducible rfl))
                    (try simp only [Act.put, zl, List.set_cons_zero, List.set_cons_succ])
                    with_reducible refine stTake (v := ?_) (by kernel_rfl) ?_ ?_; rotate_left
                    · (go_simp; (try with_reducible rfl))
                    (try simp only [Act.put, zl, List.set_cons_zero, List.set_cons_succ])
                    with_reducible refine stTake (v := ?_) (by kernel_rfl) ?_ ?_; rotate_left
                    · (go_simp; (try with_reducible rfl))
                    (try simp only [Act.put, zl, List.set_cons_zero, List.set_cons_succ])
                    refine wpStill_nil ?_
                    (try dsimp only [Exit.then])
                    clear v30 v31 v32 v33 v34 lv3 vy
                    clear HV4 HVF HW4
                    have hgb0 := HGB.out.1
                    have hgb1 := HGB.out.2
                    have hny := HNY.out
                    by_cases h1 : j < M.length
                    · have HT1 := hide (E.cnt_take f h l (show M[j]? = some y by have := HYK.out; rw [HYE.out, List.append_assoc, List.getElem?_append_left h1] at this; exact this))
                      have e1 : s1 = 1 := by have := HS1.out; unfold E.plc1 at this; rw [if_pos h1] at this; exact this.symm
                      have e2 : iy = true := by have := HONE.out.ent (by rw [e1]; decide); rw [← HIy.out]; exact decide_eq_true this
                      subst e2
                      have p1 : (s1 != 2) = true := by rw [e1]; rfl
                      have p2 : (s1 == 1) = true := by rw [e1]; rfl
                      clear e1
                      cases gy
                      · as_aux_lemma =>
                          go_wp2_with fail
                          go_roundw
                          case rel => exact ⟨j + 1, gq, by omega, rfl, by go_num, hide (by rw [HT1.out, HGy.out, ← HGQ.out]; exact (Int.add_zero _).symm), HW8⟩
                          case measure => simp [intOf]; omega
                      · as_aux_lemma =>
                          go_wp2_with fail
                          go_roundw
                          case rel => exact ⟨j + 1, gq + 1, by omega, by go_num, by go_num, hide (by rw [HT1.out, HGy.out, ← HGQ.out]; rfl), HW8⟩
                          case measure => simp [intOf]; omega
                    · have HT1 := hide (E.cnt_past f h l (show M.length ≤ j by omega))
                      by_cases h2 : j < M.length + C.length
                      · have e1 : s1 = 2 := by have := HS1.out; unfold E.plc1 at this; rw [if_neg h1, if_pos h2] at this; exact this.symm
                        have p1 : (s1 != 2) = false := by rw [e1]; rfl
                        have p2 : (s1 == 1) = false := by rw [e1]; rfl
                        clear e1
                        as_aux_lemma =>
                          go_wp2_with fail
                          go_roundw
                          case rel => exact ⟨j + 1, gq, by omega, rfl, by go_num, hide (by rw [HT1.out, ← HGQ.out]), HW8⟩
                          case measure => simp [intOf]; omega
                      · have e1 : s1 = 3 := by have := HS1.out; unfold E.plc1 at this; rw [if_neg h1, if_neg h2] at this; exact this.symm
                        have e2 : iy = true := by have := HONE.out.ent (by rw [e1]; decide); rw [← HIy.out]; exact decide_eq_true this
                        subst e2
                        have p1 : (s1 != 2) = true := by rw [e1]; rfl
                        have p2 : (s1 == 1) = false := by rw [e1]; rfl
                        clear e1
                        as_aux_lemma =>
                          go_wp2_with fail
                          go_roundw
                          case rel => exact ⟨j + 1, gq, by omega, rfl, by go_num, hide (by rw [HT1.out, ← HGQ.out]), HW8⟩
                          case measure => simp [intOf]; omega
      · have hkn : k = Y.length := by omega
        subst hkn
        clear hk hlt
        have HBR := hide (zbT HB5.out (HB56.out.trans (HR6.out.mono HB56.out.size)) HB5.out.size)
        have HGM := hide (show gq ≤ f.guards by have h1 := HPA.out.guards; have h2 := HGQ.out; rw [List.take_of_length_le (by rw [HYE.out, List.length_append, List.length_append]; omega)] at h2; rw [h2]; exact h1)
        have hgm := HGM.out
        have hgb0 := HGB.out.1
        have hgb1 := HGB.out.2
        have hbb := HBB.out
        have hvf := HVF0.out
        have HX1 := hide ((HB56.out.trans (HR6.out.mono HB56.out.size)))
        have HE6 := hide ((HX1.out.block _ (blk_lt HE7.out)).trans HE7.out)
        have HF6 := hide ((HX1.out.block _ (blk_lt HF5.out)).trans HF5.out)
        have y70 : wr.cell? ⟨g7, 0, none⟩ = some (.slice A1 M.length c1) := (blk_cell HE6.out 0).trans rfl
        have y73 : wr.cell? ⟨g7, 3, none⟩ = some (.int .i64 P) := (blk_cell HE6.out 3).trans rfl
        have ly7 := blk_lt HE6.out
        have x60 : wr.cell? ⟨w.heap.size, 0, none⟩ = some (.int .i64 f.places) := (blk_cell HF6.out 0).trans rfl
        have x62 : wr.cell? ⟨w.heap.size, 2, none⟩ = some (.int .i64 f.guards) := (blk_cell HF6.out 2).trans rfl
        have l60 := blk_lt HF6.out
        have hm92 := HN1.out
        have hP0 := HPA.out.open_
        have hsum := HSUM.out
        have hPb : P ≤ 1000 := by omega
        have hw1 : IntKind.i64.wrap ((M.length : Int) + P) = (M.length : Int) + P := IntWalk.i64_in _ (by omega)
        have hw2 : IntKind.i64.wrap (f.places + bk) = f.places + bk := IntWalk.i64_in _ (by omega)
        have heq : ((M.length : Int) + P == f.places + bk) = true := beq_iff_eq.2 hsum
        clear hsum
        go_wp2_with (go_at_call 11; refine (works_any _).mono ?_; rintro e w9 ⟨rfl, hb9⟩; have HB9 := hide (zbT HBR.out hb9 HBR.out.size); clear hb9)
        go_ret
        exact ⟨rfl, HB0.out.trans (HB9.out.mono HB0.out.size)⟩
set_option maxHeartbeats 6400000 in
set_option maxRecDepth 100000 in
theorem placesLaw_any (f : E.Fd) (A : Option Addr) (n c : Nat) (l : List E.Nt) (h : Int) (w : World) (hn : l.length = n) (hr : RdN w w.heap.size A l) (hid : ∀ x ∈ l, (Lit.int .i64 x.id).wf = true) (hm : n ≤ 1000000) :
    Calls Try.prog 5 #[.agg #[.int .i64 f.places, .int .i64 f.wilds, .int .i64 f.guards, .int .i64 f.close, .int .i64 f.freeze], .slice A n c, .int .i64 h] w fun e w' => e = .returned (.bool true) ∧ Below w.heap.size w w' := by
  cases hrd : E.readyB f l n
  · exact placesLaw_no1 f A n c l h w hn hr hid hm hrd
  · cases hi1 : E.within h 0 9999
    · exact placesLaw_no2 f A n c l h w hn hr hid hm hrd hi1
    · exact placesLaw_main f A n c l h w hn hr hid hm hrd hi1
end Go.Proofs.Ytklomhmdiflfaaa

namespace Go.Proofs.Ytklomhmdiflfaaa
open Go.ChangeShapes Go.WideShapes Go.ChangeAt Go.RowKit Go.Deep Go.Joins
attribute [local go_sem ↓] Go.wp_at_zero Go.wp_at_succ

set_option maxHeartbeats 1600000 in
set_option maxRecDepth 100000 in
theorem placesLaw_long (f : E.Fd) (A : Option Addr) (n c : Nat) (h : Int) (w : World) (hn : 100 < n) :
    Calls Try.prog 5 #[.agg #[.int .i64 f.places, .int .i64 f.wilds, .int .i64 f.guards, .int .i64 f.close, .int .i64 f.freeze], .slice A n c, .int .i64 h] w fun e w' => e = .returned (.bool true) ∧ Below w.heap.size w w' := by
  have HR := fun W => hide (ready_long f A n c W hn)
  clear hn
  go_enter Try.func5, Try.ntmps5
  go_wp2_with (first | (go_at_call 19; refine (HR _).out.mono ?_; rintro e w1 ⟨rfl, hb1⟩; have HB1 := hide (zbT (show Below w.heap.size w _ by (repeat' first | exact zbR _ _ | assumption | refine zbD ?_ | refine zbA ?_ ?_ _ | refine zbS ?_ ?_ _ | refine zbT ?_ (by assumption) ?_ | (simp; done) | (simp; omega) | omega)) hb1 (by simp)); clear hb1) | (go_at_call 11; refine (works_any _).mono ?_; rintro e w9 ⟨rfl, hb9⟩; have HB9 := hide (zbT HB1.out hb9 HB1.out.size); clear hb9))
  go_ret
  exact ⟨rfl, HB9.out⟩
theorem placesLaw_all (f : E.Fd) (A : Option Addr) (n c : Nat) (l : List E.Nt) (h : Int) (w : World) (hn : l.length = n) (hr : RdN w w.heap.size A l) (hid : ∀ x ∈ l, (Lit.int .i64 x.id).wf = true) :
    Calls Try.prog 5 #[.agg #[.int .i64 f.places, .int .i64 f.wilds, .int .i64 f.guards, .int .i64 f.close, .int .i64 f.freeze], .slice A n c, .int .i64 h] w fun e w' => e = .returned (.bool true) ∧ Below w.heap.size w w' := by
  by_cases h1 : n ≤ 1000000
  · exact placesLaw_any f A n c l h w hn hr hid h1
  · exact placesLaw_long f A n c h w (by omega)

theorem Try.ownEntryPlaces : ownKnob Try.prog.godebug = none := by kernel_rfl

set_option maxRecDepth 100000 in
theorem entryPlaces_call (H : Type) (enc : TypeId × Value → H) (W : World) (base : Nat) (args : Array Value) (ds : List (DataW H)) (p : List MemPlace) (hval : ∀ (j : Nat) t v, Try.f5.params[j]? = some t → args[j]? = some v → Value.okWide Try.prog W .any base t v)
    (hA : DataW.TrodAll enc Try.prog W 0 (fun _ => true) true Try.f5.params.toList args.toList ds p) : Calls Try.prog 5 args W fun e W' => e = .returned (.bool true) ∧ Below W.heap.size W W' := by
  rw [Try.params5] at hA hval
  obtain ⟨v0, v1, v2, d0, d1, d2, p0, p1, p2, rfl, rfl, rfl, h0, h1, h2⟩ := trodAll_three hA
  obtain ⟨x0, rfl⟩ := open_field (hval 0 23 v0 rfl rfl) h0
  obtain ⟨A1, n1, c1, l1, rfl, hle1, hmx1, hn1, hr1, hno1, hwf1⟩ := open_notices h1 (okWide_slice Try.underlying24 (hval 1 24 v1 rfl rfl))
  obtain ⟨a2, rfl, _, _, _⟩ := Go.ChangeShapes.open_int Try.underlying3 (hval 2 3 v2 rfl rfl) h2
  exact placesLaw_all x0 A1 n1 c1 l1 a2 W hn1 hr1 hwf1

set_option maxRecDepth 100000 in
theorem EntryPlaces_holds : Rows.EntryPlacesSaid :=
  OpenClaim.holds_of_wide (p := Try.pinned) (s := Rows.entryPlacesSpec) (c := Rows.entryPlacesRow) 5 Try.f5 rfl rfl rfl rfl rfl rfl rfl ⟨rfl, rfl, rfl, rfl, rfl⟩ rfl rfl rfl rfl rfl (by kernel_rfl) Try.func5 (by kernel_rfl)
    (of_decide_eq_true (by kernel_rfl)) (by unfold Func.isWrapper; first | (rw [if_pos (by decide +kernel)]; kernel_rfl) | (rw [if_neg (by decide +kernel)]; exact ⟨rfl, rfl⟩))
    (fun os started H enc _ => law_lift (C := Try.checked) (F := 5) (fn := Try.f5) (s := Rows.entryPlacesSpec) (bt := 4) started Try.ownEntryPlaces (by kernel_rfl) Try.func5 (by kernel_rfl) Try.underlying4 rfl laidOut (of_decide_eq_true (by kernel_rfl))
      (fun ds hds => match ds, hds with | [_, _, _], _ => rfl)
      (ChangeSpec.witness6 (enc := enc) (C := Try.checked) false ⟨#[], #[.agg #[.int .i64 0, .int .i64 0, .int .i64 0, .int .i64 0, .int .i64 0], .slice none 0 0, .int .i64 0], []⟩ 8 (by kernel_rfl) (by kernel_rfl) (by kernel_rfl) (by kernel_rfl))
      (fun W base args ds p hval hA _ => entryPlaces_call H enc W base args ds p hval hA) _ _ _)

end Go.Proofs.Ytklomhmdiflfaaa
