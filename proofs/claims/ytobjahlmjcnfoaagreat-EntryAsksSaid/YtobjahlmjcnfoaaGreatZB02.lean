/-
  Part of a claim's texts: contracts of the program's functions and the plain functions that they compute, in build order.
-/
import Derived.StillTailTactics
import Derived.Test.YtobjahlmjcnfoaaGreatZB01
namespace Go.Proofs.YtobjahlmjcnfoaaGreat
open Go.RowKit Go.Sort

section
variable {w w2 : World} {base L B n n' : Nat} {s : E.St} {mv cv : Value}
theorem LAt.put (h : LAt w base L B n s mv cv) {k : Int} {p : E.Pl} (hM : MapK elP w2 B (fun j => if j = k then p else s.pl j) (fun j => if j = k then true else decide (j ∈ s.known)) n') (hg : w.grownBy w2 (some B)) : LAt w2 base L B n' (s.put k p) mv cv := by
  refine ⟨h.lowL, h.lowB, (hg.block L h.lt (fun e => h.notMap (Option.some.inj e))).trans h.blk, ?_, h.main.kept hg (.inr (fun e => row_ne_map h.main h.map e.symm)), h.cards.kept hg (.inr (fun e => row_ne_map h.cards h.map e.symm)), h.apart⟩
  have e : (fun j => if j = k then true else decide (j ∈ s.known)) = fun j => decide (j ∈ (s.put k p).known) := by
    funext j
    unfold E.St.put
    by_cases hk : k ∈ s.known
    · simp only [if_pos hk]
      split
      · rename_i e; subst e; simp [hk]
      · rfl
    · simp only [if_neg hk, List.mem_append, List.mem_singleton]
      split
      · rename_i e; subst e; simp
      · rename_i e; simp [e]
  rw [← e]
  exact hM
theorem LAt.setTurns (h : LAt w base L B n s mv cv) (t : Int) : LAt (w.setCell ⟨L, 6, none⟩ (.int .i64 t)) base L B n { s with turns := t } mv cv :=
  ⟨h.lowL, h.lowB, by rw [blk_set h.blk 6]; rfl, h.map.kept (gr_set _ _ _ _) (fun e => h.notMap (Option.some.inj e).symm), h.main.kept (gr_set _ _ _ _) (.inr h.mainL), h.cards.kept (gr_set _ _ _ _) (.inr h.cardsL), h.apart⟩
theorem LAt.setPlaces (h : LAt w base L B n s mv cv) (t : Int) : LAt (w.setCell ⟨L, 0, none⟩ (.int .i64 t)) base L B n { s with f := { s.f with places := t } } mv cv :=
  ⟨h.lowL, h.lowB, by rw [blk_set h.blk 0]; rfl, h.map.kept (gr_set _ _ _ _) (fun e => h.notMap (Option.some.inj e).symm), h.main.kept (gr_set _ _ _ _) (.inr h.mainL), h.cards.kept (gr_set _ _ _ _) (.inr h.cardsL), h.apart⟩
theorem LAt.grown (h : LAt w base L B n s mv cv) {g : Nat} (hg : w.grownBy w2 (some g)) (h1 : g ≠ L) (h2 : g ≠ B) (h3 : mv.ownBlock ≠ some g) (h4 : cv.ownBlock ≠ some g) : LAt w2 base L B n s mv cv :=
  ⟨h.lowL, h.lowB, (hg.block L h.lt (fun e => h1 (Option.some.inj e).symm)).trans h.blk, h.map.kept hg (fun e => h2 (Option.some.inj e).symm), h.main.kept hg (.inr h3), h.cards.kept hg (.inr h4), h.apart⟩
end

namespace E
theorem put_ok {s : St} (h : StOk s) {k : Int} (hk : 0 ≤ k ∧ k ≤ 999) (p : Pl) (ht : p.ent = true → 0 ≤ p.turn ∧ p.turn < s.turns) (ha : p.ent = true → ∀ j ∈ s.known, j ≠ k → (s.pl j).ent = true → (s.pl j).turn ≠ p.turn) : StOk (s.put k p) := by
  have hkn : ∀ j, j ∈ (s.put k p).known ↔ j ∈ s.known ∨ j = k := by
    intro j
    unfold St.put
    by_cases e : k ∈ s.known
    · simp only [if_pos e]
      constructor
      · exact .inl
      · rintro (h | rfl)
        · exact h
        · exact e
    · simp [if_neg e]
  have hpl : ∀ j, (s.put k p).pl j = if j = k then p else s.pl j := fun j => rfl
  refine ⟨?_, ?_, ?_, ?_, ?_, ?_, ?_⟩
  · unfold St.put
    by_cases e : k ∈ s.known
    · simp only [if_pos e]; exact h.known
    · simp only [if_neg e]
      rw [List.nodup_append]
      exact ⟨h.known, by simp, fun a ha' b hb => by simp at hb; subst hb; exact fun e1 => e (e1 ▸ ha')⟩
  · intro j hj
    rcases (hkn j).1 hj with h1 | rfl
    · exact h.range j h1
    · exact hk
  · intro j hj
    have h1 : j ∉ s.known := fun e => hj ((hkn j).2 (.inl e))
    have h2 : j ≠ k := fun e => hj ((hkn j).2 (.inr e))
    rw [hpl, if_neg h2]
    exact h.zero j h1
  · intro j hj he
    rw [hpl] at he ⊢
    by_cases e : j = k
    · rw [if_pos e] at he ⊢; exact ht he
    · rw [if_neg e] at he ⊢
      rcases (hkn j).1 hj with h1 | h1
      · exact h.turn j h1 he
      · exact absurd h1 e
  · intro i hi j hj h1 h2 h3
    rw [hpl] at h1 h3
    rw [hpl] at h2 h3
    by_cases e1 : i = k <;> by_cases e2 : j = k
    · rw [e1, e2]
    · rw [if_pos e1] at h1 h3
      rw [if_neg e2] at h2 h3
      rcases (hkn j).1 hj with h4 | h4
      · exact absurd h3.symm (ha h1 j h4 e2 h2)
      · exact absurd h4 e2
    · rw [if_neg e1] at h1 h3
      rw [if_pos e2] at h2 h3
      rcases (hkn i).1 hi with h4 | h4
      · exact absurd h3 (ha h2 i h4 e1 h1)
      · exact absurd h4 e1
    · rw [if_neg e1] at h1 h3
      rw [if_neg e2] at h2 h3
      rcases (hkn i).1 hi with h4 | h4
      · rcases (hkn j).1 hj with h5 | h5
        · exact h.apart i h4 j h5 h1 h2 h3
        · exact absurd h5 e2
      · exact absurd h4 e1
  · intro j hj
    exact (hkn j).2 (.inl (h.main j hj))
  · intro j hj
    exact (hkn j).2 (.inl (h.cards j hj))

theorem said_ok {s : St} (h : StOk s) (x : Nt) (h0 : 0 ≤ x.player ∧ x.player ≤ 999) (hT : 0 ≤ s.turns) : StOk (s.said x) ∧ 0 ≤ (s.said x).turns := by
  have hz : x.player ∉ s.known → (s.pl x.player).ent = false := fun e => by rw [h.zero _ e]; rfl
  have keep : ∀ (t : Int) (f : Fd) (cs : List Int), s.turns ≤ t → (∀ k ∈ cs, k ∈ s.known) → ∀ p : Pl, p.ent = (s.pl x.player).ent → p.turn = (s.pl x.player).turn → StOk (St.put { s with f := f, turns := t, cards := cs } x.player p) := by
    intro t f cs ht hcs p he hp
    refine put_ok (s := { s with f := f, turns := t, cards := cs }) ⟨h.known, h.range, h.zero, fun k hk e => ⟨(h.turn k hk e).1, Int.lt_of_lt_of_le (h.turn k hk e).2 ht⟩, h.apart, h.main, hcs⟩ h0 p ?_ ?_
    · intro e
      rw [he] at e
      by_cases hk : x.player ∈ s.known
      · have := h.turn _ hk e
        rw [hp]
        exact ⟨this.1, Int.lt_of_lt_of_le this.2 ht⟩
      · rw [hz hk] at e; cases e
    · intro e j hj hne hje e2
      rw [he] at e
      by_cases hk : x.player ∈ s.known
      · exact hne (h.apart j hj _ hk hje e (by rw [← hp]; exact e2))
      · rw [hz hk] at e; cases e
  have keep' := keep s.turns s.f s.cards (Int.le_refl _) h.cards
  unfold St.said
  dsimp only
  split
  · split
    · rename_i hc
      refine ⟨put_ok (s := { s with turns := s.turns + 1 }) ⟨h.known, h.range, h.zero, fun k hk e => ⟨(h.turn k hk e).1, Int.lt_trans (h.turn k hk e).2 (by show s.turns < s.turns + 1; omega)⟩, h.apart, h.main, h.cards⟩ h0 _ (fun _ => ⟨hT, by show s.turns < s.turns + 1; omega⟩) (fun _ j hj _ hje e2 => ?_), ?_⟩
      · have h1 := (h.turn j hj hje).2
        have h2 : (s.pl j).turn = s.turns := e2
        omega
      · show 0 ≤ s.turns + 1
        omega
    · exact ⟨keep' _ rfl rfl, hT⟩
  · split
    · split
      · -- the cards may hold a player who is not known yet: the player is known behind it
        refine ⟨?_, hT⟩
        have h1 := keep' { s.pl x.player with card := true } rfl rfl
        refine ⟨h1.known, h1.range, h1.zero, h1.turn, h1.apart, h1.main, ?_⟩
        intro k hk
        rcases List.mem_append.1 hk with h2 | h2
        · exact h1.cards k h2
        · simp only [List.mem_singleton] at h2
          subst h2
          show x.player ∈ (if x.player ∈ s.known then s.known else s.known ++ [x.player])
          split
          · assumption
          · simp
      · exact ⟨keep' _ rfl rfl, hT⟩
    · split
      · exact ⟨keep s.turns _ _ (Int.le_refl _) (fun k hk => h.cards k (List.mem_filter.1 hk).1) _ rfl rfl, hT⟩
      · split
        · exact ⟨keep' _ rfl rfl, hT⟩
        · exact ⟨keep' _ rfl rfl, hT⟩

theorem fill_known {s : St} (lt : Bool) (K : Int → Prop) : ∀ (l m : List Int) (g : Int), (∀ k ∈ l, K k) → (∀ k ∈ m, K k) → ∀ k ∈ s.fill lt l m g, K k
  | [], m, _, _, hm => hm
  | a :: r, m, g, hl, hm => by
    unfold St.fill
    split
    · refine fill_known lt K r (m ++ [a]) _ (fun k hk => hl k (List.mem_cons_of_mem _ hk)) (fun k hk => ?_)
      rcases List.mem_append.1 hk with h | h
      · exact hm k h
      · simp at h; subst h; exact hl _ (List.mem_cons_self ..)
    · exact fill_known lt K r m g (fun k hk => hl k (List.mem_cons_of_mem _ hk)) hm
theorem settle_ok {s : St} (h : StOk s) (lt : Bool) : StOk (s.settle lt) := by
  refine ⟨h.known, h.range, h.zero, h.turn, h.apart, ?_, h.cards⟩
  refine fill_known lt (fun k => k ∈ s.known) _ _ _ (fun k hk => ?_) (fun k hk => h.main k (List.mem_filter.1 hk).1)
  have := (List.mem_filter.1 hk).1
  exact (order_mem.1 this).1
theorem take_ok {s : St} (h : StOk s) (x : Nt) (h0 : 0 ≤ x.player ∧ x.player ≤ 999) (hT : 0 ≤ s.turns) : StOk (s.take x) ∧ 0 ≤ (s.take x).turns :=
  ⟨settle_ok (said_ok h x h0 hT).1 _, (said_ok h x h0 hT).2⟩

structure Bd (k : Nat) (s : St) : Prop where
  places : s.f.places ≤ 32 + (k : Int)
  main : s.main.length ≤ 32 + k
  cards : s.cards.length ≤ k
  turns : s.turns ≤ (k : Int)
  places0 : 0 ≤ s.f.places
  turns0 : 0 ≤ s.turns
theorem fill_len {s : St} (lt : Bool) (N : Nat) (hp : s.f.places ≤ (N : Int)) : ∀ (l m : List Int) (g : Int), m.length ≤ N → (s.fill lt l m g).length ≤ N
  | [], m, _, hm => hm
  | a :: r, m, g, hm => by
    unfold St.fill
    split
    · rename_i hc
      refine fill_len lt N hp r (m ++ [a]) _ ?_
      rw [List.length_append]
      simp only [List.length_singleton]
      omega
    · exact fill_len lt N hp r m g hm
theorem said_bd {s : St} {k : Nat} (h : Bd k s) (x : Nt) : Bd (k + 1) (s.said x) := by
  have h1 := h.places
  have h2 := h.main
  have h3 := h.cards
  have h4 := h.turns
  have h5 := h.places0
  have h6 := h.turns0
  have base : ∀ p, Bd (k + 1) (s.put x.player p) := fun p => ⟨by show s.f.places ≤ _; omega, by show s.main.length ≤ _; omega, by show s.cards.length ≤ _; omega, by show s.turns ≤ _; omega, h5, h6⟩
  unfold St.said
  dsimp only
  split
  · split
    · exact ⟨by show s.f.places ≤ _; omega, by show s.main.length ≤ _; omega, by show s.cards.length ≤ _; omega, by show s.turns + 1 ≤ _; omega, h5, by show 0 ≤ s.turns + 1; omega⟩
    · exact base _
  · split
    · split
      · exact ⟨by show s.f.places ≤ _; omega, by show s.main.length ≤ _; omega, by show (s.cards ++ [x.player]).length ≤ _; rw [List.length_append]; simp; omega, by show s.turns ≤ _; omega, h5, h6⟩
      · exact base _
    · split
      · have hp : ∀ c : Prop, [Decidable c] → (if c then { s.f with places := s.f.places + 1 } else s.f).places ≤ 32 + ((k + 1 : Nat) : Int) ∧ 0 ≤ (if c then { s.f with places := s.f.places + 1 } else s.f).places := by
          intro c _
          split
          · show s.f.places + 1 ≤ _ ∧ 0 ≤ s.f.places + 1; omega
          · omega
        refine ⟨(hp _).1, by show s.main.length ≤ _; omega, ?_, by show s.turns ≤ _; omega, (hp _).2, h6⟩
        show (s.cards.filter _).length ≤ _
        exact Nat.le_trans (List.length_filter_le _ _) (by omega)
      · split
        · exact base _
        · exact base _
theorem take_bd {s : St} {k : Nat} (h : Bd k s) (x : Nt) : Bd (k + 1) (s.take x) := by
  have h1 := said_bd h x
  refine ⟨h1.places, ?_, h1.cards, h1.turns, h1.places0, h1.turns0⟩
  refine fill_len _ (32 + (k + 1)) ?_ _ _ _ ?_
  · have := h1.places; show (s.said x).f.places ≤ _; push_cast; omega
  · exact Nat.le_trans (List.length_filter_le _ _) h1.main
theorem said_freeze (s : St) (x : Nt) : (s.said x).f.freeze = s.f.freeze := by
  unfold St.said
  dsimp only
  repeat' split
  all_goals (first | rfl | (simp only [St.put]; split <;> rfl))
theorem said_late (s : St) (x : Nt) (h : Int) : late (s.said x).f h = late s.f h := by
  unfold late
  rw [said_freeze]
end E
end Go.Proofs.YtobjahlmjcnfoaaGreat

namespace Go.Proofs.YtobjahlmjcnfoaaGreat
open Go

section
variable {P : Program} {ops : Array Oper} {Q : Exit → Act → World → Prop} {md : Region.Mode} {S : World → Prop} {T : Nat}

def wpAnyT (P : Program) (md : Region.Mode) (ops : Array Oper) (Q : Exit → Act → World → Prop) (S : World → Prop) (T : Nat) : Nat → Array Bool → Act → World → Prop
  | 0, listed, a, w => Region.ready md ops listed = [] ∧ Q .normal a w
  | fuel + 1, listed, a, w =>
    (Region.ready md ops listed = [] → Q .normal a w) ∧
    ∀ i ∈ Region.ready md ops listed, wpOp P ops Q i (fun a' w' => (i ≠ T → S w') ∧ wpAnyT P md ops Q S T fuel (listed.setIfInBounds i true) a' w') a w

theorem wpAny_of_T : ∀ (fuel : Nat) (listed : Array Bool) (a : Act) (w : World), wpAnyT P md ops Q S T fuel listed a w → wpAny P md ops Q fuel listed a w
  | 0, _, _, _, h => h
  | fuel + 1, _, _, _, h => ⟨h.1, fun i hi => wpOp_mono (fun a' w' h' => wpAny_of_T fuel _ a' w' h'.2) (h.2 i hi)⟩

def waits (md : Region.Mode) (ops : Array Oper) (T i : Nat) : Bool :=
  match ops[T]? with
  | some o => o.after.any fun e => Region.binds md e && e.on == i
  | none => true

theorem wpAnyT_first {i : Nat} {oi : Oper} {v : Value} (hi : ops[i]? = some oi) (hsel : ∀ (j : Nat) (o : Oper) cs b, ops[j]? = some o → o.op ≠ .select cs b) (hW : waits md ops T i = true)
    (hQ : ∀ c a w, Q (.panic c) (a.put oi.dst v) w → Q (.panic c) a w) :
    ∀ (fuel : Nat) (listed : Array Bool) (a : Act) (w : World),
      (∀ j oj, ops[j]? = some oj → j ≠ i → listed.getD j true = false → (∀ e ∈ oj.after, Region.binds md e = true → e.on ≠ i) → oi.apart ops oj = true) →
      i ∈ Region.ready md ops listed → YieldsIf P ops S oi v a → S w →
      wpAnyT P md ops Q S T fuel (listed.setIfInBounds i true) (a.put oi.dst v) w → wpAnyT P md ops Q S T (fuel + 1) listed a w := by
  intro fuel
  induction fuel with
  | zero =>
    intro listed a w _ hr hy hS H
    refine ⟨fun h => (by rw [h] at hr; cases hr), fun j hj => ?_⟩
    by_cases hji : j = i
    · subst hji; exact hy.wpOp hi hS ⟨fun _ => hS, H⟩
    · have := ready_mono hj hji
      rw [H.1] at this
      cases this
  | succ fuel ih =>
    intro listed a w hfree hr hy hS H
    refine ⟨fun h => (by rw [h] at hr; cases hr), fun j hj => ?_⟩
    by_cases hji : j = i
    · subst hji; exact hy.wpOp hi hS ⟨fun _ => hS, H⟩
    · have h1 := H.2 j (ready_mono hj hji)
      obtain ⟨hjun, oj, hoj, hall⟩ := mem_ready.1 hj
      have hnot : ∀ e ∈ oj.after, Region.binds md e = true → e.on ≠ i := fun e he hb heq => by
        have h1 := hall e he hb
        have h0 := (mem_ready.1 hr).1
        rw [heq] at h1
        rcases Nat.lt_or_ge i listed.size with h' | h'
        · simp [h'] at h0 h1; rw [h0] at h1; cases h1
        · simp [Array.getElem?_eq_none h'] at h1
      have hjT : j ≠ T := fun hjt => by
        subst hjt
        unfold waits at hW
        rw [hoj] at hW
        simp only [Array.any_eq_true'] at hW
        obtain ⟨e, he, hb⟩ := hW
        simp only [Bool.and_eq_true, beq_iff_eq] at hb
        exact hnot e he hb.1 hb.2
      have h2 := wpOp_putIf hoj (hfree j oj hoj hji hjun hnot) (fun cs b => hsel i oi cs b hi) (fun cs b => hsel j oj cs b hoj) hQ hy h1
      have hfree' : ∀ k ok, ops[k]? = some ok → k ≠ i → (listed.setIfInBounds j true).getD k true = false →
          (∀ e ∈ ok.after, Region.binds md e = true → e.on ≠ i) → oi.apart ops ok = true := fun k ok hk hki hun hno => by
        refine hfree k ok hk hki ?_ hno
        by_cases hjk : j = k
        · subst hjk; exact hjun
        · rw [getD_set_ne true hjk] at hun; exact hun
      refine wpOp_mono (fun a' w' h3 => ⟨h3.2.1, ih (listed.setIfInBounds j true) a' w' hfree' (ready_mono hr (Ne.symm hji)) h3.1 (h3.2.1 hjT) ?_⟩) h2
      rw [Array.setIfInBounds_comm _ _ hji]
      exact h3.2.2

def AllReadyT (P : Program) (md : Region.Mode) (ops : Array Oper) (Q : Exit → Act → World → Prop) (S : World → Prop) (T : Nat) (fuel : Nat) (listed : Array Bool) (a : Act) (w : World) (rs : List Nat) : Prop :=
  ∀ i ∈ rs, wpOp P ops Q i (fun a' w' => (i ≠ T → S w') ∧ wpAnyT P md ops Q S T fuel (listed.setIfInBounds i true) a' w') a w
theorem AllReadyT.nil {fuel : Nat} {listed : Array Bool} {a : Act} {w : World} : AllReadyT P md ops Q S T fuel listed a w [] := fun _ h => by cases h
theorem wpAnyT_ready {rs : List Nat} {fuel : Nat} {listed : Array Bool} {a : Act} {w : World} (hr : Region.ready md ops listed = rs) (hne : rs ≠ [])
    (h : AllReadyT P md ops Q S T fuel listed a w rs) : wpAnyT P md ops Q S T (fuel + 1) listed a w :=
  ⟨fun h0 => absurd (hr ▸ h0) hne, hr ▸ h⟩
theorem wpAnyT_done {listed : Array Bool} {a : Act} {w : World} (hr : Region.ready md ops listed = []) (h : Q .normal a w) :
    ∀ fuel, wpAnyT P md ops Q S T fuel listed a w
  | 0 => ⟨hr, h⟩
  | _ + 1 => ⟨fun _ => h, by rw [hr]; simp⟩
theorem wp_region_T_drew {id : Nat} {a : Act} {w : World} (T : Nat) (hm : P.follows .mixedOrders = true) (hS : S w.drew)
    (h : S w.drew → wpAnyT P .any ops Q S T ops.size (Array.replicate ops.size false) a w.drew) : (Code.region id ops true).wp P Q a w :=
  wp_region_any hm (wpAny_of_T _ _ _ _ (h hS))
end

theorem takeT {P : Program} {md : Region.Mode} {l rest : List Oper} {Q : Exit → Act → World → Prop} {S : World → Prop} {T : Nat} {oi : Oper} {v : Value} {fuel : Nat} {listed : Array Bool} {a : Act} {w : World} (i : Nat) (hi : l.drop i = oi :: rest)
    (hW : waits md l.toArray T i = true) (hs : Region.noSelect l.toArray = true) (hf : Region.free md l.toArray listed i = true) (hr : (Region.ready md l.toArray listed).contains i = true)
    (hQ : ∀ c a w, Q (.panic c) (a.put oi.dst v) w → Q (.panic c) a w) (hy : YieldsIf P l.toArray S oi v a) (hS : S w)
    (h : wpAnyT P md l.toArray Q S T fuel (listed.setIfInBounds i true) (a.put oi.dst v) w) : wpAnyT P md l.toArray Q S T (fuel + 1) listed a w :=
  wpAnyT_first (drop_get hi) (Region.noSelect_spec hs) hW hQ fuel listed a w (Region.free_spec (drop_get hi) hf) (by simpa using hr) hy hS h

theorem consT {P : Program} {md : Region.Mode} {l rest : List Oper} {Q : Exit → Act → World → Prop} {S : World → Prop} {T : Nat} {fuel : Nat} {listed : Array Bool} {a : Act} {w : World} {o : Oper} {rs : List Nat} (i : Nat) (ho : l.drop i = o :: rest)
    (h : ∀ K' : Act → World → Prop, Shut (∀ a w, S w → (S w → wpAnyT P md l.toArray Q S T fuel (listed.setIfInBounds i true) a w) → K' a w) → if Region.wanted o (yielded l.toArray a.tmps) = true then Oper.wp P o a w K' Q else K' (a.put o.dst undef) w)
    (hs : AllReadyT P md l.toArray Q S T fuel listed a w rs) : AllReadyT P md l.toArray Q S T fuel listed a w (i :: rs) := fun j hj => by
  rcases List.mem_cons.1 hj with rfl | hj
  · exact wpOp_step (drop_get ho) (fun K' hK => h K' (fun a w hS hW => hK a w ⟨fun _ => hS, hW hS⟩))
  · exact hs j hj

theorem lastT {P : Program} {md : Region.Mode} {l rest : List Oper} {Q : Exit → Act → World → Prop} {S : World → Prop} {T : Nat} {fuel : Nat} {listed : Array Bool} {a : Act} {w : World} {o : Oper} (ho : l.drop T = o :: rest)
    (h : ∀ K' : Act → World → Prop, Shut (∀ a w, wpAnyT P md l.toArray Q S T fuel (listed.setIfInBounds T true) a w → K' a w) → if Region.wanted o (yielded l.toArray a.tmps) = true then Oper.wp P o a w K' Q else K' (a.put o.dst undef) w) :
    AllReadyT P md l.toArray Q S T fuel listed a w [T] := fun j hj => by
  have e : j = T := by simpa using hj
  subst e
  exact wpOp_step (drop_get ho) (fun K' hK => h K' (fun a w hW => hK a w ⟨fun h => absurd rfl h, hW⟩))

end Go.Proofs.YtobjahlmjcnfoaaGreat

namespace Go.Proofs.YtobjahlmjcnfoaaGreat
open Go.RowKit Go.Sort

theorem run_app_loc {w : World} (ty : TypeId) (base : Nat) (v : Value) (ps : List Int) (m0 : Nat) (hown : w.ownsRow base 3 1 v m0 (flatI ps))
    (q : Nat) (x : Int) (hq : w.heap[q]? = some (.cells #[.int .i64 x] 3 (0, 0))) (h0 : m0 ≤ 1000) (hbase : base ≤ w.heap.size) :
    ∃ A' c' w', (Builtin.append_ #[36, 36] ty #[v, .slice (some ⟨q, 0, none⟩) 1 1]).run Tryz.prog w = .ok (.slice A' (m0 + 1) c') w' ∧ w'.ownsRow base 3 1 (.slice A' (m0 + 1) c') (m0 + 1) (flatI (ps ++ [x])) ∧ w.grownBy w' v.ownBlock ∧ (∀ g, (Value.slice A' (m0 + 1) c').ownBlock = some g → v.ownBlock = some g ∨ w.heap.size ≤ g) := by
  obtain ⟨i, hi, hz0, hz1, hz2⟩ := info_parts int_info
  obtain ⟨v', w', hrun, h2, h3, _, h5⟩ := run_append_own_at (P := Tryz.prog) w base 36 ty 3 i _ 1 8 Tryz.underlying36 hi hz0 hz1 hz2 (by rfl) (by decide) v m0 (flatI ps) hown ⟨q, 0, none⟩ 1 1 (flatI [x]) rfl (by
    intro j u hj
    match j, hj with
    | 0, hj =>
      have e : Value.int .i64 x = u := Option.some.inj hj
      rw [add_plain, ← e]
      exact (blk_cell hq 0).trans rfl
    | j + 1, hj => cases hj) (flatI_one [x]) (by unfold maxLen; omega) (by omega) hbase
  obtain ⟨A', c', rfl⟩ := own_form h2
  refine ⟨A', c', w', hrun, by rw [flatI_app]; exact h2, h3, fun g hg => ?_⟩
  rcases h5 with e | e
  · exact .inl (e ▸ hg)
  · rw [hg] at e
    exact .inr (by have := Option.some.inj e; omega)

theorem step_app_loc {w : World} {ops : Array Oper} {o : Oper} {a : Act} {K : Act → World → Prop} {Q : Exit → Act → World → Prop} {E : Prop} (hgd : o.guard = none) (s x : Operand)
    (ho : o.op = .call { callee := .builtin .append, args := #[s, x], argTypes := #[36, 36] }) (base : Nat) (v : Value) (ps : List Int) (m0 : Nat) (hs : a.eval s = v) (hown : w.ownsRow base 3 1 v m0 (flatI ps))
    (q : Nat) (y : Int) (hx : a.eval x = .slice (some ⟨q, 0, none⟩) 1 1) (hq : w.heap[q]? = some (.cells #[.int .i64 y] 3 (0, 0))) (h0 : m0 ≤ 1000) (hbase : base ≤ w.heap.size) (N : Nat) (hN : m0 + 1 = N)
    (h : ∀ A' c' w', w'.ownsRow base 3 1 (.slice A' N c') N (flatI (ps ++ [y])) → w.grownBy w' v.ownBlock → (∀ g, (Value.slice A' N c').ownBlock = some g → v.ownBlock = some g ∨ w.heap.size ≤ g) → K (a.put o.dst (.slice A' N c')) w') :
    if Region.wanted o (yielded ops a.tmps) = true then Oper.wp Tryz.prog o a w K Q else E := by
  subst hN
  have hw : Region.wanted o (yielded ops a.tmps) = true := by simp [Region.wanted, hgd]
  rw [if_pos hw]
  obtain ⟨A', c', w', hr', h2, h3, h4⟩ := run_app_loc o.type base v ps m0 hown q y hq h0 hbase
  unfold Oper.wp execOp
  simp only [ho, resolve, invoke, builtin, Sem.run_bind, Sem.run_pure, Result.andThen_ok, List.map_toArray, List.map_cons, List.map_nil, hs, hx, hr']
  exact h A' c' w' h2 h3 h4
end Go.Proofs.YtobjahlmjcnfoaaGreat

namespace Go.Proofs.YtobjahlmjcnfoaaGreat
open Go.RowKit Go.Sort
attribute [local go_sem ↓] Go.wp_at_zero Go.wp_at_succ

theorem own_len {w : World} {base : Nat} {e : TypeId} {n m c size : Nat} {xs : List Value} {A : Option Addr} (h : w.ownsRow base e size (.slice A m c) n xs) : m = n := by
  rcases h.2 with ⟨h1, h2⟩ | ⟨g, cap, cur, h1, _⟩
  · simp only [Value.slice.injEq] at h1; omega
  · simp only [Value.slice.injEq] at h1; exact h1.2.1
theorem gr_drew (w : World) (row : Option Nat) : w.grownBy w.drew row := ⟨rfl, rfl, rfl, Nat.le_refl _, fun _ _ _ => rfl⟩
def regOf (n : Nat) : Code → Option Code
  | .region k ops d => if k == n then some (.region k ops d) else none
  | .seq a b => match regOf n a with
    | some c => some c
    | none => regOf n b
  | .block _ c => regOf n c
  | .loop c => regOf n c
  | .cond _ a b => match regOf n a with
    | some c => some c
    | none => regOf n b
  | _ => none
noncomputable def setReg (n : Nat) : Code := ((Tryz.f53.body.bind (regOf n)).getD .skip)

set_option maxRecDepth 100000 in
set_option maxHeartbeats 64000000 in
theorem set13 {K : Act → World → Prop} {Q : Exit → Act → World → Prop} (hp : ∀ c a d v w, Q (.panic c) (Act.put a d v) w → Q (.panic c) a w) (base bl L B n : Nat) (s : E.St) (mv cv : Value) (k : Int) (W1 : World) (hbl : W1.heap[bl]? = some (.cells #[.pointer (some ⟨L, 0, none⟩)] 47 (0, 0))) (h : LAt W1 base L B n s mv cv) (hbase : base ≤ W1.heap.size) (hml : s.main.length ≤ 900) (f0 f1 f3 f4 f5 f6 f7 f9 f10 f11 f12 f13 f14 f15 f16 f17 f18 f19 f20 f21 f22 f23 f24 f25 f26 f27 f28 f29 f30 f31 f32 f33 f34 f35 f36 f37 f38 f39 f40 f41 f42 f43 f44 f45 f46 f47 f48 f49 f50 f51 f52 f53 f54 f55 f56 f57 f58 f59 f60 f61 f62 f63 f64 f65 f66 f67 f68 f69 f70 f71 f72 f73 f74 f75 f76 f77 f78 f79 f80 f81 f82 f83 f84 f85 f86 f87 f88 f89 f90 f91 f92 f93 f94 f95 f96 f97 f98 f99 f100 : Value)
    (hK : ∀ (u85 u86 u87 u88 u89 u90 u91 u92 u93 u94 : Value) (mv' : Value) (W2 : World), Hid (LAt W2 base L B n { s with main := s.main ++ [k] } mv' cv) → Hid (∀ b, b < W1.heap.size → b ≠ L → some b ≠ mv.ownBlock → W2.heap[b]? = W1.heap[b]?) → Hid (Below base W1 W2) → Hid (∀ g, mv'.ownBlock = some g → mv.ownBlock = some g ∨ W1.heap.size ≤ g) → K ⟨#[f0, f1, .pointer (some ⟨bl, 0, none⟩), f3, f4, f5, f6, f7, .int .i64 k, f9, f10, f11, f12, f13, f14, f15, f16, f17, f18, f19, f20, f21, f22, f23, f24, f25, f26, f27, f28, f29, f30, f31, f32, f33, f34, f35, f36, f37, f38, f39, f40, f41, f42, f43, f44, f45, f46, f47, f48, f49, f50, f51, f52, f53, f54, f55, f56, f57, f58, f59, f60, f61, f62, f63, f64, f65, f66, f67, f68, f69, f70, f71, f72, f73, f74, f75, f76, f77, f78, f79, f80, f81, f82, f83, f84, u85, u86, u87, u88, u89, u90, u91, u92, u93, u94, f95, f96, f97, f98, f99, f100], []⟩ W2) :
    Code.wp Tryz.prog (setReg 13) (Exit.then K Q) ⟨#[f0, f1, .pointer (some ⟨bl, 0, none⟩), f3, f4, f5, f6, f7, .int .i64 k, f9, f10, f11, f12, f13, f14, f15, f16, f17, f18, f19, f20, f21, f22, f23, f24, f25, f26, f27, f28, f29, f30, f31, f32, f33, f34, f35, f36, f37, f38, f39, f40, f41, f42, f43, f44, f45, f46, f47, f48, f49, f50, f51, f52, f53, f54, f55, f56, f57, f58, f59, f60, f61, f62, f63, f64, f65, f66, f67, f68, f69, f70, f71, f72, f73, f74, f75, f76, f77, f78, f79, f80, f81, f82, f83, f84, f85, f86, f87, f88, f89, f90, f91, f92, f93, f94, f95, f96, f97, f98, f99, f100], []⟩ W1 := by
  conv => arg 2; whnf
  obtain ⟨mA, mc, hmv⟩ := own_form h.main
  have hSof : ∀ v, W1.grownBy v mv.ownBlock → (fun w' => W1.grownBy w' mv.ownBlock ∧ w'.cell? ⟨bl, 0, none⟩ = some (.pointer (some ⟨L, 0, none⟩)) ∧ w'.cell? ⟨L, 7, none⟩ = some mv ∧ w'.frozen? ⟨L, 7, none⟩ = false) v := by
    intro v hg
    have e1 := gr_cell hg (blk_lt hbl) (fun e => row_ne h.main hbl (by decide) e.symm) 0
    have hL := (hg.block L h.lt (fun e => h.mainL e.symm)).trans h.blk
    exact ⟨hg, e1.trans ((blk_cell hbl 0).trans rfl), (blk_cell hL 7).trans rfl, blk_frozen hL 7⟩
  have hS : (fun w' => W1.grownBy w' mv.ownBlock ∧ w'.cell? ⟨bl, 0, none⟩ = some (.pointer (some ⟨L, 0, none⟩)) ∧ w'.cell? ⟨L, 7, none⟩ = some mv ∧ w'.frozen? ⟨L, 7, none⟩ = false) W1 := hSof _ (World.grownBy.refl _ _)
  (try dsimp only at hS)
  have HH := hide h
  have HO := hide h.main
  have HML := hide hml
  have HBS := hide hbase
  have HMV := hide hmv
  clear h hbl hml hbase hmv
  refine wp_region_T_drew (S := (fun w' => W1.grownBy w' mv.ownBlock ∧ w'.cell? ⟨bl, 0, none⟩ = some (.pointer (some ⟨L, 0, none⟩)) ∧ w'.cell? ⟨L, 7, none⟩ = some mv ∧ w'.frozen? ⟨L, 7, none⟩ = false)) 10 (by kernel_rfl) ?_ (fun hD0 => ?_)
  · (try dsimp only); first | assumption | exact hSof _ (gr_trans hD0.1 (World.grownBy_alloc _ _ _)) | exact hSof _ (World.grownBy.refl _ _) | exact hSof _ hD0.1 | exact hSof _ (gr_drew _ _)
  refine takeT (v := ?_) 0 rfl (by kernel_rfl) (by kernel_rfl) (by kernel_rfl) (by kernel_rfl) (fun _ _ _ h => hp _ _ _ _ _ h) (Or.inl ⟨by rfl, ?_⟩) (by assumption) ?_; rotate_left
  · (intro w hSw; (try dsimp only at hSw); go_simp; try with_reducible rfl)
  try simp only [Act.put, zl, z0, z1]
  refine takeT (v := ?_) 1 rfl (by kernel_rfl) (by kernel_rfl) (by kernel_rfl) (by kernel_rfl) (fun _ _ _ h => hp _ _ _ _ _ h) (Or.inl ⟨by rfl, ?_⟩) (by assumption) ?_; rotate_left
  · (intro w hSw; (try dsimp only at hSw); go_simp; try with_reducible rfl)
  try simp only [Act.put, zl, z0, z1]
  refine takeT (v := ?_) 2 rfl (by kernel_rfl) (by kernel_rfl) (by kernel_rfl) (by kernel_rfl) (fun _ _ _ h => hp _ _ _ _ _ h) (Or.inl ⟨by rfl, ?_⟩) (by assumption) ?_; rotate_left
  · (intro w hSw; (try dsimp only at hSw); go_simp; try with_reducible rfl)
  try simp only [Act.put, zl, z0, z1]
  refine takeT (v := ?_) 3 rfl (by kernel_rfl) (by kernel_rfl) (by kernel_rfl) (by kernel_rfl) (fun _ _ _ h => hp _ _ _ _ _ h) (Or.inl ⟨by rfl, ?_⟩) (by assumption) ?_; rotate_left
  · (intro w hSw; (try dsimp only at hSw); go_simp; try with_reducible rfl)
  try simp only [Act.put, zl, z0, z1]
  refine takeT (v := ?_) 4 rfl (by kernel_rfl) (by kernel_rfl) (by kernel_rfl) (by kernel_rfl) (fun _ _ _ h => hp _ _ _ _ _ h) (Or.inl ⟨by rfl, ?_⟩) (by assumption) ?_; rotate_left
  · (intro w hSw; (try dsimp only at hSw); go_simp; try with_reducible rfl)
  try simp only [Act.put, zl, z0, z1]
  refine takeT (v := ?_) 5 rfl (by kernel_rfl) (by kernel_rfl) (by kernel_rfl) (by kernel_rfl) (fun _ _ _ h => hp _ _ _ _ _ h) (Or.inl ⟨by rfl, ?_⟩) (by assumption) ?_; rotate_left
  · (intro w hSw; (try dsimp only at hSw); go_simp; try with_reducible rfl)
  try simp only [Act.put, zl, z0, z1]
  refine wpAnyT_ready (rs := [6]) (by kernel_rfl) (by simp) ?_; refine consT 6 rfl (fun K hK => ?_) AllReadyT.nil
  (go_simp; (first | refine cap_alloc (K := K) (O := (.cells #[.int .i64 k] 3 (0, 0))) (fun hG hb hle => ?_) | refine cap_allocD (K := K) (O := (.cells #[.int .i64 k] 3 (0, 0))) (fun hG hb hle => ?_)); (try simp only [World.size_alloc, drew_size] at hG); have H6 := hide hG; replace HO := hide (HO.out.alloc (.cells #[.int .i64 k] 3 (0, 0))); clear hG hle hb)
  refine hK.out _ _ ?_ (fun hD1 => ?_)
  · (try dsimp only); first | assumption | exact hSof _ (gr_trans hD0.1 (World.grownBy_alloc _ _ _)) | exact hSof _ (World.grownBy.refl _ _) | exact hSof _ hD0.1 | exact hSof _ (gr_drew _ _)
  clear hK K hD0; try simp only [Act.put, zl, z0, z1]
  refine wpAnyT_ready (rs := [7]) (by kernel_rfl) (by simp) ?_; refine consT 7 rfl (fun K hK => ?_) AllReadyT.nil
  (refine step_app_loc rfl (.tmp 89) (.tmp 91) rfl base mv s.main s.main.length rfl HO.out _ k rfl H6.out (by have := HML.out; omega) (by have := HBS.out; have := hD1.1.size; omega) (s.main ++ [k]).length (by simp) ?_; intro A2 c2 w9 hown2 hgrow hloc; have hSn := hSof _ (gr_trans hD1.1 hgrow); have HO2 := hide hown2; have HLC := hide hloc; have HQ := hide (hD1.1.size); clear hown2 hgrow hloc; (try dsimp only at hSn))
  refine hK.out _ _ ?_ (fun hD2 => ?_)
  · (try dsimp only); first | assumption | exact hSof _ (gr_trans hD1.1 (World.grownBy_alloc _ _ _)) | exact hSof _ (World.grownBy.refl _ _) | exact hSof _ hD1.1 | exact hSof _ (gr_drew _ _)
  clear hK K hD1; try simp only [Act.put, zl, z0, z1]
  refine wpAnyT_ready (rs := [8]) (by kernel_rfl) (by simp) ?_; refine consT 8 rfl (fun K hK => ?_) AllReadyT.nil; go_simp
  refine hK.out _ _ ?_ (fun hD3 => ?_)
  · (try dsimp only); first | exact hD2 | (first | assumption | exact hSof _ (gr_trans «H».1 (World.grownBy_alloc _ _ _)) | exact hSof _ (World.grownBy.refl _ _) | exact hSof _ «H».1 | exact hSof _ (gr_drew _ _))
  clear hK K hD2; try simp only [Act.put, zl, z0, z1]
  refine takeT (v := ?_) 9 rfl (by kernel_rfl) (by kernel_rfl) (by kernel_rfl) (by kernel_rfl) (fun _ _ _ h => hp _ _ _ _ _ h) (Or.inl ⟨by rfl, ?_⟩) (by assumption) ?_; rotate_left
  · (intro w hSw; (try dsimp only at hSw); go_simp; try with_reducible rfl)
  try simp only [Act.put, zl, z0, z1]
  refine wpAnyT_ready (rs := [10]) (by kernel_rfl) (by simp) ?_
  refine lastT rfl (fun K hK => ?_)
  (try dsimp only at hD3)
  go_simp
  refine hK.out _ _ ?_
  clear hK K
  try simp only [Act.put, zl, z0, z1]
  refine wpAnyT_done (by kernel_rfl) ?_ _
  (try dsimp only [Act.put, List.getElem_toArray, List.getElem_cons_succ, List.getElem_cons_zero])
  (try simp only [zl, z0, z1])
  have hG9 := hSn.1
  have HO3 : w9.ownsRow base 3 1 (.slice A2 (s.main.length + 1) c2) (s.main ++ [k]).length (flatI (s.main ++ [k])) := by
    have := HO2.out
    rw [List.length_append] at this ⊢
    exact this
  have hLC : ∀ g, (Value.slice A2 (s.main.length + 1) c2).ownBlock = some g → mv.ownBlock = some g ∨ W1.heap.size ≤ g := fun g hg => (HLC.out g (by rw [List.length_append]; exact hg)).imp id (fun h => Nat.le_trans HQ.out h)
  exact hK _ _ _ _ _ _ _ _ _ _ _ _ (hide (HH.out.setMain hG9 HO3 hLC)) (hide (fun b hb h1 h2 => (Below.heap_setCell w9 ⟨L, 7, none⟩ _ b h1).trans (hG9.block b hb h2))) (hide ((grown_below hG9 HBS.out (fun g hg => (HH.out.main.lt g hg).1)).setCell HH.out.lowL _)) (hide hLC)

end Go.Proofs.YtobjahlmjcnfoaaGreat

namespace Go.Proofs.YtobjahlmjcnfoaaGreat
open Go.RowKit Go.Sort

theorem stTake {P : Program} {ops : Array Oper} {w : World} {Q : Act → Prop} {a : Act} {o : Oper} {rest : List Oper} {v : Value} (hw : Region.wanted o (yielded ops a.tmps) = true) (hx : (execOp a.eval o).run P w = .ok (.value v) w) (h : wpStill P ops w Q rest (a.put o.dst v)) : wpStill P ops w Q (o :: rest) a := by
  unfold wpStill
  rw [if_pos hw]
  unfold Oper.still
  rw [hx, Oper.stillUpon_value]
  exact h
theorem stSkip {P : Program} {ops : Array Oper} {w : World} {Q : Act → Prop} {a : Act} {o : Oper} {rest : List Oper} (hw : Region.wanted o (yielded ops a.tmps) = false) (h : wpStill P ops w Q rest (a.put o.dst undef)) : wpStill P ops w Q (o :: rest) a := by
  unfold wpStill
  rw [if_neg (by rw [hw]; simp)]
  exact h
theorem stCall {P : Program} {ops : Array Oper} {w : World} {Q : Act → Prop} {a : Act} {o : Oper} {rest : List Oper} {v : Value} {f : FuncId} {args : Array Value} (hw : Region.wanted o (yielded ops a.tmps) = true) (hx : (execOp a.eval o).run P w = .ok (.enter f args) w) (hc : Calls P f args w fun e w' => e = .returned v ∧ w' = w) (h : wpStill P ops w Q rest (a.put o.dst v)) : wpStill P ops w Q (o :: rest) a := by
  unfold wpStill
  rw [if_pos hw]
  unfold Oper.still
  rw [hx]
  exact ⟨rfl, v, hc, h⟩
end Go.Proofs.YtobjahlmjcnfoaaGreat

namespace Go.Proofs.YtobjahlmjcnfoaaGreat
open Go.RowKit Go.Sort
attribute [local go_sem ↓] Go.wp_at_zero Go.wp_at_succ

noncomputable def takeReg (n : Nat) : Code := ((Tryz.f35.body.bind (regOf n)).getD .skip)

theorem cap_row1 {K : Act → World → Prop} {a : Act} {u : World} {b : Nat} {cs old : Array Value} {t : TypeId} (hb : u.heap[b]? = some (.cells old t (0, 0)))
    (h : ∀ W', W'.heap[b]? = some (.cells cs t (0, 0)) → (∀ W0 : World, Below W0.heap.size W0 u → W0.heap.size ≤ b → Below W0.heap.size W0 W') → K a W') : K a (u.setRow b cs) :=
  h _ (by
    unfold World.setRow
    show (u.heap.modify b _)[b]? = _
    obtain ⟨hlt, hk⟩ := Array.getElem?_eq_some_iff.1 hb
    rw [Array.getElem?_eq_getElem (by rw [Array.size_modify]; exact hlt), Array.getElem_modify_self, hk]) (fun W0 hB hle => below_row hB hle cs)

set_option maxRecDepth 100000 in
set_option maxHeartbeats 64000000 in
theorem take1 {K : Act → World → Prop} {Q : Exit → Act → World → Prop} (hp : ∀ c a d v w, Q (.panic c) (Act.put a d v) w → Q (.panic c) a w) (base bx L B n : Nat) (s : E.St) (mv cv : Value) (x : E.Nt) (W1 : World) (hbx : W1.heap[bx]? = some (.cells #[.int .i64 x.id, .int .i64 x.hour, .int .i64 x.kind, .int .i64 x.player, .int .i64 x.rank] 70 (0, 0))) (h : LAt W1 base L B n s mv cv) (hx0 : 0 ≤ x.player) (hx1 : x.player ≤ 999) (f1 f2 f4 f5 f6 f7 f8 f9 f10 f11 f12 f13 f14 f15 f16 f17 f18 f19 f20 f21 f22 f23 f24 f25 f26 f27 f28 f29 f30 f31 f32 f33 f34 f35 f36 f37 f38 f39 f40 f41 f42 f43 f44 f45 f46 f47 f48 f49 f50 f51 f52 f53 f54 f55 f56 f57 f58 f59 f60 f61 f62 f63 f64 f65 f66 f67 f68 f69 f70 f71 f72 f73 f74 f75 f76 f77 f78 f79 f80 f81 f82 f83 f84 f85 f86 f87 f88 f89 f90 f91 f92 f93 f94 f95 f96 f97 f98 f99 f100 f101 f102 f103 f104 f105 f106 f107 f108 f109 f110 f111 f112 f113 f114 f115 f116 f117 f118 f119 f120 f121 f122 f123 f124 f125 f126 f127 f128 f129 f130 f131 f132 f133 f134 f135 f136 f137 f138 f139 f140 f141 : Value)
    (hK : ∀ (u5 u6 u7 u8 u9 u10 u11 : Value) (g : Nat) (W2 : World), Hid (W2.heap[g]? = some (.cells #[.bool (s.pl x.player).ent, .bool (s.pl x.player).grd, .bool (s.pl x.player).card, .bool (s.pl x.player).quit, .bool (s.pl x.player).sgn, .int .i64 (s.pl x.player).rank, .int .i64 (s.pl x.player).turn] 79 (0, 0))) → Hid (W1.heap.size ≤ g) → Hid (Below W1.heap.size W1 W2) → K ⟨#[.pointer (some ⟨L, 0, none⟩), f1, f2, .pointer (some ⟨bx, 0, none⟩), .pointer (some ⟨g, 0, none⟩), u5, u6, u7, u8, u9, u10, u11, f12, f13, f14, f15, f16, f17, f18, f19, f20, f21, f22, f23, f24, f25, f26, f27, f28, f29, f30, f31, f32, f33, f34, f35, f36, f37, f38, f39, f40, f41, f42, f43, f44, f45, f46, f47, f48, f49, f50, f51, f52, f53, f54, f55, f56, f57, f58, f59, f60, f61, f62, f63, f64, f65, f66, f67, f68, f69, f70, f71, f72, f73, f74, f75, f76, f77, f78, f79, f80, f81, f82, f83, f84, f85, f86, f87, f88, f89, f90, f91, f92, f93, f94, f95, f96, f97, f98, f99, f100, f101, f102, f103, f104, f105, f106, f107, f108, f109, f110, f111, f112, f113, f114, f115, f116, f117, f118, f119, f120, f121, f122, f123, f124, f125, f126, f127, f128, f129, f130, f131, f132, f133, f134, f135, f136, f137, f138, f139, f140, f141], []⟩ W2) :
    Code.wp Tryz.prog (takeReg 1) (Exit.then K Q) ⟨#[.pointer (some ⟨L, 0, none⟩), f1, f2, .pointer (some ⟨bx, 0, none⟩), f4, f5, f6, f7, f8, f9, f10, f11, f12, f13, f14, f15, f16, f17, f18, f19, f20, f21, f22, f23, f24, f25, f26, f27, f28, f29, f30, f31, f32, f33, f34, f35, f36, f37, f38, f39, f40, f41, f42, f43, f44, f45, f46, f47, f48, f49, f50, f51, f52, f53, f54, f55, f56, f57, f58, f59, f60, f61, f62, f63, f64, f65, f66, f67, f68, f69, f70, f71, f72, f73, f74, f75, f76, f77, f78, f79, f80, f81, f82, f83, f84, f85, f86, f87, f88, f89, f90, f91, f92, f93, f94, f95, f96, f97, f98, f99, f100, f101, f102, f103, f104, f105, f106, f107, f108, f109, f110, f111, f112, f113, f114, f115, f116, f117, f118, f119, f120, f121, f122, f123, f124, f125, f126, f127, f128, f129, f130, f131, f132, f133, f134, f135, f136, f137, f138, f139, f140, f141], []⟩ W1 := by
  conv => arg 2; whnf
  obtain ⟨p, hpl⟩ : ∃ p, s.pl x.player = p := ⟨_, rfl⟩
  rw [hpl] at hK
  have hSof : ∀ v, Below W1.heap.size W1 v → (fun w' => Below W1.heap.size W1 w' ∧ w'.cell? ⟨L, 5, none⟩ = some (.map (some B)) ∧ w'.cell? ⟨bx, 3, none⟩ = some (.int .i64 x.player) ∧ (Instr.lookup 80 (.map (some B)) (.int .i64 x.player) false).run Tryz.prog w' = .ok (.agg #[.bool p.ent, .bool p.grd, .bool p.card, .bool p.quit, .bool p.sgn, .int .i64 p.rank, .int .i64 p.turn]) w') v := by
    intro v hb
    have hLv := h.below hb
    have hxv := (hb.block bx (blk_lt hbx)).trans hbx
    refine ⟨hb, (hLv.c 5).trans rfl, (blk_cell hxv 3).trans rfl, ?_⟩
    have := hLv.map.look Tryz.underlying80 zeroP hx0 hx1
    rw [hpl] at this; exact this
  have hS : (fun w' => Below W1.heap.size W1 w' ∧ w'.cell? ⟨L, 5, none⟩ = some (.map (some B)) ∧ w'.cell? ⟨bx, 3, none⟩ = some (.int .i64 x.player) ∧ (Instr.lookup 80 (.map (some B)) (.int .i64 x.player) false).run Tryz.prog w' = .ok (.agg #[.bool p.ent, .bool p.grd, .bool p.card, .bool p.quit, .bool p.sgn, .int .i64 p.rank, .int .i64 p.turn]) w') W1 := hSof _ (zbR _ _)
  (try dsimp only at hS)
  have HH := hide h
  clear h hbx hx0 hx1 hpl
  refine wp_region_held_drew (S := (fun w' => Below W1.heap.size W1 w' ∧ w'.cell? ⟨L, 5, none⟩ = some (.map (some B)) ∧ w'.cell? ⟨bx, 3, none⟩ = some (.int .i64 x.player) ∧ (Instr.lookup 80 (.map (some B)) (.int .i64 x.player) false).run Tryz.prog w' = .ok (.agg #[.bool p.ent, .bool p.grd, .bool p.card, .bool p.quit, .bool p.sgn, .int .i64 p.rank, .int .i64 p.turn]) w')) (by kernel_rfl) ?_ (fun hD0 => ?_)
  · (try dsimp only); first | assumption | exact hSof _ (zbA hD0.1 hD0.1.size _) | exact hSof _ (zbD (zbA hD0.1 hD0.1.size _)) | exact hSof _ (zbD hD0.1) | exact hSof _ (zbD (zbR _ _))
  refine tL (v := ?_) 0 rfl (by kernel_rfl) (fun _ _ _ h => hp _ _ _ _ _ h) (Or.inl ⟨by rfl, ?_⟩) (by assumption) ?_; rotate_left
  · (intro w hSw; (try dsimp only at hSw); go_simp; try with_reducible rfl)
  try simp only [Act.put, zl, z0, z1]
  refine tL (v := ?_) 1 rfl (by kernel_rfl) (fun _ _ _ h => hp _ _ _ _ _ h) (Or.inl ⟨by rfl, ?_⟩) (by assumption) ?_; rotate_left
  · (intro w hSw; (try dsimp only at hSw); go_simp; try with_reducible rfl)
  try simp only [Act.put, zl, z0, z1]
  refine tL (v := ?_) 2 rfl (by kernel_rfl) (fun _ _ _ h => hp _ _ _ _ _ h) (Or.inl ⟨by rfl, ?_⟩) (by assumption) ?_; rotate_left
  · (intro w hSw; (try dsimp only at hSw); go_simp; try with_reducible rfl)
  try simp only [Act.put, zl, z0, z1]
  refine tL (v := ?_) 3 rfl (by kernel_rfl) (fun _ _ _ h => hp _ _ _ _ _ h) (Or.inl ⟨by rfl, ?_⟩) (by assumption) ?_; rotate_left
  · (intro w hSw; (try dsimp only at hSw); go_simp; try with_reducible rfl)
  try simp only [Act.put, zl, z0, z1]
  refine tL (v := ?_) 4 rfl (by kernel_rfl) (fun _ _ _ h => hp _ _ _ _ _ h) (Or.inl ⟨by rfl, ?_⟩) (by assumption) ?_; rotate_left
  · (intro w hSw; (try dsimp only at hSw); go_simp; try with_reducible rfl)
  try simp only [Act.put, zl, z0, z1]
  refine tL (v := ?_) 5 rfl (by kernel_rfl) (fun _ _ _ h => hp _ _ _ _ _ h) (Or.inl ⟨by rfl, ?_⟩) (by assumption) ?_; rotate_left
  · (intro w hSw; (try dsimp only at hSw); go_simp; try with_reducible rfl)
  try simp only [Act.put, zl, z0, z1]
  refine tL (v := ?_) 6 rfl (by kernel_rfl) (fun _ _ _ h => hp _ _ _ _ _ h) (Or.inl ⟨by rfl, ?_⟩) (by assumption) ?_; rotate_left
  · (intro w hSw; (try dsimp only at hSw); go_simp; try with_reducible rfl)
  try simp only [Act.put, zl, z0, z1]
  refine wpAnyH_ready (rs := [7]) (by kernel_rfl) (by simp) ?_; refine consL 7 rfl (fun K hK => ?_) AllReadyH.nil
  (go_simp; (first | refine cap_alloc (K := K) (O := (.cells #[.bool false, .bool false, .bool false, .bool false, .bool false, .int .i64 0, .int .i64 0] 79 (0, 0))) (fun hG hb hle => ?_) | refine cap_allocD (K := K) (O := (.cells #[.bool false, .bool false, .bool false, .bool false, .bool false, .int .i64 0, .int .i64 0] 79 (0, 0))) (fun hG hb hle => ?_)); (try simp only [World.size_alloc, drew_size] at hG); have H6 := hide hG; clear hG hle hb)
  refine hK.out _ _ ?_ (fun hD1 => ?_)
  · (try dsimp only); first | assumption | exact hSof _ (zbA hD0.1 hD0.1.size _) | exact hSof _ (zbD (zbA hD0.1 hD0.1.size _)) | exact hSof _ (zbD hD0.1) | exact hSof _ (zbD (zbR _ _))
  clear hK K hD0; try simp only [Act.put, zl, z0, z1]
  refine wpAnyH_ready (rs := [8]) (by kernel_rfl) (by simp) ?_; refine consL 8 rfl (fun K hK => ?_) AllReadyH.nil
  (refine step_row rfl 79 (.tmp 4) (.tmp 11) rfl _ _ rfl rfl 79 _ H6.out plRow rfl (by simp [Value.oneCell']) ?_; refine cap_row1 H6.out (fun W9 hr hgb => ?_); have hSn := hSof _ (hgb _ hD1.1 (by first | exact Nat.le_refl _ | omega)); have R6 := hide hr; clear hr hgb; (try dsimp only at hSn))
  refine hK.out _ _ ?_ (fun hD2 => ?_)
  · (try dsimp only); first | assumption | exact hSof _ (zbA hD1.1 hD1.1.size _) | exact hSof _ (zbD (zbA hD1.1 hD1.1.size _)) | exact hSof _ (zbD hD1.1) | exact hSof _ (zbD (zbR _ _))
  clear hK K hD1; try simp only [Act.put, zl, z0, z1]
  refine wpAnyH_done (by kernel_rfl) ?_ _
  (try dsimp only [Act.put, List.getElem_toArray, List.getElem_cons_succ, List.getElem_cons_zero])
  (try simp only [zl, z0, z1])
  exact hK _ _ _ _ _ _ _ _ _ R6 (hide (Nat.le_refl _)) (hide hSn.1)

set_option maxRecDepth 100000 in
set_option maxHeartbeats 64000000 in
theorem take5 {K : Act → World → Prop} {Q : Exit → Act → World → Prop} (hp : ∀ c a d v w, Q (.panic c) (Act.put a d v) w → Q (.panic c) a w) (base bx L B n g : Nat) (s : E.St) (mv cv : Value) (x : E.Nt) (p : E.Pl) (d : Bool) (W1 : World) (hbx : W1.heap[bx]? = some (.cells #[.int .i64 x.id, .int .i64 x.hour, .int .i64 x.kind, .int .i64 x.player, .int .i64 x.rank] 70 (0, 0))) (h : LAt W1 base L B n s mv cv) (hg : W1.heap[g]? = some (.cells #[.bool p.ent, .bool p.grd, .bool p.card, .bool p.quit, .bool p.sgn, .int .i64 p.rank, .int .i64 p.turn] 79 (0, 0))) (hd : d = (decide (x.hour ≤ s.f.close) && !p.ent)) (f1 f2 f5 f6 f7 f8 f9 f10 f11 f12 f13 f14 f15 f16 f17 f18 f19 f20 f21 f22 f23 f24 f25 f26 f27 f28 f29 f30 f31 f32 f33 f34 f35 f36 f37 f38 f39 f40 f41 f42 f43 f44 f45 f46 f47 f48 f49 f50 f51 f52 f53 f54 f55 f56 f57 f58 f59 f60 f61 f62 f63 f64 f65 f66 f67 f68 f69 f70 f71 f72 f73 f74 f75 f76 f77 f78 f79 f80 f81 f82 f83 f84 f85 f86 f87 f88 f89 f90 f91 f92 f93 f94 f95 f96 f97 f98 f99 f100 f101 f102 f103 f104 f105 f106 f107 f108 f109 f110 f111 f112 f113 f114 f115 f116 f117 f118 f119 f120 f121 f122 f123 f124 f125 f126 f127 f128 f129 f130 f131 f132 f133 f134 f135 f136 f137 f138 f139 f140 f141 : Value)
    (hK : ∀ (u17 u18 u19 u20 u21 u22 u23 u24 u25 u26 u27 u28 : Value) (W2 : World), Hid (Below W1.heap.size W1 W2) → K ⟨#[.pointer (some ⟨L, 0, none⟩), f1, f2, .pointer (some ⟨bx, 0, none⟩), .pointer (some ⟨g, 0, none⟩), f5, f6, f7, f8, f9, f10, f11, f12, f13, f14, f15, f16, u17, u18, u19, u20, u21, u22, u23, u24, u25, u26, u27, u28, .bool d, f30, f31, f32, f33, f34, f35, f36, f37, f38, f39, f40, f41, f42, f43, f44, f45, f46, f47, f48, f49, f50, f51, f52, f53, f54, f55, f56, f57, f58, f59, f60, f61, f62, f63, f64, f65, f66, f67, f68, f69, f70, f71, f72, f73, f74, f75, f76, f77, f78, f79, f80, f81, f82, f83, f84, f85, f86, f87, f88, f89, f90, f91, f92, f93, f94, f95, f96, f97, f98, f99, f100, f101, f102, f103, f104, f105, f106, f107, f108, f109, f110, f111, f112, f113, f114, f115, f116, f117, f118, f119, f120, f121, f122, f123, f124, f125, f126, f127, f128, f129, f130, f131, f132, f133, f134, f135, f136, f137, f138, f139, f140, f141], []⟩ W2) :
    Code.wp Tryz.prog (takeReg 5) (Exit.then K Q) ⟨#[.pointer (some ⟨L, 0, none⟩), f1, f2, .pointer (some ⟨bx, 0, none⟩), .pointer (some ⟨g, 0, none⟩), f5, f6, f7, f8, f9, f10, f11, f12, f13, f14, f15, f16, f17, f18, f19, f20, f21, f22, f23, f24, f25, f26, f27, f28, f29, f30, f31, f32, f33, f34, f35, f36, f37, f38, f39, f40, f41, f42, f43, f44, f45, f46, f47, f48, f49, f50, f51, f52, f53, f54, f55, f56, f57, f58, f59, f60, f61, f62, f63, f64, f65, f66, f67, f68, f69, f70, f71, f72, f73, f74, f75, f76, f77, f78, f79, f80, f81, f82, f83, f84, f85, f86, f87, f88, f89, f90, f91, f92, f93, f94, f95, f96, f97, f98, f99, f100, f101, f102, f103, f104, f105, f106, f107, f108, f109, f110, f111, f112, f113, f114, f115, f116, f117, f118, f119, f120, f121, f122, f123, f124, f125, f126, f127, f128, f129, f130, f131, f132, f133, f134, f135, f136, f137, f138, f139, f140, f141], []⟩ W1 := by
  conv => arg 2; whnf
  have e1 := (blk_cell hbx 1).trans rfl
  have e2 := (h.c 3).trans rfl
  have e3 := (blk_cell hg 0).trans rfl
  clear hbx hg h
  have HB := hide (zbD (zbR W1.heap.size W1))
  obtain ⟨V, hV⟩ : ∃ V, W1.drew = V := ⟨_, rfl⟩
  refine wp_region_still_lit (by kernel_rfl) (by kernel_rfl) ?_
  change wpStill _ _ W1.drew (fun a' => Exit.then K Q Exit.normal a' W1.drew) _ _
  have e1' : W1.drew.cell? ⟨bx, 1, none⟩ = some (.int .i64 x.hour) := e1
  have e2' : W1.drew.cell? ⟨L, 3, none⟩ = some (.int .i64 s.f.close) := e2
  have e3' : W1.drew.cell? ⟨g, 0, none⟩ = some (.bool p.ent) := e3
  clear e1 e2 e3
  rw [hV] at e1' e2' e3' HB ⊢
  clear hV
  cases h1 : decide (x.hour ≤ s.f.close)
  · rw [h1] at hd
    obtain rfl : d = false := hd
    iterate 7 (with_reducible refine stTake (v := ?_) (by kernel_rfl) ?_ ?_; rotate_left; (focus (go_simp; (try with_reducible rfl))); (try simp only [Act.put, zl, z0, z1]))
    with_reducible refine stTake (v := ?_) (by kernel_rfl) ?_ ?_; rotate_left
    · (go_simp; (try simp only [h1]); (try with_reducible rfl))
    (try simp only [Act.put, zl, z0, z1])
    with_reducible refine stTake (v := ?_) (by kernel_rfl) ?_ ?_; rotate_left; (focus (go_simp; (try with_reducible rfl))); (try simp only [Act.put, zl, z0, z1])
    iterate 3 (with_reducible refine stSkip (by kernel_rfl) ?_; (try simp only [Act.put, zl, z0, z1]))
    with_reducible refine stTake (v := ?_) (by kernel_rfl) ?_ ?_; rotate_left; (focus (go_simp; (try with_reducible rfl))); (try simp only [Act.put, zl, z0, z1])
    refine wpStill_nil ?_
    exact hK _ _ _ _ _ _ _ _ _ _ _ _ _ HB
  · rw [h1] at hd
    obtain rfl : d = !p.ent := hd
    iterate 7 (with_reducible refine stTake (v := ?_) (by kernel_rfl) ?_ ?_; rotate_left; (focus (go_simp; (try with_reducible rfl))); (try simp only [Act.put, zl, z0, z1]))
    with_reducible refine stTake (v := ?_) (by kernel_rfl) ?_ ?_; rotate_left
    · (go_simp; (try simp only [h1]); (try with_reducible rfl))
    (try simp only [Act.put, zl, z0, z1])
    iterate 5 (with_reducible refine stTake (v := ?_) (by kernel_rfl) ?_ ?_; rotate_left; (focus (go_simp; (try with_reducible rfl))); (try simp only [Act.put, zl, z0, z1]))
    refine wpStill_nil ?_
    exact hK _ _ _ _ _ _ _ _ _ _ _ _ _ HB

end Go.Proofs.YtobjahlmjcnfoaaGreat

namespace Go.Proofs.YtobjahlmjcnfoaaGreat
open Go.RowKit Go.Sort
attribute [local go_sem ↓] Go.wp_at_zero Go.wp_at_succ

theorem cap_set {K : Act → World → Prop} {a : Act} {u : World} {b i : Nat} {v : Value} {old : Array Value} {t : TypeId} (hb : u.heap[b]? = some (.cells old t (0, 0)))
    (h : ∀ W', W'.heap[b]? = some (.cells (old.setIfInBounds i v) t (0, 0)) → u.grownBy W' (some b) → K a W') : K a (u.setCell ⟨b, i, none⟩ v) := h _ (blk_set hb i v) (gr_set _ _ _ _)

set_option maxRecDepth 100000 in
set_option maxHeartbeats 64000000 in
theorem take6 {K : Act → World → Prop} {Q : Exit → Act → World → Prop} (hp : ∀ c a d v w, Q (.panic c) (Act.put a d v) w → Q (.panic c) a w) (base bx L B n g : Nat) (s : E.St) (mv cv : Value) (x : E.Nt) (p : E.Pl) (W1 : World) (hbx : W1.heap[bx]? = some (.cells #[.int .i64 x.id, .int .i64 x.hour, .int .i64 x.kind, .int .i64 x.player, .int .i64 x.rank] 70 (0, 0))) (h : LAt W1 base L B n s mv cv) (hg : W1.heap[g]? = some (.cells #[.bool p.ent, .bool p.grd, .bool p.card, .bool p.quit, .bool p.sgn, .int .i64 p.rank, .int .i64 p.turn] 79 (0, 0))) (nbx : bx ≠ g) (nL : L ≠ g) (f1 f2 f5 f6 f7 f8 f9 f10 f11 f12 f13 f14 f15 f16 f17 f18 f19 f20 f21 f22 f23 f24 f25 f26 f27 f28 f29 f30 f31 f32 f33 f34 f35 f36 f37 f38 f39 f40 f41 f42 f43 f44 f45 f46 f47 f48 f49 f50 f51 f52 f53 f54 f55 f56 f57 f58 f59 f60 f61 f62 f63 f64 f65 f66 f67 f68 f69 f70 f71 f72 f73 f74 f75 f76 f77 f78 f79 f80 f81 f82 f83 f84 f85 f86 f87 f88 f89 f90 f91 f92 f93 f94 f95 f96 f97 f98 f99 f100 f101 f102 f103 f104 f105 f106 f107 f108 f109 f110 f111 f112 f113 f114 f115 f116 f117 f118 f119 f120 f121 f122 f123 f124 f125 f126 f127 f128 f129 f130 f131 f132 f133 f134 f135 f136 f137 f138 f139 f140 f141 : Value)
    (hK : ∀ (u30 u31 u32 u33 u34 u35 u36 u37 u38 u39 u40 u41 u42 : Value) (W2 : World), Hid (W2.heap[g]? = some (.cells #[.bool true, .bool (decide (x.kind = 2)), .bool p.card, .bool p.quit, .bool p.sgn, .int .i64 x.rank, .int .i64 s.turns] 79 (0, 0))) → Hid (W1.grownBy W2 (some g)) → K ⟨#[.pointer (some ⟨L, 0, none⟩), f1, f2, .pointer (some ⟨bx, 0, none⟩), .pointer (some ⟨g, 0, none⟩), f5, f6, f7, f8, f9, f10, f11, f12, f13, f14, f15, f16, f17, f18, f19, f20, f21, f22, f23, f24, f25, f26, f27, f28, f29, u30, u31, u32, u33, u34, u35, u36, u37, u38, u39, u40, u41, u42, f43, f44, f45, f46, f47, f48, f49, f50, f51, f52, f53, f54, f55, f56, f57, f58, f59, f60, f61, f62, f63, f64, f65, f66, f67, f68, f69, f70, f71, f72, f73, f74, f75, f76, f77, f78, f79, f80, f81, f82, f83, f84, f85, f86, f87, f88, f89, f90, f91, f92, f93, f94, f95, f96, f97, f98, f99, f100, f101, f102, f103, f104, f105, f106, f107, f108, f109, f110, f111, f112, f113, f114, f115, f116, f117, f118, f119, f120, f121, f122, f123, f124, f125, f126, f127, f128, f129, f130, f131, f132, f133, f134, f135, f136, f137, f138, f139, f140, f141], []⟩ W2) :
    Code.wp Tryz.prog (takeReg 6) (Exit.then K Q) ⟨#[.pointer (some ⟨L, 0, none⟩), f1, f2, .pointer (some ⟨bx, 0, none⟩), .pointer (some ⟨g, 0, none⟩), f5, f6, f7, f8, f9, f10, f11, f12, f13, f14, f15, f16, f17, f18, f19, f20, f21, f22, f23, f24, f25, f26, f27, f28, f29, f30, f31, f32, f33, f34, f35, f36, f37, f38, f39, f40, f41, f42, f43, f44, f45, f46, f47, f48, f49, f50, f51, f52, f53, f54, f55, f56, f57, f58, f59, f60, f61, f62, f63, f64, f65, f66, f67, f68, f69, f70, f71, f72, f73, f74, f75, f76, f77, f78, f79, f80, f81, f82, f83, f84, f85, f86, f87, f88, f89, f90, f91, f92, f93, f94, f95, f96, f97, f98, f99, f100, f101, f102, f103, f104, f105, f106, f107, f108, f109, f110, f111, f112, f113, f114, f115, f116, f117, f118, f119, f120, f121, f122, f123, f124, f125, f126, f127, f128, f129, f130, f131, f132, f133, f134, f135, f136, f137, f138, f139, f140, f141], []⟩ W1 := by
  conv => arg 2; whnf
  have hSof : ∀ v, W1.grownBy v (some g) → (fun w' => W1.grownBy w' (some g) ∧ w'.cell? ⟨bx, 2, none⟩ = some (.int .i64 x.kind) ∧ w'.cell? ⟨bx, 4, none⟩ = some (.int .i64 x.rank) ∧ w'.cell? ⟨L, 6, none⟩ = some (.int .i64 s.turns)) v := by
    intro v hb
    have hxv := (hb.block bx (blk_lt hbx) (fun e => nbx (Option.some.inj e))).trans hbx
    have hLv := (hb.block L h.lt (fun e => nL (Option.some.inj e))).trans h.blk
    exact ⟨hb, (blk_cell hxv 2).trans rfl, (blk_cell hxv 4).trans rfl, (blk_cell hLv 6).trans rfl⟩
  have hS : (fun w' => W1.grownBy w' (some g) ∧ w'.cell? ⟨bx, 2, none⟩ = some (.int .i64 x.kind) ∧ w'.cell? ⟨bx, 4, none⟩ = some (.int .i64 x.rank) ∧ w'.cell? ⟨L, 6, none⟩ = some (.int .i64 s.turns)) W1 := hSof _ (World.grownBy.refl _ _)
  (try dsimp only at hS)
  have R0 := hide (show W1.drew.heap[g]? = some (.cells #[.bool p.ent, .bool p.grd, .bool p.card, .bool p.quit, .bool p.sgn, .int .i64 p.rank, .int .i64 p.turn] 79 (0, 0)) from hg)
  clear h hbx hg
  refine wp_region_held_drew (S := (fun w' => W1.grownBy w' (some g) ∧ w'.cell? ⟨bx, 2, none⟩ = some (.int .i64 x.kind) ∧ w'.cell? ⟨bx, 4, none⟩ = some (.int .i64 x.rank) ∧ w'.cell? ⟨L, 6, none⟩ = some (.int .i64 s.turns))) (by kernel_rfl) ?_ (fun hD0 => ?_)
  · (try dsimp only); first | assumption | exact hSof _ (gr_drew _ _)
  refine tL (v := ?_) 0 rfl (by kernel_rfl) (fun _ _ _ h => hp _ _ _ _ _ h) (Or.inl ⟨by rfl, ?_⟩) (by assumption) ?_; rotate_left
  · (intro w hSw; (try dsimp only at hSw); go_simp; try with_reducible rfl)
  try simp only [Act.put, zl, z0, z1]
  refine tL (v := ?_) 1 rfl (by kernel_rfl) (fun _ _ _ h => hp _ _ _ _ _ h) (Or.inl ⟨by rfl, ?_⟩) (by assumption) ?_; rotate_left
  · (intro w hSw; (try dsimp only at hSw); go_simp; try with_reducible rfl)
  try simp only [Act.put, zl, z0, z1]
  refine tL (v := ?_) 2 rfl (by kernel_rfl) (fun _ _ _ h => hp _ _ _ _ _ h) (Or.inl ⟨by rfl, ?_⟩) (by assumption) ?_; rotate_left
  · (intro w hSw; (try dsimp only at hSw); go_simp; try with_reducible rfl)
  try simp only [Act.put, zl, z0, z1]
  refine tL (v := ?_) 3 rfl (by kernel_rfl) (fun _ _ _ h => hp _ _ _ _ _ h) (Or.inl ⟨by rfl, ?_⟩) (by assumption) ?_; rotate_left
  · (intro w hSw; (try dsimp only at hSw); go_simp; try with_reducible rfl)
  try simp only [Act.put, zl, z0, z1]
  refine tL (v := ?_) 4 rfl (by kernel_rfl) (fun _ _ _ h => hp _ _ _ _ _ h) (Or.inl ⟨by rfl, ?_⟩) (by assumption) ?_; rotate_left
  · (intro w hSw; (try dsimp only at hSw); go_simp; try with_reducible rfl)
  try simp only [Act.put, zl, z0, z1]
  refine tL (v := ?_) 5 rfl (by kernel_rfl) (fun _ _ _ h => hp _ _ _ _ _ h) (Or.inl ⟨by rfl, ?_⟩) (by assumption) ?_; rotate_left
  · (intro w hSw; (try dsimp only at hSw); go_simp; try with_reducible rfl)
  try simp only [Act.put, zl, z0, z1]
  refine tL (v := ?_) 6 rfl (by kernel_rfl) (fun _ _ _ h => hp _ _ _ _ _ h) (Or.inl ⟨by rfl, ?_⟩) (by assumption) ?_; rotate_left
  · (intro w hSw; (try dsimp only at hSw); go_simp; try with_reducible rfl)
  try simp only [Act.put, zl, z0, z1]
  refine tL (v := ?_) 7 rfl (by kernel_rfl) (fun _ _ _ h => hp _ _ _ _ _ h) (Or.inl ⟨by rfl, ?_⟩) (by assumption) ?_; rotate_left
  · (intro w hSw; (try dsimp only at hSw); go_simp; try with_reducible rfl)
  try simp only [Act.put, zl, z0, z1]
  refine tL (v := ?_) 8 rfl (by kernel_rfl) (fun _ _ _ h => hp _ _ _ _ _ h) (Or.inl ⟨by rfl, ?_⟩) (by assumption) ?_; rotate_left
  · (intro w hSw; (try dsimp only at hSw); go_simp; try with_reducible rfl)
  try simp only [Act.put, zl, z0, z1]
  refine tL (v := ?_) 9 rfl (by kernel_rfl) (fun _ _ _ h => hp _ _ _ _ _ h) (Or.inl ⟨by rfl, ?_⟩) (by assumption) ?_; rotate_left
  · (intro w hSw; (try dsimp only at hSw); go_simp; try with_reducible rfl)
  try simp only [Act.put, zl, z0, z1]
  refine wpAnyH_ready (rs := [10]) (by kernel_rfl) (by simp) ?_; refine consL 10 rfl (fun K hK => ?_) AllReadyH.nil
  (have cc : W1.drew.cell? ⟨g, 0, none⟩ = some (.bool p.ent) := (blk_cell R0.out 0).trans rfl; have ff := blk_frozen R0.out 0; go_simp; clear cc ff; refine cap_set R0.out (fun W10 hr hg9 => ?_); have hSn := hSof _ (gr_trans hD0.1 hg9); have R1 := hide hr; clear hr hg9; (try dsimp only at hSn))
  refine hK.out _ _ ?_ (fun hD1 => ?_)
  · (try dsimp only); first | assumption | exact hSof _ (gr_drew _ _)
  clear hK K hD0; try simp only [Act.put, zl, z0, z1]
  refine tL (v := ?_) 11 rfl (by kernel_rfl) (fun _ _ _ h => hp _ _ _ _ _ h) (Or.inl ⟨by rfl, ?_⟩) (by assumption) ?_; rotate_left
  · (intro w hSw; (try dsimp only at hSw); go_simp; try with_reducible rfl)
  try simp only [Act.put, zl, z0, z1]
  refine wpAnyH_ready (rs := [12]) (by kernel_rfl) (by simp) ?_; refine consL 12 rfl (fun K hK => ?_) AllReadyH.nil
  (have cc : W10.cell? ⟨g, 1, none⟩ = some (.bool p.grd) := (blk_cell R1.out 1).trans rfl; have ff := blk_frozen R1.out 1; go_simp; clear cc ff; refine cap_set R1.out (fun W12 hr hg9 => ?_); have hSn := hSof _ (gr_trans hD1.1 hg9); have R2 := hide hr; clear hr hg9; (try dsimp only at hSn))
  refine hK.out _ _ ?_ (fun hD2 => ?_)
  · (try dsimp only); first | assumption | exact hSof _ (gr_drew _ _)
  clear hK K hD1; try simp only [Act.put, zl, z0, z1]
  refine tL (v := ?_) 13 rfl (by kernel_rfl) (fun _ _ _ h => hp _ _ _ _ _ h) (Or.inl ⟨by rfl, ?_⟩) (by assumption) ?_; rotate_left
  · (intro w hSw; (try dsimp only at hSw); go_simp; try with_reducible rfl)
  try simp only [Act.put, zl, z0, z1]
  refine wpAnyH_ready (rs := [14]) (by kernel_rfl) (by simp) ?_; refine consL 14 rfl (fun K hK => ?_) AllReadyH.nil
  (have cc : W12.cell? ⟨g, 5, none⟩ = some (.int .i64 p.rank) := (blk_cell R2.out 5).trans rfl; have ff := blk_frozen R2.out 5; go_simp; clear cc ff; refine cap_set R2.out (fun W14 hr hg9 => ?_); have hSn := hSof _ (gr_trans hD2.1 hg9); have R3 := hide hr; clear hr hg9; (try dsimp only at hSn))
  refine hK.out _ _ ?_ (fun hD3 => ?_)
  · (try dsimp only); first | assumption | exact hSof _ (gr_drew _ _)
  clear hK K hD2; try simp only [Act.put, zl, z0, z1]
  refine tL (v := ?_) 15 rfl (by kernel_rfl) (fun _ _ _ h => hp _ _ _ _ _ h) (Or.inl ⟨by rfl, ?_⟩) (by assumption) ?_; rotate_left
  · (intro w hSw; (try dsimp only at hSw); go_simp; try with_reducible rfl)
  try simp only [Act.put, zl, z0, z1]
  refine wpAnyH_ready (rs := [16]) (by kernel_rfl) (by simp) ?_; refine consL 16 rfl (fun K hK => ?_) AllReadyH.nil
  (have cc : W14.cell? ⟨g, 6, none⟩ = some (.int .i64 p.turn) := (blk_cell R3.out 6).trans rfl; have ff := blk_frozen R3.out 6; go_simp; clear cc ff; refine cap_set R3.out (fun W16 hr hg9 => ?_); have hSn := hSof _ (gr_trans hD3.1 hg9); have R4 := hide hr; clear hr hg9; (try dsimp only at hSn))
  refine hK.out _ _ ?_ (fun hD4 => ?_)
  · (try dsimp only); first | assumption | exact hSof _ (gr_drew _ _)
  clear hK K hD3; try simp only [Act.put, zl, z0, z1]
  refine wpAnyH_done (by kernel_rfl) ?_ _
  (try dsimp only [Act.put, List.getElem_toArray, List.getElem_cons_succ, List.getElem_cons_zero])
  (try simp only [zl, z0, z1])
  exact hK _ _ _ _ _ _ _ _ _ _ _ _ _ _ R4 (hide hSn.1)

set_option maxRecDepth 100000 in
set_option maxHeartbeats 64000000 in
theorem take11 {K : Act → World → Prop} {Q : Exit → Act → World → Prop} (hp : ∀ c a d v w, Q (.panic c) (Act.put a d v) w → Q (.panic c) a w) (base bx L B n : Nat) (s : E.St) (mv cv : Value) (x : E.Nt) (W1 : World) (hbx : W1.heap[bx]? = some (.cells #[.int .i64 x.id, .int .i64 x.hour, .int .i64 x.kind, .int .i64 x.player, .int .i64 x.rank] 70 (0, 0))) (h : LAt W1 base L B n s mv cv) (hbase : base ≤ W1.heap.size) (hml : s.cards.length ≤ 900) (f1 f2 f4 f5 f6 f7 f8 f9 f10 f11 f12 f13 f14 f15 f16 f17 f18 f19 f20 f21 f22 f23 f24 f25 f26 f27 f28 f29 f30 f31 f32 f33 f34 f35 f36 f37 f38 f39 f40 f41 f42 f43 f44 f45 f46 f47 f48 f49 f50 f51 f52 f53 f54 f55 f56 f57 f58 f59 f60 f61 f62 f63 f64 f65 f66 f67 f68 f69 f70 f71 f72 f73 f74 f75 f76 f77 f78 f79 f80 f81 f82 f83 f84 f85 f86 f87 f88 f89 f90 f91 f92 f93 f94 f95 f96 f97 f98 f99 f100 f101 f102 f103 f104 f105 f106 f107 f108 f109 f110 f111 f112 f113 f114 f115 f116 f117 f118 f119 f120 f121 f122 f123 f124 f125 f126 f127 f128 f129 f130 f131 f132 f133 f134 f135 f136 f137 f138 f139 f140 f141 : Value)
    (hK : ∀ (u81 u82 u83 u84 u85 u86 u87 u88 u89 u90 u91 : Value) (cv' : Value) (W2 : World), Hid (LAt W2 base L B n { s with cards := s.cards ++ [x.player] } mv cv') → Hid (∀ b, b < W1.heap.size → b ≠ L → some b ≠ cv.ownBlock → W2.heap[b]? = W1.heap[b]?) → Hid (Below base W1 W2) → Hid (∀ g, cv'.ownBlock = some g → cv.ownBlock = some g ∨ W1.heap.size ≤ g) → K ⟨#[.pointer (some ⟨L, 0, none⟩), f1, f2, .pointer (some ⟨bx, 0, none⟩), f4, f5, f6, f7, f8, f9, f10, f11, f12, f13, f14, f15, f16, f17, f18, f19, f20, f21, f22, f23, f24, f25, f26, f27, f28, f29, f30, f31, f32, f33, f34, f35, f36, f37, f38, f39, f40, f41, f42, f43, f44, f45, f46, f47, f48, f49, f50, f51, f52, f53, f54, f55, f56, f57, f58, f59, f60, f61, f62, f63, f64, f65, f66, f67, f68, f69, f70, f71, f72, f73, f74, f75, f76, f77, f78, f79, f80, u81, u82, u83, u84, u85, u86, u87, u88, u89, u90, u91, f92, f93, f94, f95, f96, f97, f98, f99, f100, f101, f102, f103, f104, f105, f106, f107, f108, f109, f110, f111, f112, f113, f114, f115, f116, f117, f118, f119, f120, f121, f122, f123, f124, f125, f126, f127, f128, f129, f130, f131, f132, f133, f134, f135, f136, f137, f138, f139, f140, f141], []⟩ W2) :
    Code.wp Tryz.prog (takeReg 11) (Exit.then K Q) ⟨#[.pointer (some ⟨L, 0, none⟩), f1, f2, .pointer (some ⟨bx, 0, none⟩), f4, f5, f6, f7, f8, f9, f10, f11, f12, f13, f14, f15, f16, f17, f18, f19, f20, f21, f22, f23, f24, f25, f26, f27, f28, f29, f30, f31, f32, f33, f34, f35, f36, f37, f38, f39, f40, f41, f42, f43, f44, f45, f46, f47, f48, f49, f50, f51, f52, f53, f54, f55, f56, f57, f58, f59, f60, f61, f62, f63, f64, f65, f66, f67, f68, f69, f70, f71, f72, f73, f74, f75, f76, f77, f78, f79, f80, f81, f82, f83, f84, f85, f86, f87, f88, f89, f90, f91, f92, f93, f94, f95, f96, f97, f98, f99, f100, f101, f102, f103, f104, f105, f106, f107, f108, f109, f110, f111, f112, f113, f114, f115, f116, f117, f118, f119, f120, f121, f122, f123, f124, f125, f126, f127, f128, f129, f130, f131, f132, f133, f134, f135, f136, f137, f138, f139, f140, f141], []⟩ W1 := by
  conv => arg 2; whnf
  obtain ⟨cA, cc, hcv⟩ := own_form h.cards
  have hSof : ∀ v, W1.grownBy v cv.ownBlock → (fun w' => W1.grownBy w' cv.ownBlock ∧ w'.cell? ⟨bx, 3, none⟩ = some (.int .i64 x.player) ∧ w'.cell? ⟨L, 8, none⟩ = some cv ∧ w'.frozen? ⟨L, 8, none⟩ = false) v := by
    intro v hg
    have e1 := gr_cell hg (blk_lt hbx) (fun e => row_ne h.cards hbx (by decide) e.symm) 3
    have hL := (hg.block L h.lt (fun e => h.cardsL e.symm)).trans h.blk
    exact ⟨hg, e1.trans ((blk_cell hbx 3).trans rfl), (blk_cell hL 8).trans rfl, blk_frozen hL 8⟩
  have hS : (fun w' => W1.grownBy w' cv.ownBlock ∧ w'.cell? ⟨bx, 3, none⟩ = some (.int .i64 x.player) ∧ w'.cell? ⟨L, 8, none⟩ = some cv ∧ w'.frozen? ⟨L, 8, none⟩ = false) W1 := hSof _ (World.grownBy.refl _ _)
  (try dsimp only at hS)
  have HH := hide h
  have HO := hide h.cards
  have HML := hide hml
  have HBS := hide hbase
  have HCV := hide hcv
  clear h hbx hml hbase hcv
  refine wp_region_T_drew (S := (fun w' => W1.grownBy w' cv.ownBlock ∧ w'.cell? ⟨bx, 3, none⟩ = some (.int .i64 x.player) ∧ w'.cell? ⟨L, 8, none⟩ = some cv ∧ w'.frozen? ⟨L, 8, none⟩ = false)) 11 (by kernel_rfl) ?_ (fun hD0 => ?_)
  · (try dsimp only); first | assumption | exact hSof _ (gr_trans hD0.1 (World.grownBy_alloc _ _ _)) | exact hSof _ (World.grownBy.refl _ _) | exact hSof _ hD0.1 | exact hSof _ (gr_drew _ _)
  refine takeT (v := ?_) 0 rfl (by kernel_rfl) (by kernel_rfl) (by kernel_rfl) (by kernel_rfl) (fun _ _ _ h => hp _ _ _ _ _ h) (Or.inl ⟨by rfl, ?_⟩) (by assumption) ?_; rotate_left
  · (intro w hSw; (try dsimp only at hSw); go_simp; try with_reducible rfl)
  try simp only [Act.put, zl, z0, z1]
  refine takeT (v := ?_) 1 rfl (by kernel_rfl) (by kernel_rfl) (by kernel_rfl) (by kernel_rfl) (fun _ _ _ h => hp _ _ _ _ _ h) (Or.inl ⟨by rfl, ?_⟩) (by assumption) ?_; rotate_left
  · (intro w hSw; (try dsimp only at hSw); go_simp; try with_reducible rfl)
  try simp only [Act.put, zl, z0, z1]
  refine takeT (v := ?_) 2 rfl (by kernel_rfl) (by kernel_rfl) (by kernel_rfl) (by kernel_rfl) (fun _ _ _ h => hp _ _ _ _ _ h) (Or.inl ⟨by rfl, ?_⟩) (by assumption) ?_; rotate_left
  · (intro w hSw; (try dsimp only at hSw); go_simp; try with_reducible rfl)
  try simp only [Act.put, zl, z0, z1]
  refine takeT (v := ?_) 3 rfl (by kernel_rfl) (by kernel_rfl) (by kernel_rfl) (by kernel_rfl) (fun _ _ _ h => hp _ _ _ _ _ h) (Or.inl ⟨by rfl, ?_⟩) (by assumption) ?_; rotate_left
  · (intro w hSw; (try dsimp only at hSw); go_simp; try with_reducible rfl)
  try simp only [Act.put, zl, z0, z1]
  refine takeT (v := ?_) 4 rfl (by kernel_rfl) (by kernel_rfl) (by kernel_rfl) (by kernel_rfl) (fun _ _ _ h => hp _ _ _ _ _ h) (Or.inl ⟨by rfl, ?_⟩) (by assumption) ?_; rotate_left
  · (intro w hSw; (try dsimp only at hSw); go_simp; try with_reducible rfl)
  try simp only [Act.put, zl, z0, z1]
  refine takeT (v := ?_) 5 rfl (by kernel_rfl) (by kernel_rfl) (by kernel_rfl) (by kernel_rfl) (fun _ _ _ h => hp _ _ _ _ _ h) (Or.inl ⟨by rfl, ?_⟩) (by assumption) ?_; rotate_left
  · (intro w hSw; (try dsimp only at hSw); go_simp; try with_reducible rfl)
  try simp only [Act.put, zl, z0, z1]
  refine takeT (v := ?_) 6 rfl (by kernel_rfl) (by kernel_rfl) (by kernel_rfl) (by kernel_rfl) (fun _ _ _ h => hp _ _ _ _ _ h) (Or.inl ⟨by rfl, ?_⟩) (by assumption) ?_; rotate_left
  · (intro w hSw; (try dsimp only at hSw); go_simp; try with_reducible rfl)
  try simp only [Act.put, zl, z0, z1]
  refine wpAnyT_ready (rs := [7]) (by kernel_rfl) (by simp) ?_; refine consT 7 rfl (fun K hK => ?_) AllReadyT.nil
  (go_simp; (first | refine cap_alloc (K := K) (O := (.cells #[.int .i64 x.player] 3 (0, 0))) (fun hG hb hle => ?_) | refine cap_allocD (K := K) (O := (.cells #[.int .i64 x.player] 3 (0, 0))) (fun hG hb hle => ?_)); (try simp only [World.size_alloc, drew_size] at hG); have H6 := hide hG; replace HO := hide (HO.out.alloc (.cells #[.int .i64 x.player] 3 (0, 0))); clear hG hle hb)
  refine hK.out _ _ ?_ (fun hD1 => ?_)
  · (try dsimp only); first | assumption | exact hSof _ (gr_trans hD0.1 (World.grownBy_alloc _ _ _)) | exact hSof _ (World.grownBy.refl _ _) | exact hSof _ hD0.1 | exact hSof _ (gr_drew _ _)
  clear hK K hD0; try simp only [Act.put, zl, z0, z1]
  refine wpAnyT_ready (rs := [8]) (by kernel_rfl) (by simp) ?_; refine consT 8 rfl (fun K hK => ?_) AllReadyT.nil
  (refine step_app_loc rfl (.tmp 85) (.tmp 88) rfl base cv s.cards s.cards.length rfl HO.out _ x.player rfl H6.out (by have := HML.out; omega) (by have := HBS.out; have := hD1.1.size; omega) (s.cards ++ [x.player]).length (by simp) ?_; intro A2 c2 w9 hown2 hgrow hloc; have hSn := hSof _ (gr_trans hD1.1 hgrow); have HO2 := hide hown2; have HLC := hide hloc; have HQ := hide (hD1.1.size); clear hown2 hgrow hloc; (try dsimp only at hSn))
  refine hK.out _ _ ?_ (fun hD2 => ?_)
  · (try dsimp only); first | assumption | exact hSof _ (gr_trans hD1.1 (World.grownBy_alloc _ _ _)) | exact hSof _ (World.grownBy.refl _ _) | exact hSof _ hD1.1 | exact hSof _ (gr_drew _ _)
  clear hK K hD1; try simp only [Act.put, zl, z0, z1]
  refine wpAnyT_ready (rs := [9]) (by kernel_rfl) (by simp) ?_; refine consT 9 rfl (fun K hK => ?_) AllReadyT.nil; go_simp
  refine hK.out _ _ ?_ (fun hD3 => ?_)
  · (try dsimp only); first | exact hD2 | (first | assumption | exact hSof _ (gr_trans «H».1 (World.grownBy_alloc _ _ _)) | exact hSof _ (World.grownBy.refl _ _) | exact hSof _ «H».1 | exact hSof _ (gr_drew _ _))
  clear hK K hD2; try simp only [Act.put, zl, z0, z1]
  refine takeT (v := ?_) 10 rfl (by kernel_rfl) (by kernel_rfl) (by kernel_rfl) (by kernel_rfl) (fun _ _ _ h => hp _ _ _ _ _ h) (Or.inl ⟨by rfl, ?_⟩) (by assumption) ?_; rotate_left
  · (intro w hSw; (try dsimp only at hSw); go_simp; try with_reducible rfl)
  try simp only [Act.put, zl, z0, z1]
  refine wpAnyT_ready (rs := [11]) (by kernel_rfl) (by simp) ?_
  refine lastT rfl (fun K hK => ?_)
  (try dsimp only at hD3)
  go_simp
  refine hK.out _ _ ?_
  clear hK K
  try simp only [Act.put, zl, z0, z1]
  refine wpAnyT_done (by kernel_rfl) ?_ _
  (try dsimp only [Act.put, List.getElem_toArray, List.getElem_cons_succ, List.getElem_cons_zero])
  (try simp only [zl, z0, z1])
  have hG9 := hSn.1
  have HO3 : w9.ownsRow base 3 1 (.slice A2 (s.cards.length + 1) c2) (s.cards ++ [x.player]).length (flatI (s.cards ++ [x.player])) := by
    have := HO2.out
    rw [List.length_append] at this ⊢
    exact this
  have hLC : ∀ g, (Value.slice A2 (s.cards.length + 1) c2).ownBlock = some g → cv.ownBlock = some g ∨ W1.heap.size ≤ g := fun g hg => (HLC.out g (by rw [List.length_append]; exact hg)).imp id (fun h => Nat.le_trans HQ.out h)
  exact hK _ _ _ _ _ _ _ _ _ _ _ _ _ (hide (HH.out.setCards hG9 HO3 hLC)) (hide (fun b hb h1 h2 => (Below.heap_setCell w9 ⟨L, 8, none⟩ _ b h1).trans (hG9.block b hb h2))) (hide ((grown_below hG9 HBS.out (fun g hg => (HH.out.cards.lt g hg).1)).setCell HH.out.lowL _)) (hide hLC)

end Go.Proofs.YtobjahlmjcnfoaaGreat

namespace Go.Proofs.YtobjahlmjcnfoaaGreat
open Go.RowKit Go.Sort
attribute [local go_sem ↓] Go.wp_at_zero Go.wp_at_succ

set_option maxRecDepth 100000 in
set_option maxHeartbeats 64000000 in
theorem take9 {K : Act → World → Prop} {Q : Exit → Act → World → Prop} (hp : ∀ c a d v w, Q (.panic c) (Act.put a d v) w → Q (.panic c) a w) (base bx L B n g m cc : Nat) (cA : Option Addr) (s : E.St) (mv : Value) (x : E.Nt) (p : E.Pl) (d : Bool) (W1 : World) (hbx : W1.heap[bx]? = some (.cells #[.int .i64 x.id, .int .i64 x.hour, .int .i64 x.kind, .int .i64 x.player, .int .i64 x.rank] 70 (0, 0))) (h : LAt W1 base L B n s mv (.slice cA m cc)) (hg : W1.heap[g]? = some (.cells #[.bool p.ent, .bool p.grd, .bool p.card, .bool p.quit, .bool p.sgn, .int .i64 p.rank, .int .i64 p.turn] 79 (0, 0))) (hd : d = (!(E.late s.f x.hour) && !p.card && !p.quit && decide ((m : Int) < s.f.wilds))) (f1 f2 f5 f6 f7 f8 f9 f10 f11 f12 f13 f14 f15 f16 f17 f18 f19 f20 f21 f22 f23 f24 f25 f26 f27 f28 f29 f30 f31 f32 f33 f34 f35 f36 f37 f38 f39 f40 f41 f42 f43 f44 f45 f46 f47 f48 f49 f50 f51 f52 f53 f54 f55 f56 f57 f58 f59 f60 f61 f62 f63 f64 f65 f66 f67 f68 f69 f70 f71 f72 f73 f74 f75 f76 f77 f78 f79 f80 f81 f82 f83 f84 f85 f86 f87 f88 f89 f90 f91 f92 f93 f94 f95 f96 f97 f98 f99 f100 f101 f102 f103 f104 f105 f106 f107 f108 f109 f110 f111 f112 f113 f114 f115 f116 f117 f118 f119 f120 f121 f122 f123 f124 f125 f126 f127 f128 f129 f130 f131 f132 f133 f134 f135 f136 f137 f138 f139 f140 f141 : Value)
    (hK : ∀ (u52 u53 u54 u55 u56 u57 u58 u59 u60 u61 u62 u63 u64 u65 u66 u67 u68 u69 u70 u71 u72 u73 u74 u75 u76 u77 u78 : Value) (W2 : World), Hid (Below W1.heap.size W1 W2) → K ⟨#[.pointer (some ⟨L, 0, none⟩), f1, f2, .pointer (some ⟨bx, 0, none⟩), .pointer (some ⟨g, 0, none⟩), f5, f6, f7, f8, f9, f10, f11, f12, f13, f14, f15, f16, f17, f18, f19, f20, f21, f22, f23, f24, f25, f26, f27, f28, f29, f30, f31, f32, f33, f34, f35, f36, f37, f38, f39, f40, f41, f42, f43, f44, f45, f46, f47, f48, f49, f50, f51, u52, u53, u54, u55, u56, u57, u58, u59, u60, u61, u62, u63, u64, u65, u66, u67, u68, u69, u70, u71, u72, u73, u74, u75, u76, u77, u78, .bool d, f80, f81, f82, f83, f84, f85, f86, f87, f88, f89, f90, f91, f92, f93, f94, f95, f96, f97, f98, f99, f100, f101, f102, f103, f104, f105, f106, f107, f108, f109, f110, f111, f112, f113, f114, f115, f116, f117, f118, f119, f120, f121, f122, f123, f124, f125, f126, f127, f128, f129, f130, f131, f132, f133, f134, f135, f136, f137, f138, f139, f140, f141], []⟩ W2) :
    Code.wp Tryz.prog (takeReg 9) (Exit.then K Q) ⟨#[.pointer (some ⟨L, 0, none⟩), f1, f2, .pointer (some ⟨bx, 0, none⟩), .pointer (some ⟨g, 0, none⟩), f5, f6, f7, f8, f9, f10, f11, f12, f13, f14, f15, f16, f17, f18, f19, f20, f21, f22, f23, f24, f25, f26, f27, f28, f29, f30, f31, f32, f33, f34, f35, f36, f37, f38, f39, f40, f41, f42, f43, f44, f45, f46, f47, f48, f49, f50, f51, f52, f53, f54, f55, f56, f57, f58, f59, f60, f61, f62, f63, f64, f65, f66, f67, f68, f69, f70, f71, f72, f73, f74, f75, f76, f77, f78, f79, f80, f81, f82, f83, f84, f85, f86, f87, f88, f89, f90, f91, f92, f93, f94, f95, f96, f97, f98, f99, f100, f101, f102, f103, f104, f105, f106, f107, f108, f109, f110, f111, f112, f113, f114, f115, f116, f117, f118, f119, f120, f121, f122, f123, f124, f125, f126, f127, f128, f129, f130, f131, f132, f133, f134, f135, f136, f137, f138, f139, f140, f141], []⟩ W1 := by
  conv => arg 2; whnf
  have e1 := (blk_cell hbx 1).trans rfl
  have e2 : W1.cell? ⟨L, 4, none⟩ = some (.int .i64 s.f.freeze) := (h.c 4).trans rfl
  have e3 := (blk_cell hg 2).trans rfl
  have e4 := (blk_cell hg 3).trans rfl
  have e5 := (h.c 1).trans rfl
  have e6 := (h.c 8).trans rfl
  clear hbx hg h
  have HB := hide (zbD (zbR W1.heap.size W1))
  obtain ⟨V, hV⟩ : ∃ V, W1.drew = V := ⟨_, rfl⟩
  refine wp_region_still_lit (by kernel_rfl) (by kernel_rfl) ?_
  change wpStill _ _ W1.drew (fun a' => Exit.then K Q Exit.normal a' W1.drew) _ _
  have e1' : W1.drew.cell? ⟨bx, 1, none⟩ = some (.int .i64 x.hour) := e1
  have HC := hide (show Calls Tryz.prog 50 #[.pointer (some ⟨L, 0, none⟩), .int .i64 x.hour] W1.drew fun e w' => e = .returned (.bool (E.late s.f x.hour)) ∧ w' = W1.drew from (late_any s.f L x.hour W1.drew e2).mono (fun e w h => ⟨h.1, h.2.symm⟩))
  have e3' : W1.drew.cell? ⟨g, 2, none⟩ = some (.bool p.card) := e3
  have e4' : W1.drew.cell? ⟨g, 3, none⟩ = some (.bool p.quit) := e4
  have e5' : W1.drew.cell? ⟨L, 1, none⟩ = some (.int .i64 s.f.wilds) := e5
  have e6' : W1.drew.cell? ⟨L, 8, none⟩ = some (.slice cA m cc) := e6
  clear e1 e2 e3 e4 e5 e6
  rw [hV] at e1' e3' e4' e5' e6' HB HC ⊢
  clear hV
  obtain ⟨pc, pq, lt, hx1, hx2, hx3⟩ : ∃ a b c, p.card = a ∧ p.quit = b ∧ E.late s.f x.hour = c := ⟨_, _, _, rfl, rfl, rfl⟩
  rw [hx1] at e3'
  rw [hx2] at e4'
  rw [hx3] at HC
  have fin : ∀ b : Bool, (!(E.late s.f x.hour) && !p.card && !p.quit && decide ((m : Int) < s.f.wilds)) = b → d = b := fun b hb => hd.trans hb
  rw [hx1, hx2, hx3] at fin
  clear hd hx1 hx2 hx3
  cases lt
  · cases pc
    · cases pq
      · cases h4 : decide ((m : Int) < s.f.wilds)
        · rw [h4] at fin
          obtain rfl := fin false rfl
          clear fin
          iterate 3 (with_reducible refine stTake (v := ?_) (by kernel_rfl) ?_ ?_; rotate_left; (focus (go_simp; (try with_reducible rfl))); (try simp only [Act.put, zl, z0, z1]))
          refine stCall (v := .bool false) (f := 50) (args := #[.pointer (some ⟨L, 0, none⟩), .int .i64 x.hour]) (by kernel_rfl) (by go_simp) HC.out ?_
          (try simp only [Act.put, zl, z0, z1])
          iterate 22 (with_reducible refine stTake (v := ?_) (by kernel_rfl) ?_ ?_; rotate_left; (focus (go_simp; (try with_reducible rfl))); (try simp only [Act.put, zl, z0, z1]))
          with_reducible refine stTake (v := ?_) (by kernel_rfl) ?_ ?_; rotate_left
          · (go_simp; (try simp only [h4]); (try with_reducible rfl))
          (try simp only [Act.put, zl, z0, z1])
          with_reducible refine stTake (v := ?_) (by kernel_rfl) ?_ ?_; rotate_left; (focus (go_simp; (try with_reducible rfl))); (try simp only [Act.put, zl, z0, z1])
          refine wpStill_nil ?_
          exact hK _ _ _ _ _ _ _ _ _ _ _ _ _ _ _ _ _ _ _ _ _ _ _ _ _ _ _ _ HB
        · rw [h4] at fin
          obtain rfl := fin true rfl
          clear fin
          iterate 3 (with_reducible refine stTake (v := ?_) (by kernel_rfl) ?_ ?_; rotate_left; (focus (go_simp; (try with_reducible rfl))); (try simp only [Act.put, zl, z0, z1]))
          refine stCall (v := .bool false) (f := 50) (args := #[.pointer (some ⟨L, 0, none⟩), .int .i64 x.hour]) (by kernel_rfl) (by go_simp) HC.out ?_
          (try simp only [Act.put, zl, z0, z1])
          iterate 22 (with_reducible refine stTake (v := ?_) (by kernel_rfl) ?_ ?_; rotate_left; (focus (go_simp; (try with_reducible rfl))); (try simp only [Act.put, zl, z0, z1]))
          with_reducible refine stTake (v := ?_) (by kernel_rfl) ?_ ?_; rotate_left
          · (go_simp; (try simp only [h4]); (try with_reducible rfl))
          (try simp only [Act.put, zl, z0, z1])
          with_reducible refine stTake (v := ?_) (by kernel_rfl) ?_ ?_; rotate_left; (focus (go_simp; (try with_reducible rfl))); (try simp only [Act.put, zl, z0, z1])
          refine wpStill_nil ?_
          exact hK _ _ _ _ _ _ _ _ _ _ _ _ _ _ _ _ _ _ _ _ _ _ _ _ _ _ _ _ HB
      · obtain rfl := fin false rfl
        clear fin
        iterate 3 (with_reducible refine stTake (v := ?_) (by kernel_rfl) ?_ ?_; rotate_left; (focus (go_simp; (try with_reducible rfl))); (try simp only [Act.put, zl, z0, z1]))
        refine stCall (v := .bool false) (f := 50) (args := #[.pointer (some ⟨L, 0, none⟩), .int .i64 x.hour]) (by kernel_rfl) (by go_simp) HC.out ?_
        (try simp only [Act.put, zl, z0, z1])
        iterate 12 (with_reducible refine stTake (v := ?_) (by kernel_rfl) ?_ ?_; rotate_left; (focus (go_simp; (try with_reducible rfl))); (try simp only [Act.put, zl, z0, z1]))
        iterate 11 (with_reducible refine stSkip (by kernel_rfl) ?_; (try simp only [Act.put, zl, z0, z1]))
        with_reducible refine stTake (v := ?_) (by kernel_rfl) ?_ ?_; rotate_left; (focus (go_simp; (try with_reducible rfl))); (try simp only [Act.put, zl, z0, z1])
        refine wpStill_nil ?_
        exact hK _ _ _ _ _ _ _ _ _ _ _ _ _ _ _ _ _ _ _ _ _ _ _ _ _ _ _ _ HB
    · obtain rfl := fin false rfl
      clear fin
      iterate 3 (with_reducible refine stTake (v := ?_) (by kernel_rfl) ?_ ?_; rotate_left; (focus (go_simp; (try with_reducible rfl))); (try simp only [Act.put, zl, z0, z1]))
      refine stCall (v := .bool false) (f := 50) (args := #[.pointer (some ⟨L, 0, none⟩), .int .i64 x.hour]) (by kernel_rfl) (by go_simp) HC.out ?_
      (try simp only [Act.put, zl, z0, z1])
      iterate 7 (with_reducible refine stTake (v := ?_) (by kernel_rfl) ?_ ?_; rotate_left; (focus (go_simp; (try with_reducible rfl))); (try simp only [Act.put, zl, z0, z1]))
      iterate 3 (with_reducible refine stSkip (by kernel_rfl) ?_; (try simp only [Act.put, zl, z0, z1]))
      iterate 2 (with_reducible refine stTake (v := ?_) (by kernel_rfl) ?_ ?_; rotate_left; (focus (go_simp; (try with_reducible rfl))); (try simp only [Act.put, zl, z0, z1]))
      iterate 11 (with_reducible refine stSkip (by kernel_rfl) ?_; (try simp only [Act.put, zl, z0, z1]))
      with_reducible refine stTake (v := ?_) (by kernel_rfl) ?_ ?_; rotate_left; (focus (go_simp; (try with_reducible rfl))); (try simp only [Act.put, zl, z0, z1])
      refine wpStill_nil ?_
      exact hK _ _ _ _ _ _ _ _ _ _ _ _ _ _ _ _ _ _ _ _ _ _ _ _ _ _ _ _ HB
  · obtain rfl := fin false rfl
    clear fin
    iterate 3 (with_reducible refine stTake (v := ?_) (by kernel_rfl) ?_ ?_; rotate_left; (focus (go_simp; (try with_reducible rfl))); (try simp only [Act.put, zl, z0, z1]))
    refine stCall (v := .bool true) (f := 50) (args := #[.pointer (some ⟨L, 0, none⟩), .int .i64 x.hour]) (by kernel_rfl) (by go_simp) HC.out ?_
    (try simp only [Act.put, zl, z0, z1])
    iterate 2 (with_reducible refine stTake (v := ?_) (by kernel_rfl) ?_ ?_; rotate_left; (focus (go_simp; (try with_reducible rfl))); (try simp only [Act.put, zl, z0, z1]))
    iterate 3 (with_reducible refine stSkip (by kernel_rfl) ?_; (try simp only [Act.put, zl, z0, z1]))
    iterate 2 (with_reducible refine stTake (v := ?_) (by kernel_rfl) ?_ ?_; rotate_left; (focus (go_simp; (try with_reducible rfl))); (try simp only [Act.put, zl, z0, z1]))
    iterate 3 (with_reducible refine stSkip (by kernel_rfl) ?_; (try simp only [Act.put, zl, z0, z1]))
    iterate 2 (with_reducible refine stTake (v := ?_) (by kernel_rfl) ?_ ?_; rotate_left; (focus (go_simp; (try with_reducible rfl))); (try simp only [Act.put, zl, z0, z1]))
    iterate 11 (with_reducible refine stSkip (by kernel_rfl) ?_; (try simp only [Act.put, zl, z0, z1]))
    with_reducible refine stTake (v := ?_) (by kernel_rfl) ?_ ?_; rotate_left; (focus (go_simp; (try with_reducible rfl))); (try simp only [Act.put, zl, z0, z1])
    refine wpStill_nil ?_
    exact hK _ _ _ _ _ _ _ _ _ _ _ _ _ _ _ _ _ _ _ _ _ _ _ _ _ _ _ _ HB

set_option maxRecDepth 100000 in
set_option maxHeartbeats 64000000 in
theorem take19 {K : Act → World → Prop} {Q : Exit → Act → World → Prop} (hp : ∀ c a d v w, Q (.panic c) (Act.put a d v) w → Q (.panic c) a w) (base bx L B n g : Nat) (s : E.St) (mv cv : Value) (x : E.Nt) (p : E.Pl) (W1 : World) (hbx : W1.heap[bx]? = some (.cells #[.int .i64 x.id, .int .i64 x.hour, .int .i64 x.kind, .int .i64 x.player, .int .i64 x.rank] 70 (0, 0))) (h : LAt W1 base L B n s mv cv) (hg : W1.heap[g]? = some (.cells #[.bool p.ent, .bool p.grd, .bool p.card, .bool p.quit, .bool p.sgn, .int .i64 p.rank, .int .i64 p.turn] 79 (0, 0))) (hn : n ≤ 900) (hx0 : 0 ≤ x.player) (hx1 : x.player ≤ 999) (f1 f2 f5 f6 f7 f8 f9 f10 f11 f12 f13 f14 f15 f16 f17 f18 f19 f20 f21 f22 f23 f24 f25 f26 f27 f28 f29 f30 f31 f32 f33 f34 f35 f36 f37 f38 f39 f40 f41 f42 f43 f44 f45 f46 f47 f48 f49 f50 f51 f52 f53 f54 f55 f56 f57 f58 f59 f60 f61 f62 f63 f64 f65 f66 f67 f68 f69 f70 f71 f72 f73 f74 f75 f76 f77 f78 f79 f80 f81 f82 f83 f84 f85 f86 f87 f88 f89 f90 f91 f92 f93 f94 f95 f96 f97 f98 f99 f100 f101 f102 f103 f104 f105 f106 f107 f108 f109 f110 f111 f112 f113 f114 f115 f116 f117 f118 f119 f120 f121 f122 f123 f124 f125 f126 f127 f128 f129 f130 f131 f132 f133 f134 f135 f136 f137 f138 f139 f140 f141 : Value)
    (hK : ∀ (u129 u130 u131 u132 u133 u134 u135 : Value) (W2 : World), Hid (LAt W2 base L B (n + 1) (s.put x.player p) mv cv) → Hid (W1.grownBy W2 (some B)) → K ⟨#[.pointer (some ⟨L, 0, none⟩), f1, f2, .pointer (some ⟨bx, 0, none⟩), .pointer (some ⟨g, 0, none⟩), f5, f6, f7, f8, f9, f10, f11, f12, f13, f14, f15, f16, f17, f18, f19, f20, f21, f22, f23, f24, f25, f26, f27, f28, f29, f30, f31, f32, f33, f34, f35, f36, f37, f38, f39, f40, f41, f42, f43, f44, f45, f46, f47, f48, f49, f50, f51, f52, f53, f54, f55, f56, f57, f58, f59, f60, f61, f62, f63, f64, f65, f66, f67, f68, f69, f70, f71, f72, f73, f74, f75, f76, f77, f78, f79, f80, f81, f82, f83, f84, f85, f86, f87, f88, f89, f90, f91, f92, f93, f94, f95, f96, f97, f98, f99, f100, f101, f102, f103, f104, f105, f106, f107, f108, f109, f110, f111, f112, f113, f114, f115, f116, f117, f118, f119, f120, f121, f122, f123, f124, f125, f126, f127, f128, u129, u130, u131, u132, u133, u134, u135, f136, f137, f138, f139, f140, f141], []⟩ W2) :
    Code.wp Tryz.prog (takeReg 19) (Exit.then K Q) ⟨#[.pointer (some ⟨L, 0, none⟩), f1, f2, .pointer (some ⟨bx, 0, none⟩), .pointer (some ⟨g, 0, none⟩), f5, f6, f7, f8, f9, f10, f11, f12, f13, f14, f15, f16, f17, f18, f19, f20, f21, f22, f23, f24, f25, f26, f27, f28, f29, f30, f31, f32, f33, f34, f35, f36, f37, f38, f39, f40, f41, f42, f43, f44, f45, f46, f47, f48, f49, f50, f51, f52, f53, f54, f55, f56, f57, f58, f59, f60, f61, f62, f63, f64, f65, f66, f67, f68, f69, f70, f71, f72, f73, f74, f75, f76, f77, f78, f79, f80, f81, f82, f83, f84, f85, f86, f87, f88, f89, f90, f91, f92, f93, f94, f95, f96, f97, f98, f99, f100, f101, f102, f103, f104, f105, f106, f107, f108, f109, f110, f111, f112, f113, f114, f115, f116, f117, f118, f119, f120, f121, f122, f123, f124, f125, f126, f127, f128, f129, f130, f131, f132, f133, f134, f135, f136, f137, f138, f139, f140, f141], []⟩ W1 := by
  conv => arg 2; whnf
  obtain ⟨V, hV⟩ : ∃ V, W1.drew = V := ⟨_, rfl⟩
  have hgV : W1.grownBy W1.drew (some B) := gr_drew _ _
  have hMV := h.map.below (zbD (zbR W1.heap.size W1))
  have e1 : W1.drew.cell? ⟨L, 5, none⟩ = some (.map (some B)) := (h.c 5).trans rfl
  have e2 : W1.drew.cell? ⟨bx, 3, none⟩ = some (.int .i64 x.player) := (blk_cell hbx 3).trans rfl
  have e30 : W1.drew.cell? ⟨g, 0, none⟩ = some (.bool p.ent) := (blk_cell hg 0).trans rfl
  have e31 : W1.drew.cell? ⟨g, 1, none⟩ = some (.bool p.grd) := (blk_cell hg 1).trans rfl
  have e32 : W1.drew.cell? ⟨g, 2, none⟩ = some (.bool p.card) := (blk_cell hg 2).trans rfl
  have e33 : W1.drew.cell? ⟨g, 3, none⟩ = some (.bool p.quit) := (blk_cell hg 3).trans rfl
  have e34 : W1.drew.cell? ⟨g, 4, none⟩ = some (.bool p.sgn) := (blk_cell hg 4).trans rfl
  have e35 : W1.drew.cell? ⟨g, 5, none⟩ = some (.int .i64 p.rank) := (blk_cell hg 5).trans rfl
  have e36 : W1.drew.cell? ⟨g, 6, none⟩ = some (.int .i64 p.turn) := (blk_cell hg 6).trans rfl
  refine wp_region_still_tail 7 (by kernel_rfl) (by kernel_rfl) ?_
  simp only [List.take_succ_cons, List.take_zero, List.drop_succ_cons, List.drop_zero]
  change wpStill _ _ W1.drew (fun a' => wpList _ _ _ _ a' W1.drew) _ _
  rw [hV] at e1 e2 e30 e31 e32 e33 e34 e35 e36 hgV hMV ⊢
  clear hV
  obtain ⟨W2, hrun, hM2, hg2⟩ := hMV.store Tryz.underlying80 (by omega) hx0 hx1 p
  have hrun2 : (Instr.mapUpdate 80 (.map (some B)) (.int .i64 x.player) (.agg #[.bool p.ent, .bool p.grd, .bool p.card, .bool p.quit, .bool p.sgn, .int .i64 p.rank, .int .i64 p.turn])).run Tryz.prog V = .ok () W2 := hrun
  have HP := hide (h.put hM2 (gr_trans hgV hg2))
  have HG2 := hide (gr_trans hgV hg2)
  clear h hbx hg hgV hMV hrun hM2 hg2
  (repeat still_step)
  refine wpStill_nil ?_
  go_wp2
  exact hK _ _ _ _ _ _ _ _ HP HG2

end Go.Proofs.YtobjahlmjcnfoaaGreat

namespace Go.Proofs.YtobjahlmjcnfoaaGreat
open Go.RowKit Go.Sort
attribute [local go_sem ↓] Go.wp_at_zero Go.wp_at_succ

set_option maxRecDepth 100000 in
set_option maxHeartbeats 64000000 in
theorem set1 {K : Act → World → Prop} {Q : Exit → Act → World → Prop} (hp : ∀ c a d v w, Q (.panic c) (Act.put a d v) w → Q (.panic c) a w) (base bl bt L B n m mc : Nat) (mA : Option Addr) (s : E.St) (cv : Value) (lt : Bool) (W1 : World) (hbl : W1.heap[bl]? = some (.cells #[.pointer (some ⟨L, 0, none⟩)] 47 (0, 0))) (hbt : W1.heap[bt]? = some (.cells #[.bool lt] 4 (0, 0))) (h : LAt W1 base L B n s (.slice mA m mc) cv) (ok : E.StOk s) (hbase : base ≤ W1.heap.size) (hml : m ≤ 900) (f0 f1 f4 f5 f6 f7 f8 f9 f10 f11 f12 f13 f14 f15 f16 f17 f18 f19 f20 f21 f22 f23 f24 f25 f26 f27 f28 f29 f30 f31 f32 f33 f34 f35 f36 f37 f38 f39 f40 f41 f42 f43 f44 f45 f46 f47 f48 f49 f50 f51 f52 f53 f54 f55 f56 f57 f58 f59 f60 f61 f62 f63 f64 f65 f66 f67 f68 f69 f70 f71 f72 f73 f74 f75 f76 f77 f78 f79 f80 f81 f82 f83 f84 f85 f86 f87 f88 f89 f90 f91 f92 f93 f94 f95 f96 f97 f98 f99 f100 : Value)
    (hK : ∀ (u10 u11 u12 u13 u14 u15 u16 u17 u18 : Value) (mv' : Value) (W2 : World), Hid (LAt W2 base L B n { s with main := s.main.filter (fun k => lt && (s.pl k).entry) } mv' cv) → Hid (∀ b, b < W1.heap.size → b ≠ L → some b ≠ (Value.slice mA m mc).ownBlock → W2.heap[b]? = W1.heap[b]?) → Hid (Below base W1 W2) → Hid (mv'.ownBlock = (Value.slice mA m mc).ownBlock) → K ⟨#[f0, f1, .pointer (some ⟨bl, 0, none⟩), .pointer (some ⟨bt, 0, none⟩), f4, f5, f6, f7, f8, f9, u10, u11, u12, u13, u14, u15, u16, u17, u18, f19, f20, f21, f22, f23, f24, f25, f26, f27, f28, f29, f30, f31, f32, f33, f34, f35, f36, f37, f38, f39, f40, f41, f42, f43, f44, f45, f46, f47, f48, f49, f50, f51, f52, f53, f54, f55, f56, f57, f58, f59, f60, f61, f62, f63, f64, f65, f66, f67, f68, f69, f70, f71, f72, f73, f74, f75, f76, f77, f78, f79, f80, f81, f82, f83, f84, f85, f86, f87, f88, f89, f90, f91, f92, f93, f94, f95, f96, f97, f98, f99, f100], []⟩ W2) :
    Code.wp Tryz.prog (setReg 1) (Exit.then K Q) ⟨#[f0, f1, .pointer (some ⟨bl, 0, none⟩), .pointer (some ⟨bt, 0, none⟩), f4, f5, f6, f7, f8, f9, f10, f11, f12, f13, f14, f15, f16, f17, f18, f19, f20, f21, f22, f23, f24, f25, f26, f27, f28, f29, f30, f31, f32, f33, f34, f35, f36, f37, f38, f39, f40, f41, f42, f43, f44, f45, f46, f47, f48, f49, f50, f51, f52, f53, f54, f55, f56, f57, f58, f59, f60, f61, f62, f63, f64, f65, f66, f67, f68, f69, f70, f71, f72, f73, f74, f75, f76, f77, f78, f79, f80, f81, f82, f83, f84, f85, f86, f87, f88, f89, f90, f91, f92, f93, f94, f95, f96, f97, f98, f99, f100], []⟩ W1 := by
  conv => arg 2; whnf
  have hm0 : m = s.main.length := own_len h.main
  subst hm0
  have hSof : ∀ v, W1.grownBy v (Value.slice mA s.main.length mc).ownBlock → (fun w' => W1.grownBy w' (Value.slice mA s.main.length mc).ownBlock ∧ w'.cell? ⟨bl, 0, none⟩ = some (.pointer (some ⟨L, 0, none⟩)) ∧ w'.cell? ⟨L, 7, none⟩ = some (.slice mA s.main.length mc) ∧ w'.frozen? ⟨L, 7, none⟩ = false) v := by
    intro v hg
    have e1 := gr_cell hg (blk_lt hbl) (fun e => row_ne h.main hbl (by decide) e.symm) 0
    have hL := (hg.block L h.lt (fun e => h.mainL e.symm)).trans h.blk
    exact ⟨hg, e1.trans ((blk_cell hbl 0).trans rfl), (blk_cell hL 7).trans rfl, blk_frozen hL 7⟩
  have hS : (fun w' => W1.grownBy w' (Value.slice mA s.main.length mc).ownBlock ∧ w'.cell? ⟨bl, 0, none⟩ = some (.pointer (some ⟨L, 0, none⟩)) ∧ w'.cell? ⟨L, 7, none⟩ = some (.slice mA s.main.length mc) ∧ w'.frozen? ⟨L, 7, none⟩ = false) W1 := hSof _ (World.grownBy.refl _ _)
  (try dsimp only at hS)
  have eg : ∀ args w, (callFunc 71 args).run Tryz.prog w = .ok (.enter 71 args) w := enters_of Tryz.func71 (by kernel_rfl) rfl
  have hdel : ∀ V, V.ownsRow base 3 1 (.slice mA s.main.length mc) s.main.length (flatI s.main) → W1.grownBy V (Value.slice mA s.main.length mc).ownBlock → Calls Tryz.prog 51 #[.slice mA s.main.length mc, .func (.func 71) #[] #[.pointer (some ⟨bt, 0, none⟩), .pointer (some ⟨bl, 0, none⟩)]] V fun e w' => e = .returned (.slice mA (s.main.filter fun k => lt && (s.pl k).entry).length mc) ∧ w'.ownsRow base 3 1 (.slice mA (s.main.filter fun k => lt && (s.pl k).entry).length mc) (s.main.filter fun k => lt && (s.pl k).entry).length (flatI (s.main.filter fun k => lt && (s.pl k).entry)) ∧ V.grownBy w' (Value.slice mA s.main.length mc).ownBlock := by
    intro V ho hV
    have e : (fun k => lt && (s.pl k).entry) = fun k => !(!(lt && (s.pl k).entry)) := by funext k; rw [Bool.not_not]
    rw [e]
    refine deleteFunc_any 71 #[.pointer (some ⟨bt, 0, none⟩), .pointer (some ⟨bl, 0, none⟩)] eg (fun k => !(lt && (s.pl k).entry)) (fun W => W1.grownBy W (Value.slice mA s.main.length mc).ownBlock) s.main (fun W x hx hW => ?_) base mA s.main.length mc V (fun W W' hW hg => gr_trans hW hg) ho (by omega) hV
    have hr := ok.range x (ok.main x hx)
    have hL := (hW.block L h.lt (fun e => h.mainL e.symm)).trans h.blk
    exact clSettle_any bt bl L B n s.pl (fun k => decide (k ∈ s.known)) lt x hr.1 hr.2 W ((gr_cell hW (blk_lt hbt) (fun e => row_ne h.main hbt (by decide) e.symm) 0).trans ((blk_cell hbt 0).trans rfl)) ((gr_cell hW (blk_lt hbl) (fun e => row_ne h.main hbl (by decide) e.symm) 0).trans ((blk_cell hbl 0).trans rfl)) ((blk_cell hL 5).trans rfl) (Nat.lt_of_lt_of_le (blk_lt hbt) hW.size) (Nat.lt_of_lt_of_le (blk_lt hbl) hW.size) (blk_lt hL) (h.map.kept hW (row_ne_map h.main h.map))
  have HH := hide h
  have HO := hide h.main
  have HBS := hide hbase
  clear h hbl hbt hml hbase ok eg
  refine wp_region_T_drew (S := (fun w' => W1.grownBy w' (Value.slice mA s.main.length mc).ownBlock ∧ w'.cell? ⟨bl, 0, none⟩ = some (.pointer (some ⟨L, 0, none⟩)) ∧ w'.cell? ⟨L, 7, none⟩ = some (.slice mA s.main.length mc) ∧ w'.frozen? ⟨L, 7, none⟩ = false)) 9 (by kernel_rfl) ?_ (fun hD0 => ?_)
  · (try dsimp only); first | assumption | exact hSof _ (gr_trans hD0.1 (World.grownBy_alloc _ _ _)) | exact hSof _ (gr_drew _ _)
  refine takeT (v := ?_) 0 rfl (by kernel_rfl) (by kernel_rfl) (by kernel_rfl) (by kernel_rfl) (fun _ _ _ h => hp _ _ _ _ _ h) (Or.inl ⟨by rfl, ?_⟩) (by assumption) ?_; rotate_left
  · (intro w hSw; (try dsimp only at hSw); go_simp; try with_reducible rfl)
  try simp only [Act.put, zl, z0, z1]
  refine takeT (v := ?_) 1 rfl (by kernel_rfl) (by kernel_rfl) (by kernel_rfl) (by kernel_rfl) (fun _ _ _ h => hp _ _ _ _ _ h) (Or.inl ⟨by rfl, ?_⟩) (by assumption) ?_; rotate_left
  · (intro w hSw; (try dsimp only at hSw); go_simp; try with_reducible rfl)
  try simp only [Act.put, zl, z0, z1]
  refine takeT (v := ?_) 2 rfl (by kernel_rfl) (by kernel_rfl) (by kernel_rfl) (by kernel_rfl) (fun _ _ _ h => hp _ _ _ _ _ h) (Or.inl ⟨by rfl, ?_⟩) (by assumption) ?_; rotate_left
  · (intro w hSw; (try dsimp only at hSw); go_simp; try with_reducible rfl)
  try simp only [Act.put, zl, z0, z1]
  refine takeT (v := ?_) 3 rfl (by kernel_rfl) (by kernel_rfl) (by kernel_rfl) (by kernel_rfl) (fun _ _ _ h => hp _ _ _ _ _ h) (Or.inl ⟨by rfl, ?_⟩) (by assumption) ?_; rotate_left
  · (intro w hSw; (try dsimp only at hSw); go_simp; try with_reducible rfl)
  try simp only [Act.put, zl, z0, z1]
  refine takeT (v := ?_) 4 rfl (by kernel_rfl) (by kernel_rfl) (by kernel_rfl) (by kernel_rfl) (fun _ _ _ h => hp _ _ _ _ _ h) (Or.inl ⟨by rfl, ?_⟩) (by assumption) ?_; rotate_left
  · (intro w hSw; (try dsimp only at hSw); go_simp; try with_reducible rfl)
  try simp only [Act.put, zl, z0, z1]
  refine takeT (v := ?_) 5 rfl (by kernel_rfl) (by kernel_rfl) (by kernel_rfl) (by kernel_rfl) (fun _ _ _ h => hp _ _ _ _ _ h) (Or.inl ⟨by rfl, ?_⟩) (by assumption) ?_; rotate_left
  · (intro w hSw; (try dsimp only at hSw); go_simp; try with_reducible rfl)
  try simp only [Act.put, zl, z0, z1]
  refine wpAnyT_ready (rs := [6]) (by kernel_rfl) (by simp) ?_; refine consT 6 rfl (fun K hK => ?_) AllReadyT.nil; go_simp
  ((go_at_call 51; refine (hdel _ (by exact HO.out) hD0.1).mono ?_; rintro e w9 ⟨rfl, ho9, hg9⟩; have hSn := hSof _ (gr_trans hD0.1 hg9); have HO9 := hide ho9; clear ho9 hg9; (try dsimp only at hSn)))
  refine hK.out _ _ ?_ (fun hD1 => ?_)
  · (try dsimp only); first | assumption | exact hSof _ (gr_trans hD0.1 (World.grownBy_alloc _ _ _)) | exact hSof _ (gr_drew _ _)
  clear hK K hD0; try simp only [Act.put, zl, z0, z1]
  refine wpAnyT_ready (rs := [7]) (by kernel_rfl) (by simp) ?_; refine consT 7 rfl (fun K hK => ?_) AllReadyT.nil; go_simp
  refine hK.out _ _ ?_ (fun hD2 => ?_)
  · (try dsimp only); first | exact hD1 | (first | assumption | exact hSof _ (gr_trans «H».1 (World.grownBy_alloc _ _ _)) | exact hSof _ (gr_drew _ _))
  clear hK K hD1; try simp only [Act.put, zl, z0, z1]
  refine takeT (v := ?_) 8 rfl (by kernel_rfl) (by kernel_rfl) (by kernel_rfl) (by kernel_rfl) (fun _ _ _ h => hp _ _ _ _ _ h) (Or.inl ⟨by rfl, ?_⟩) (by assumption) ?_; rotate_left
  · (intro w hSw; (try dsimp only at hSw); go_simp; try with_reducible rfl)
  try simp only [Act.put, zl, z0, z1]
  refine wpAnyT_ready (rs := [9]) (by kernel_rfl) (by simp) ?_
  refine lastT rfl (fun K hK => ?_)
  (try dsimp only at hD2)
  go_simp
  refine hK.out _ _ ?_
  clear hK K
  try simp only [Act.put, zl, z0, z1]
  refine wpAnyT_done (by kernel_rfl) ?_ _
  (try dsimp only [Act.put, List.getElem_toArray, List.getElem_cons_succ, List.getElem_cons_zero])
  (try simp only [zl, z0, z1])
  have hG9 := hSn.1
  have hlc : ∀ g, (Value.slice mA (s.main.filter fun k => lt && (s.pl k).entry).length mc).ownBlock = some g → (Value.slice mA s.main.length mc).ownBlock = some g ∨ W1.heap.size ≤ g := fun g hg => .inl (by cases mA <;> exact hg)
  exact hK _ _ _ _ _ _ _ _ _ _ _ (hide (HH.out.setMain hG9 HO9.out hlc)) (hide (fun b hb h1 h2 => (Below.heap_setCell w9 ⟨L, 7, none⟩ _ b h1).trans (hG9.block b hb h2))) (hide ((grown_below hG9 HBS.out (fun g hg => (HH.out.main.lt g hg).1)).setCell HH.out.lowL _)) (hide (by cases mA <;> rfl))

end Go.Proofs.YtobjahlmjcnfoaaGreat

namespace Go.Proofs.YtobjahlmjcnfoaaGreat
open Go.RowKit Go.Sort
attribute [local go_sem ↓] Go.wp_at_zero Go.wp_at_succ

set_option maxRecDepth 100000 in
set_option maxHeartbeats 64000000 in
theorem set12 {K : Act → World → Prop} {Q : Exit → Act → World → Prop} (hp : ∀ c a d v w, Q (.panic c) (Act.put a d v) w → Q (.panic c) a w) (base bl bt L B n m c g9 : Nat) (A : Option Addr) (s : E.St) (cv : Value) (x : E.Pl) (lt : Bool) (gd : Int) (d : Bool) (W1 : World) (hbl : W1.heap[bl]? = some (.cells #[.pointer (some ⟨L, 0, none⟩)] 47 (0, 0))) (hbt : W1.heap[bt]? = some (.cells #[.bool lt] 4 (0, 0))) (h9 : W1.heap[g9]? = some (.cells #[.bool x.ent, .bool x.grd, .bool x.card, .bool x.quit, .bool x.sgn, .int .i64 x.rank, .int .i64 x.turn] 79 (0, 0))) (h : LAt W1 base L B n s (.slice A m c) cv) (hd : d = (decide ((m : Int) < s.f.places) && (x.sgn || !lt) && (decide (gd < s.f.guards) || !x.grd))) (f0 f1 f5 f6 f7 f8 f10 f11 f12 f13 f14 f15 f16 f17 f18 f19 f20 f21 f22 f23 f24 f25 f26 f27 f28 f29 f30 f31 f32 f33 f34 f35 f36 f37 f38 f39 f40 f41 f42 f43 f44 f45 f46 f47 f48 f49 f50 f51 f52 f53 f54 f55 f56 f57 f58 f59 f60 f61 f62 f63 f64 f65 f66 f67 f68 f69 f70 f71 f72 f73 f74 f75 f76 f77 f78 f79 f80 f81 f82 f83 f84 f85 f86 f87 f88 f89 f90 f91 f92 f93 f94 f95 f96 f97 f98 f99 f100 : Value)
    (hK : ∀ (u52 u53 u54 u55 u56 u57 u58 u59 u60 u61 u62 u63 u64 u65 u66 u67 u68 u69 u70 u71 u72 u73 u74 u75 u76 u77 u78 u79 u80 u81 u82 u83 : Value) (W2 : World), Hid (Below W1.heap.size W1 W2) → K ⟨#[f0, f1, .pointer (some ⟨bl, 0, none⟩), .pointer (some ⟨bt, 0, none⟩), .int .i64 gd, f5, f6, f7, f8, .pointer (some ⟨g9, 0, none⟩), f10, f11, f12, f13, f14, f15, f16, f17, f18, f19, f20, f21, f22, f23, f24, f25, f26, f27, f28, f29, f30, f31, f32, f33, f34, f35, f36, f37, f38, f39, f40, f41, f42, f43, f44, f45, f46, f47, f48, f49, f50, f51, u52, u53, u54, u55, u56, u57, u58, u59, u60, u61, u62, u63, u64, u65, u66, u67, u68, u69, u70, u71, u72, u73, u74, u75, u76, u77, u78, u79, u80, u81, u82, u83, .bool d, f85, f86, f87, f88, f89, f90, f91, f92, f93, f94, f95, f96, f97, f98, f99, f100], []⟩ W2) :
    Code.wp Tryz.prog (setReg 12) (Exit.then K Q) ⟨#[f0, f1, .pointer (some ⟨bl, 0, none⟩), .pointer (some ⟨bt, 0, none⟩), .int .i64 gd, f5, f6, f7, f8, .pointer (some ⟨g9, 0, none⟩), f10, f11, f12, f13, f14, f15, f16, f17, f18, f19, f20, f21, f22, f23, f24, f25, f26, f27, f28, f29, f30, f31, f32, f33, f34, f35, f36, f37, f38, f39, f40, f41, f42, f43, f44, f45, f46, f47, f48, f49, f50, f51, f52, f53, f54, f55, f56, f57, f58, f59, f60, f61, f62, f63, f64, f65, f66, f67, f68, f69, f70, f71, f72, f73, f74, f75, f76, f77, f78, f79, f80, f81, f82, f83, f84, f85, f86, f87, f88, f89, f90, f91, f92, f93, f94, f95, f96, f97, f98, f99, f100], []⟩ W1 := by
  conv => arg 2; whnf
  have e1 := (blk_cell hbl 0).trans rfl
  have e2 := (blk_cell hbt 0).trans rfl
  have e3 := (blk_cell h9 4).trans rfl
  have e4 := (blk_cell h9 1).trans rfl
  have e5 := (h.c 0).trans rfl
  have e6 := (h.c 2).trans rfl
  have e7 := (h.c 7).trans rfl
  have HB := hide (zbD (zbR W1.heap.size W1))
  clear hbl hbt h9 h
  obtain ⟨V, hV⟩ : ∃ V, W1.drew = V := ⟨_, rfl⟩
  refine wp_region_still_lit (by kernel_rfl) (by kernel_rfl) ?_
  change wpStill _ _ W1.drew (fun a' => Exit.then K Q Exit.normal a' W1.drew) _ _
  have e1' : W1.drew.cell? ⟨bl, 0, none⟩ = some (.pointer (some ⟨L, 0, none⟩)) := e1
  have e2' : W1.drew.cell? ⟨bt, 0, none⟩ = some (.bool lt) := e2
  have e3' : W1.drew.cell? ⟨g9, 4, none⟩ = some (.bool x.sgn) := e3
  have e4' : W1.drew.cell? ⟨g9, 1, none⟩ = some (.bool x.grd) := e4
  have e5' : W1.drew.cell? ⟨L, 0, none⟩ = some (.int .i64 s.f.places) := e5
  have e6' : W1.drew.cell? ⟨L, 2, none⟩ = some (.int .i64 s.f.guards) := e6
  have e7' : W1.drew.cell? ⟨L, 7, none⟩ = some (.slice A m c) := e7
  clear e1 e2 e3 e4 e5 e6 e7
  rw [hV] at e1' e2' e3' e4' e5' e6' e7' HB ⊢
  clear hV
  obtain ⟨pg, pr, hx1, hx2⟩ : ∃ a b, x.sgn = a ∧ x.grd = b := ⟨_, _, rfl, rfl⟩
  rw [hx1] at e3'
  rw [hx2] at e4'
  have fin : ∀ b : Bool, (decide ((m : Int) < s.f.places) && (x.sgn || !lt) && (decide (gd < s.f.guards) || !x.grd)) = b → d = b := fun b hb => hd.trans hb
  rw [hx1, hx2] at fin
  clear hd hx1 hx2
  cases h1 : decide ((m : Int) < s.f.places)
  · obtain rfl := fin false (by rw [h1]; rfl)
    clear fin
    iterate 10 (with_reducible refine stTake (v := ?_) (by kernel_rfl) ?_ ?_; rotate_left; (focus (go_simp; (try with_reducible rfl))); (try simp only [Act.put, zl, z0, z1]))
    with_reducible refine stTake (v := ?_) (by kernel_rfl) ?_ ?_; rotate_left
    · (go_simp; (try simp only [h1]); (try with_reducible rfl))
    (try simp only [Act.put, zl, z0, z1])
    with_reducible refine stTake (v := ?_) (by kernel_rfl) ?_ ?_; rotate_left; (focus (go_simp; (try with_reducible rfl))); (try simp only [Act.put, zl, z0, z1])
    iterate 6 (with_reducible refine stSkip (by kernel_rfl) ?_; (try simp only [Act.put, zl, z0, z1]))
    iterate 2 (with_reducible refine stTake (v := ?_) (by kernel_rfl) ?_ ?_; rotate_left; (focus (go_simp; (try with_reducible rfl))); (try simp only [Act.put, zl, z0, z1]))
    iterate 12 (with_reducible refine stSkip (by kernel_rfl) ?_; (try simp only [Act.put, zl, z0, z1]))
    with_reducible refine stTake (v := ?_) (by kernel_rfl) ?_ ?_; rotate_left; (focus (go_simp; (try with_reducible rfl))); (try simp only [Act.put, zl, z0, z1])
    refine wpStill_nil ?_
    exact hK _ _ _ _ _ _ _ _ _ _ _ _ _ _ _ _ _ _ _ _ _ _ _ _ _ _ _ _ _ _ _ _ _ HB
  · rw [h1] at fin
    cases pg
    · cases lt
      · cases h2 : decide (gd < s.f.guards)
        · rw [h2] at fin
          cases pr
          · obtain rfl := fin true rfl
            clear fin
            iterate 10 (with_reducible refine stTake (v := ?_) (by kernel_rfl) ?_ ?_; rotate_left; (focus (go_simp; (try with_reducible rfl))); (try simp only [Act.put, zl, z0, z1]))
            with_reducible refine stTake (v := ?_) (by kernel_rfl) ?_ ?_; rotate_left
            · (go_simp; (try simp only [h1]); (try with_reducible rfl))
            (try simp only [Act.put, zl, z0, z1])
            iterate 15 (with_reducible refine stTake (v := ?_) (by kernel_rfl) ?_ ?_; rotate_left; (focus (go_simp; (try with_reducible rfl))); (try simp only [Act.put, zl, z0, z1]))
            with_reducible refine stTake (v := ?_) (by kernel_rfl) ?_ ?_; rotate_left
            · (go_simp; (try simp only [h2]); (try with_reducible rfl))
            (try simp only [Act.put, zl, z0, z1])
            iterate 6 (with_reducible refine stTake (v := ?_) (by kernel_rfl) ?_ ?_; rotate_left; (focus (go_simp; (try with_reducible rfl))); (try simp only [Act.put, zl, z0, z1]))
            refine wpStill_nil ?_
            exact hK _ _ _ _ _ _ _ _ _ _ _ _ _ _ _ _ _ _ _ _ _ _ _ _ _ _ _ _ _ _ _ _ _ HB
          · obtain rfl := fin false rfl
            clear fin
            iterate 10 (with_reducible refine stTake (v := ?_) (by kernel_rfl) ?_ ?_; rotate_left; (focus (go_simp; (try with_reducible rfl))); (try simp only [Act.put, zl, z0, z1]))
            with_reducible refine stTake (v := ?_) (by kernel_rfl) ?_ ?_; rotate_left
            · (go_simp; (try simp only [h1]); (try with_reducible rfl))
            (try simp only [Act.put, zl, z0, z1])
            iterate 15 (with_reducible refine stTake (v := ?_) (by kernel_rfl) ?_ ?_; rotate_left; (focus (go_simp; (try with_reducible rfl))); (try simp only [Act.put, zl, z0, z1]))
            with_reducible refine stTake (v := ?_) (by kernel_rfl) ?_ ?_; rotate_left
            · (go_simp; (try simp only [h2]); (try with_reducible rfl))
            (try simp only [Act.put, zl, z0, z1])
            iterate 6 (with_reducible refine stTake (v := ?_) (by kernel_rfl) ?_ ?_; rotate_left; (focus (go_simp; (try with_reducible rfl))); (try simp only [Act.put, zl, z0, z1]))
            refine wpStill_nil ?_
            exact hK _ _ _ _ _ _ _ _ _ _ _ _ _ _ _ _ _ _ _ _ _ _ _ _ _ _ _ _ _ _ _ _ _ HB
        · rw [h2] at fin
          obtain rfl := fin true rfl
          clear fin
          iterate 10 (with_reducible refine stTake (v := ?_) (by kernel_rfl) ?_ ?_; rotate_left; (focus (go_simp; (try with_reducible rfl))); (try simp only [Act.put, zl, z0, z1]))
          with_reducible refine stTake (v := ?_) (by kernel_rfl) ?_ ?_; rotate_left
          · (go_simp; (try simp only [h1]); (try with_reducible rfl))
          (try simp only [Act.put, zl, z0, z1])
          iterate 15 (with_reducible refine stTake (v := ?_) (by kernel_rfl) ?_ ?_; rotate_left; (focus (go_simp; (try with_reducible rfl))); (try simp only [Act.put, zl, z0, z1]))
          with_reducible refine stTake (v := ?_) (by kernel_rfl) ?_ ?_; rotate_left
          · (go_simp; (try simp only [h2]); (try with_reducible rfl))
          (try simp only [Act.put, zl, z0, z1])
          with_reducible refine stTake (v := ?_) (by kernel_rfl) ?_ ?_; rotate_left; (focus (go_simp; (try with_reducible rfl))); (try simp only [Act.put, zl, z0, z1])
          iterate 3 (with_reducible refine stSkip (by kernel_rfl) ?_; (try simp only [Act.put, zl, z0, z1]))
          iterate 2 (with_reducible refine stTake (v := ?_) (by kernel_rfl) ?_ ?_; rotate_left; (focus (go_simp; (try with_reducible rfl))); (try simp only [Act.put, zl, z0, z1]))
          refine wpStill_nil ?_
          exact hK _ _ _ _ _ _ _ _ _ _ _ _ _ _ _ _ _ _ _ _ _ _ _ _ _ _ _ _ _ _ _ _ _ HB
      · obtain rfl := fin false rfl
        clear fin
        iterate 10 (with_reducible refine stTake (v := ?_) (by kernel_rfl) ?_ ?_; rotate_left; (focus (go_simp; (try with_reducible rfl))); (try simp only [Act.put, zl, z0, z1]))
        with_reducible refine stTake (v := ?_) (by kernel_rfl) ?_ ?_; rotate_left
        · (go_simp; (try simp only [h1]); (try with_reducible rfl))
        (try simp only [Act.put, zl, z0, z1])
        iterate 9 (with_reducible refine stTake (v := ?_) (by kernel_rfl) ?_ ?_; rotate_left; (focus (go_simp; (try with_reducible rfl))); (try simp only [Act.put, zl, z0, z1]))
        iterate 12 (with_reducible refine stSkip (by kernel_rfl) ?_; (try simp only [Act.put, zl, z0, z1]))
        with_reducible refine stTake (v := ?_) (by kernel_rfl) ?_ ?_; rotate_left; (focus (go_simp; (try with_reducible rfl))); (try simp only [Act.put, zl, z0, z1])
        refine wpStill_nil ?_
        exact hK _ _ _ _ _ _ _ _ _ _ _ _ _ _ _ _ _ _ _ _ _ _ _ _ _ _ _ _ _ _ _ _ _ HB
    · cases h2 : decide (gd < s.f.guards)
      · rw [h2] at fin
        cases pr
        · obtain rfl := fin true rfl
          clear fin
          iterate 10 (with_reducible refine stTake (v := ?_) (by kernel_rfl) ?_ ?_; rotate_left; (focus (go_simp; (try with_reducible rfl))); (try simp only [Act.put, zl, z0, z1]))
          with_reducible refine stTake (v := ?_) (by kernel_rfl) ?_ ?_; rotate_left
          · (go_simp; (try simp only [h1]); (try with_reducible rfl))
          (try simp only [Act.put, zl, z0, z1])
          iterate 4 (with_reducible refine stTake (v := ?_) (by kernel_rfl) ?_ ?_; rotate_left; (focus (go_simp; (try with_reducible rfl))); (try simp only [Act.put, zl, z0, z1]))
          iterate 2 (with_reducible refine stSkip (by kernel_rfl) ?_; (try simp only [Act.put, zl, z0, z1]))
          iterate 9 (with_reducible refine stTake (v := ?_) (by kernel_rfl) ?_ ?_; rotate_left; (focus (go_simp; (try with_reducible rfl))); (try simp only [Act.put, zl, z0, z1]))
          with_reducible refine stTake (v := ?_) (by kernel_rfl) ?_ ?_; rotate_left
          · (go_simp; (try simp only [h2]); (try with_reducible rfl))
          (try simp only [Act.put, zl, z0, z1])
          iterate 6 (with_reducible refine stTake (v := ?_) (by kernel_rfl) ?_ ?_; rotate_left; (focus (go_simp; (try with_reducible rfl))); (try simp only [Act.put, zl, z0, z1]))
          refine wpStill_nil ?_
          exact hK _ _ _ _ _ _ _ _ _ _ _ _ _ _ _ _ _ _ _ _ _ _ _ _ _ _ _ _ _ _ _ _ _ HB
        · obtain rfl := fin false rfl
          clear fin
          iterate 10 (with_reducible refine stTake (v := ?_) (by kernel_rfl) ?_ ?_; rotate_left; (focus (go_simp; (try with_reducible rfl))); (try simp only [Act.put, zl, z0, z1]))
          with_reducible refine stTake (v := ?_) (by kernel_rfl) ?_ ?_; rotate_left
          · (go_simp; (try simp only [h1]); (try with_reducible rfl))
          (try simp only [Act.put, zl, z0, z1])
          iterate 4 (with_reducible refine stTake (v := ?_) (by kernel_rfl) ?_ ?_; rotate_left; (focus (go_simp; (try with_reducible rfl))); (try simp only [Act.put, zl, z0, z1]))
          iterate 2 (with_reducible refine stSkip (by kernel_rfl) ?_; (try simp only [Act.put, zl, z0, z1]))
          iterate 9 (with_reducible refine stTake (v := ?_) (by kernel_rfl) ?_ ?_; rotate_left; (focus (go_simp; (try with_reducible rfl))); (try simp only [Act.put, zl, z0, z1]))
          with_reducible refine stTake (v := ?_) (by kernel_rfl) ?_ ?_; rotate_left
          · (go_simp; (try simp only [h2]); (try with_reducible rfl))
          (try simp only [Act.put, zl, z0, z1])
          iterate 6 (with_reducible refine stTake (v := ?_) (by kernel_rfl) ?_ ?_; rotate_left; (focus (go_simp; (try with_reducible rfl))); (try simp only [Act.put, zl, z0, z1]))
          refine wpStill_nil ?_
          exact hK _ _ _ _ _ _ _ _ _ _ _ _ _ _ _ _ _ _ _ _ _ _ _ _ _ _ _ _ _ _ _ _ _ HB
      · rw [h2] at fin
        obtain rfl := fin true rfl
        clear fin
        iterate 10 (with_reducible refine stTake (v := ?_) (by kernel_rfl) ?_ ?_; rotate_left; (focus (go_simp; (try with_reducible rfl))); (try simp only [Act.put, zl, z0, z1]))
        with_reducible refine stTake (v := ?_) (by kernel_rfl) ?_ ?_; rotate_left
        · (go_simp; (try simp only [h1]); (try with_reducible rfl))
        (try simp only [Act.put, zl, z0, z1])
        iterate 4 (with_reducible refine stTake (v := ?_) (by kernel_rfl) ?_ ?_; rotate_left; (focus (go_simp; (try with_reducible rfl))); (try simp only [Act.put, zl, z0, z1]))
        iterate 2 (with_reducible refine stSkip (by kernel_rfl) ?_; (try simp only [Act.put, zl, z0, z1]))
        iterate 9 (with_reducible refine stTake (v := ?_) (by kernel_rfl) ?_ ?_; rotate_left; (focus (go_simp; (try with_reducible rfl))); (try simp only [Act.put, zl, z0, z1]))
        with_reducible refine stTake (v := ?_) (by kernel_rfl) ?_ ?_; rotate_left
        · (go_simp; (try simp only [h2]); (try with_reducible rfl))
        (try simp only [Act.put, zl, z0, z1])
        with_reducible refine stTake (v := ?_) (by kernel_rfl) ?_ ?_; rotate_left; (focus (go_simp; (try with_reducible rfl))); (try simp only [Act.put, zl, z0, z1])
        iterate 3 (with_reducible refine stSkip (by kernel_rfl) ?_; (try simp only [Act.put, zl, z0, z1]))
        iterate 2 (with_reducible refine stTake (v := ?_) (by kernel_rfl) ?_ ?_; rotate_left; (focus (go_simp; (try with_reducible rfl))); (try simp only [Act.put, zl, z0, z1]))
        refine wpStill_nil ?_
        exact hK _ _ _ _ _ _ _ _ _ _ _ _ _ _ _ _ _ _ _ _ _ _ _ _ _ _ _ _ _ _ _ _ _ HB

end Go.Proofs.YtobjahlmjcnfoaaGreat

namespace Go.Proofs.YtobjahlmjcnfoaaGreat
open Go.RowKit Go.Sort
attribute [local go_sem ↓] Go.wp_at_zero Go.wp_at_succ

theorem E.guards_bd (s : E.St) : ∀ l : List Int, 0 ≤ s.guardsOf l ∧ s.guardsOf l ≤ (l.length : Int)
  | [] => by simp [E.St.guardsOf]
  | k :: r => by
    have ih := E.guards_bd s r
    have h1 : s.guardsOf (k :: r) = E.one (s.pl k).grd + s.guardsOf r := by simp [E.St.guardsOf]
    have h2 : 0 ≤ E.one (s.pl k).grd ∧ E.one (s.pl k).grd ≤ 1 := by unfold E.one; split <;> omega
    rw [h1, List.length_cons]
    omega

def SettlePost (base L B n : Nat) (s : E.St) (lt : Bool) (mv cv : Value) (w : World) (e : Ending) (w' : World) : Prop := ∃ mv', e = .returned (.tuple #[]) ∧ LAt w' base L B n (s.settle lt) mv' cv ∧ Below base w w' ∧ (∀ b, b < w.heap.size → b ≠ L → some b ≠ mv.ownBlock → w'.heap[b]? = w.heap[b]?) ∧ (∀ g, mv'.ownBlock = some g → mv.ownBlock = some g ∨ w.heap.size ≤ g)

theorem owns_blk {w w' : World} {base n size : Nat} {e : TypeId} {v : Value} {xs : List Value} (h : w.ownsRow base e size v n xs) (hk : ∀ g, v.ownBlock = some g → w'.heap[g]? = w.heap[g]?) : w'.ownsRow base e size v n xs := by
  refine ⟨h.1, h.2.imp id ?_⟩
  rintro ⟨g, cap, cur, rfl, hbg, hblk, rest⟩
  exact ⟨g, cap, cur, rfl, hbg, (hk g (by simp [Value.ownBlock])).trans hblk, rest⟩

theorem E.fill_step (s : E.St) (lt : Bool) (y : Int) (r ma : List Int) (gd : Int) (x : E.Pl) (d : Bool) (hx : s.pl y = x) (hd : d = (decide ((ma.length : Int) < s.f.places) && (x.sgn || !lt) && (decide (gd < s.f.guards) || !x.grd))) :
    E.St.fill s lt (y :: r) ma gd = if d = true then E.St.fill s lt r (ma ++ [y]) (gd + E.one x.grd) else E.St.fill s lt r ma gd := by
  subst hx
  subst hd
  rw [E.St.fill]
  have e : ((decide ((ma.length : Int) < s.f.places) && ((s.pl y).sgn || !lt) && (decide (gd < s.f.guards) || !(s.pl y).grd)) = true) = ((ma.length : Int) < s.f.places ∧ ((s.pl y).sgn = true ∨ lt = false) ∧ (gd < s.f.guards ∨ (s.pl y).grd = false)) := by
    simp only [Bool.and_eq_true, Bool.or_eq_true, decide_eq_true_eq, Bool.not_eq_true', and_assoc]
  simp only [e]

set_option maxHeartbeats 6400000 in
set_option maxRecDepth 100000 in
theorem settle_any (base L B n : Nat) (s : E.St) (lt : Bool) (mv cv : Value) (w : World) (h : LAt w base L B n s mv cv) (ok : E.StOk s) (hbase : base ≤ w.heap.size) (hn : n ≤ 1000) (hml : s.main.length ≤ 800) (hpl : s.f.places ≤ 800) :
    Calls Tryz.prog 53 #[.pointer (some ⟨L, 0, none⟩), .bool lt] w (SettlePost base L B n s lt mv cv w) := by
  have HL := hide h
  have OK := hide ok
  have HN := hide hn
  have HML := hide hml
  have HPL := hide hpl
  have HBS := hide hbase
  clear h ok hn hml hpl hbase
  go_enter Tryz.func53, Tryz.ntmps53
  go_upto_region 1 with fail
  obtain ⟨w1, hw1⟩ : ∃ w1, (w.alloc (.cells #[.pointer (some ⟨L, 0, none⟩)] 47)).alloc (.cells #[.bool lt] 4) = w1 := ⟨_, rfl⟩
  have HB1 := hide (show Below w.heap.size w w1 by rw [← hw1]; (repeat' first | exact zbR _ _ | assumption | refine zbD ?_ | refine zbA ?_ ?_ _ | refine zbS ?_ ?_ _ | refine zbT ?_ (by assumption) ?_ | (simp; done) | (simp; omega) | omega))
  have HP := hide (show w1.heap[w.heap.size]? = some (.cells #[.pointer (some ⟨L, 0, none⟩)] 47 (0, 0)) by rw [← hw1]; exact (Below.heap_alloc _ _ _ (by first | (simp; done) | (simp; omega) | omega)).trans (World.alloc_heap_new _ _))
  have HQ := hide (show w1.heap[w.heap.size + 1]? = some (.cells #[.bool lt] 4 (0, 0)) by rw [← hw1]; exact (congrArg _ (by simp)).trans (World.alloc_heap_new _ _))
  rw [hw1]
  clear hw1
  obtain ⟨bl, hbl⟩ : ∃ bl, w.heap.size = bl := ⟨_, rfl⟩
  obtain ⟨bt, hbt⟩ : ∃ bt, w.heap.size + 1 = bt := ⟨_, rfl⟩
  have HBL := hide hbl
  have HBT := hide hbt
  rw [hbt] at HQ ⊢
  rw [hbl] at HP ⊢
  clear hbl hbt
  have HL1 := hide (HL.out.below HB1.out)
  obtain ⟨mA, mc, hmv⟩ := own_form HL1.out.main
  subst hmv
  refine set1 (fun _ _ d _ _ h => by cases d <;> exact h) base bl bt L B n _ mc mA s cv lt w1 HP.out HQ.out HL1.out OK.out (Nat.le_trans HBS.out HB1.out.size) (by have := HML.out; omega) _ _ _ _ _ _ _ _ _ _ _ _ _ _ _ _ _ _ _ _ _ _ _ _ _ _ _ _ _ _ _ _ _ _ _ _ _ _ _ _ _ _ _ _ _ _ _ _ _ _ _ _ _ _ _ _ _ _ _ _ _ _ _ _ _ _ _ _ _ _ _ _ _ _ _ _ _ _ _ _ _ _ _ _ _ _ _ _ _ _ _ _ _ _ _ _ _ _ _  ?_
  intro u10 u11 u12 u13 u14 u15 u16 u17 u18 mv2 w2 HL2 HK2 HB2 HO2
  obtain ⟨m2, hm2⟩ : ∃ m2, s.main.filter (fun k => lt && (s.pl k).entry) = m2 := ⟨_, rfl⟩
  have HM2 := hide hm2
  rw [hm2] at HL2
  obtain ⟨A2, c2, hmv2⟩ := own_form HL2.out.main
  subst hmv2
  have HP2 := hide ((HK2.out bl (blk_lt HP.out) (by have := HL.out.lt; have := HBL.out; omega) (fun e => row_ne HL1.out.main HP.out (by decide) e.symm)).trans HP.out)
  have HQ2 := hide ((HK2.out bt (blk_lt HQ.out) (by have := HL.out.lt; have := HBT.out; omega) (fun e => row_ne HL1.out.main HQ.out (by decide) e.symm)).trans HQ.out)
  have hlen : m2.length ≤ 800 := by
    rw [← HM2.out]
    exact Nat.le_trans (List.length_filter_le _ _) HML.out
  have HLEN := hide hlen
  clear hm2 hlen
  have k1 : w2.cell? ⟨bl, 0, none⟩ = some (.pointer (some ⟨L, 0, none⟩)) := (blk_cell HP2.out 0).trans rfl
  have k2 : w2.cell? ⟨L, 7, none⟩ = some (.slice A2 m2.length c2) := (HL2.out.c 7).trans rfl
  have k3 : w2.cell? ⟨L, 5, none⟩ = some (.map (some B)) := (HL2.out.c 5).trans rfl
  go_upto_region 4 with fail
  go_loop [4, 24] (fun g i => ∃ k : Nat, k ≤ m2.length ∧ i = .int .i64 k ∧ g = .int .i64 (s.guardsOf (m2.take k))) (fun _ i => m2.length - (intOf i).toNat)
  case atStart => exact ⟨0, by omega, rfl, by simp [E.St.guardsOf]⟩
  case round =>
    obtain ⟨k, hk, rfl, rfl⟩ := hrel
    have hml := HLEN.out
    by_cases hlt : k < m2.length
    · obtain ⟨y, hy⟩ : ∃ q, m2[k]? = some q := ⟨_, List.getElem?_eq_getElem hlt⟩
      have hmain := HL2.out.main
      obtain ⟨b, o, hA, hbB, c0⟩ := (owns_RdI hmain rfl) k y hy
      subst hA
      obtain ⟨x, hx⟩ : ∃ x, s.pl y = x := ⟨_, rfl⟩
      have hyr : 0 ≤ y ∧ y ≤ 999 := by
        have h1 : y ∈ m2 := List.mem_of_getElem? hy
        rw [← HM2.out] at h1
        exact OK.out.range y (OK.out.main y (List.mem_filter.1 h1).1)
      have hlk : (Instr.lookup 80 (.map (some B)) (.int .i64 y) false).run Tryz.prog w2 = .ok (.agg #[.bool x.ent, .bool x.grd, .bool x.card, .bool x.quit, .bool x.sgn, .int .i64 x.rank, .int .i64 x.turn]) w2 := by
        have := HL2.out.map.look Tryz.underlying80 zeroP hyr.1 hyr.2
        rw [show ({ s with main := m2 } : E.St).pl y = x from hx] at this
        exact this
      have hfl := fldGrd x.ent x.grd x.card x.quit x.sgn x.rank x.turn w2
      have hstep : s.guardsOf (m2.take (k + 1)) = s.guardsOf (m2.take k) + E.one x.grd := by
        unfold E.St.guardsOf
        rw [List.take_add_one, hy, List.map_append, List.sum_append]
        simp [hx]
      obtain ⟨gd, hgd⟩ : ∃ g, s.guardsOf (m2.take k) = g := ⟨_, rfl⟩
      have hgb := E.guards_bd s (m2.take k)
      rw [hgd] at hgb hstep ⊢
      have hgl : (m2.take k).length ≤ 800 := by rw [List.length_take]; omega
      obtain ⟨g0, g1⟩ := hgb
      have g2 : gd ≤ 800 := by omega
      obtain ⟨q, hq⟩ : ∃ q, E.one x.grd = q := ⟨_, rfl⟩
      have hqb : 0 ≤ q ∧ q ≤ 1 := by rw [← hq]; unfold E.one; split <;> omega
      obtain ⟨q0, q1⟩ := hqb
      have H1 := fun w => one_any x.grd w
      rw [hq] at hstep H1
      have HST := hide hstep
      have hlt' : (k : Int) < (m2.length : Int) := by omega
      have hk0 : (0 : Int) ≤ (k : Int) := by omega
      clear hgd hgl g1 hq hstep hy hmain hx hyr
      go_wp2_with (go_at_call 59; refine (H1 _).mono ?_; rintro e w' ⟨rfl, rfl⟩)
      go_round
      case rel => exact ⟨k + 1, by omega, by go_num, by rw [HST.out]⟩
      case measure => simp [intOf]; omega
    · have hkn : k = m2.length := by omega
      subst hkn
      rw [List.take_length]
      have OK2 : E.StOk { s with main := m2 } := ⟨OK.out.known, OK.out.range, OK.out.zero, OK.out.turn, OK.out.apart, fun k hk => by
        rw [← HM2.out] at hk
        exact OK.out.main k (List.mem_filter.1 hk).1, OK.out.cards⟩
      have HOK2 := hide OK2
      obtain ⟨gd0, hgd0⟩ : ∃ g, s.guardsOf m2 = g := ⟨_, rfl⟩
      have HGD := hide hgd0
      rw [hgd0]
      clear hgd0 OK2
      go_wp2_with (go_at_call 47; refine (alternates_any base L B n { s with main := m2 } (.slice A2 m2.length c2) cv w2 HL2.out HOK2.out HN.out (by show m2.length ≤ 1000; omega)).mono ?_; rintro e w3 ⟨Aa, ca, rfl, hoa, hba, hla⟩)
      have HLA := hide hla
      clear hla
      have HOA := hide hoa
      have HBA := hide hba
      clear hoa hba k1 k2 k3 hml hk hlt
      obtain ⟨al, hal⟩ : ∃ al, ({ s with main := m2 } : E.St).alts = al := ⟨_, rfl⟩
      have HAL := hide hal
      rw [hal] at HOA ⊢
      clear hal
      have HL3 := hide (HL2.out.below HBA.out)
      have HP3 := hide ((HBA.out.block bl (blk_lt HP2.out)).trans HP2.out)
      have HQ3 := hide ((HBA.out.block bt (blk_lt HQ2.out)).trans HQ2.out)
      go_loopw [4, 42] (fun g i wr => ∃ (k : Nat) (ma : List Int) (mv : Value) (gd : Int), k ≤ al.length ∧ i = .int .i64 k ∧ g = .int .i64 gd ∧ Hid (E.St.fill s lt (al.drop k) ma gd = E.St.fill s lt al m2 gd0) ∧ Hid (LAt wr base L B n { s with main := ma } mv cv) ∧ Hid (wr.heap[bl]? = some (.cells #[.pointer (some ⟨L, 0, none⟩)] 47 (0, 0))) ∧ Hid (wr.heap[bt]? = some (.cells #[.bool lt] 4 (0, 0))) ∧ Hid (wr.ownsRow w2.heap.size 3 1 (.slice Aa al.length ca) al.length (flatI al)) ∧ Hid (∀ g, mv.ownBlock = some g → (Value.slice Aa al.length ca).ownBlock ≠ some g) ∧ Hid (Below base w3 wr) ∧ ma.length ≤ m2.length + k ∧ (0 ≤ gd ∧ gd ≤ (m2.length : Int) + (k : Int)) ∧ Hid (∀ b, b < w3.heap.size → b ≠ L → some b ≠ (Value.slice A2 m2.length c2).ownBlock → wr.heap[b]? = w3.heap[b]?) ∧ Hid (∀ g, mv.ownBlock = some g → (Value.slice A2 m2.length c2).ownBlock = some g ∨ w3.heap.size ≤ g)) (fun _ i _ => al.length - (intOf i).toNat)
      case atStart =>
        have hg := E.guards_bd s m2
        rw [HGD.out] at hg
        exact ⟨0, m2, _, gd0, by omega, rfl, rfl, hide (by rw [List.drop_zero]), HL3, HP3, HQ3, HOA, hide (fun g hg1 hg2 => by
          have h1 := (HL2.out.main.lt g hg1).2
          have h2 := (HOA.out.lt g hg2).1
          omega), hide (Below.refl _ _), by omega, by omega, hide (fun _ _ _ _ => rfl), hide (fun _ h => .inl h)⟩
      case round =>
        obtain ⟨k, ma, mv, gd, hk, rfl, rfl, HF, HLr, HPr, HQr, HOr, HAP, HBr, hmal, hgd, HKr, HLC⟩ := hrel
        by_cases hlt : k < al.length
        · obtain ⟨y, hy⟩ : ∃ q, al[k]? = some q := ⟨_, List.getElem?_eq_getElem hlt⟩
          obtain ⟨b, o, hA, hbB, c0⟩ := (owns_RdI HOr.out rfl) k y hy
          subst hA
          obtain ⟨x, hx⟩ : ∃ x, s.pl y = x := ⟨_, rfl⟩
          have hyr : 0 ≤ y ∧ y ≤ 999 := by
            have h1 : y ∈ al := List.mem_of_getElem? hy
            rw [← HAL.out] at h1
            exact OK.out.range y (E.order_mem.1 (List.mem_filter.1 h1).1).1
          have hlk : (Instr.lookup 80 (.map (some B)) (.int .i64 y) false).run Tryz.prog wr = .ok (.agg #[.bool x.ent, .bool x.grd, .bool x.card, .bool x.quit, .bool x.sgn, .int .i64 x.rank, .int .i64 x.turn]) wr := by
            have := HLr.out.map.look Tryz.underlying80 zeroP hyr.1 hyr.2
            rw [show ({ s with main := ma } : E.St).pl y = x from hx] at this
            exact this
          have hdrop : al.drop k = y :: al.drop (k + 1) := by
            obtain ⟨hl, he⟩ := List.getElem?_eq_some_iff.1 hy
            rw [List.drop_eq_getElem_cons hl, he]
          have HDR := hide hdrop
          have HX := hide hx
          have k1 : wr.cell? ⟨bl, 0, none⟩ = some (.pointer (some ⟨L, 0, none⟩)) := (blk_cell HPr.out 0).trans rfl
          have k3 : wr.cell? ⟨L, 5, none⟩ = some (.map (some B)) := (HLr.out.c 5).trans rfl
          have hlt' : (k : Int) < (al.length : Int) := by omega
          have hla : al.length ≤ 1000 := by have := HLA.out; rw [HAL.out] at this; exact this
          have hk0 : (0 : Int) ≤ (k : Int) := by omega
          clear hdrop hx hy hyr
          go_upto_region 12 with fail
          obtain ⟨w4, hw4⟩ : ∃ w4, wr.alloc (.cells #[.bool x.ent, .bool x.grd, .bool x.card, .bool x.quit, .bool x.sgn, .int .i64 x.rank, .int .i64 x.turn] 79) = w4 := ⟨_, rfl⟩
          have HB4 := hide (show Below wr.heap.size wr w4 by rw [← hw4]; (repeat' first | exact zbR _ _ | assumption | refine zbD ?_ | refine zbA ?_ ?_ _ | refine zbS ?_ ?_ _ | refine zbT ?_ (by assumption) ?_ | (simp; done) | (simp; omega) | omega))
          have H9 := hide (show w4.heap[wr.heap.size]? = some (.cells #[.bool x.ent, .bool x.grd, .bool x.card, .bool x.quit, .bool x.sgn, .int .i64 x.rank, .int .i64 x.turn] 79 (0, 0)) by rw [← hw4]; exact World.alloc_heap_new _ _)
          rw [hw4]
          clear hw4 hlk k1 k3
          have HL4 := hide (HLr.out.below HB4.out)
          have HP4 := hide ((HB4.out.block bl (blk_lt HPr.out)).trans HPr.out)
          have HQ4 := hide ((HB4.out.block bt (blk_lt HQr.out)).trans HQr.out)
          obtain ⟨mA4, mc4, hmv4⟩ := own_form HL4.out.main
          subst hmv4
          obtain ⟨d, hd⟩ : ∃ d, d = (decide ((ma.length : Int) < s.f.places) && (x.sgn || !lt) && (decide (gd < s.f.guards) || !x.grd)) := ⟨_, rfl⟩
          have HD := hide hd
          refine set12 (fun _ _ d _ _ h => by cases d <;> exact h) base bl bt L B n ma.length mc4 wr.heap.size mA4 { s with main := ma } cv x lt gd d w4 HP4.out HQ4.out H9.out HL4.out hd _ _ _ _ _ _ _ _ _ _ _ _ _ _ _ _ _ _ _ _ _ _ _ _ _ _ _ _ _ _ _ _ _ _ _ _ _ _ _ _ _ _ _ _ _ _ _ _ _ _ _ _ _ _ _ _ _ _ _ _ _ _ _ _ _ _ _ _ _ _ _ _ _ _ _ _ _ _ _ _ _ _ _ _ _ _ _ _ _ _ _ _ _ _ _ _ _  ?_
          intro v52 v53 v54 v55 v56 v57 v58 v59 v60 v61 v62 v63 v64 v65 v66 v67 v68 v69 v70 v71 v72 v73 v74 v75 v76 v77 v78 v79 v80 v81 v82 v83 w5 HB5
          clear hd
          have HL5 := hide (HL4.out.below HB5.out)
          have HP5 := hide ((HB5.out.block bl (blk_lt HP4.out)).trans HP4.out)
          have HQ5 := hide ((HB5.out.block bt (blk_lt HQ4.out)).trans HQ4.out)
          have H95 := hide ((HB5.out.block _ (blk_lt H9.out)).trans H9.out)
          have HB45 := hide (HB4.out.trans (HB5.out.mono HB4.out.size))
          have HFS := hide ((congrArg (fun z => E.St.fill s lt z ma gd) HDR.out).trans (E.fill_step s lt y (al.drop (k + 1)) ma gd x d HX.out HD.out))
          have HBW := hide (show base ≤ wr.heap.size from Nat.le_trans (Nat.le_trans HBS.out (Nat.le_trans HB1.out.size (Nat.le_trans HB2.out.size HBA.out.size))) HBr.out.size)
          cases hdd : d
          · rw [hdd] at HFS
            have HF1 := hide (HFS.out.symm.trans HF.out)
            go_wp2_with fail
            go_roundw
            case rel => exact ⟨k + 1, ma, _, gd, by omega, by go_num, rfl, HF1, HL5, HP5, HQ5, hide (owns_below HOr.out HB45.out), HAP, hide (zbT HBr.out HB45.out HBW.out), by omega, by omega, hide (fun b hb h1 h2 => (HB45.out.block b (Nat.lt_of_lt_of_le hb HBr.out.size)).trans (HKr.out b hb h1 h2)), HLC⟩
            case measure => simp [intOf]; omega
          · rw [hdd] at HFS
            have HF1 := hide (HFS.out.symm.trans HF.out)
            go_upto_region 13 with fail
            have h900 : ma.length ≤ 900 := by
              have h1 := HD.out
              rw [hdd] at h1
              have h2 := h1.symm
              simp only [Bool.and_eq_true, decide_eq_true_eq] at h2
              have h3 := h2.1.1
              have h4 := HPL.out
              omega
            refine set13 (fun _ _ d _ _ h => by cases d <;> exact h) base bl L B n { s with main := ma } _ cv y w5 HP5.out HL5.out (Nat.le_trans HBW.out HB45.out.size) h900 _ _ _ _ _ _ _ _ _ _ _ _ _ _ _ _ _ _ _ _ _ _ _ _ _ _ _ _ _ _ _ _ _ _ _ _ _ _ _ _ _ _ _ _ _ _ _ _ _ _ _ _ _ _ _ _ _ _ _ _ _ _ _ _ _ _ _ _ _ _ _ _ _ _ _ _ _ _ _ _ _ _ _ _ _ _ _ _ _ _ _ _ _ _ _ _ _ _ _  ?_
            clear h900
            intro x85 x86 x87 x88 x89 x90 x91 x92 x93 x94 mv6 w6 HL6 HK6 HB6 HO6
            have h5L := HL5.out.lt
            have H96 := hide ((HK6.out _ (blk_lt H95.out) (by have := HLr.out.lt; omega) (fun e => row_ne HL5.out.main H95.out (by decide) e.symm)).trans H95.out)
            have HP6 := hide ((HK6.out bl (blk_lt HP5.out) (by have := HL.out.lt; have := HBL.out; omega) (fun e => row_ne HL5.out.main HP5.out (by decide) e.symm)).trans HP5.out)
            have HQ6 := hide ((HK6.out bt (blk_lt HQ5.out) (by have := HL.out.lt; have := HBT.out; omega) (fun e => row_ne HL5.out.main HQ5.out (by decide) e.symm)).trans HQ5.out)
            have HO5 := hide (owns_below HOr.out HB45.out)
            have HOR6 := hide (owns_blk HO5.out (fun g hg => HK6.out g (HO5.out.lt g hg).2 (by have h1 := (HOr.out.lt g hg).1; have h2 := HL2.out.lt; omega) (fun e => HAP.out g e.symm hg)))
            have HAP6 := hide (show ∀ g, mv6.ownBlock = some g → (Value.slice _ al.length ca).ownBlock ≠ some g from fun g hg1 hg2 => by
              rcases HO6.out g hg1 with h | h
              · exact HAP.out g h hg2
              · have h1 := (HO5.out.lt g hg2).2
                omega)
            have HBR6 := hide ((zbT HBr.out HB45.out HBW.out).trans HB6.out)
            have HKR6 := hide (show ∀ b, b < w3.heap.size → b ≠ L → some b ≠ (Value.slice A2 m2.length c2).ownBlock → w6.heap[b]? = w3.heap[b]? from fun b hb h1 h2 => by
              have hbr := Nat.lt_of_lt_of_le hb HBr.out.size
              refine (HK6.out b (Nat.lt_of_lt_of_le hbr HB45.out.size) h1 (fun e => ?_)).trans ((HB45.out.block b hbr).trans (HKr.out b hb h1 h2))
              rcases HLC.out b e.symm with h | h
              · exact h2 h.symm
              · omega)
            have HLC6 := hide (show ∀ g, mv6.ownBlock = some g → (Value.slice A2 m2.length c2).ownBlock = some g ∨ w3.heap.size ≤ g from fun g hg => by
              rcases HO6.out g hg with h | h
              · exact HLC.out g h
              · exact .inr (Nat.le_trans (Nat.le_trans HBr.out.size HB45.out.size) h))
            obtain ⟨q, hq⟩ : ∃ q, E.one x.grd = q := ⟨_, rfl⟩
            have hqb : 0 ≤ q ∧ q ≤ 1 := by rw [← hq]; unfold E.one; split <;> omega
            obtain ⟨q0, q1⟩ := hqb
            have H1 := fun w => one_any x.grd w
            rw [hq] at H1 HF1
            obtain ⟨gd1, gd2⟩ := hgd
            have gd3 : gd ≤ 1800 := by have := HLEN.out; omega
            have e9 : w6.cell? ⟨wr.heap.size, 1, none⟩ = some (.bool x.grd) := (blk_cell H96.out 1).trans rfl
            clear hq h5L
            go_wp2_with (go_at_call 59; refine (H1 _).mono ?_; rintro e w' ⟨rfl, rfl⟩)
            go_roundw
            case rel => exact ⟨k + 1, ma ++ [y], mv6, gd + q, by omega, by go_num, by go_num, HF1, HL6, HP6, HQ6, HOR6, HAP6, HBR6, by rw [List.length_append]; simp only [List.length_singleton]; omega, by omega, HKR6, HLC6⟩
            case measure => simp [intOf]; omega
        · have hkn : k = al.length := by omega
          subst hkn
          have hma : s.settle lt = { s with main := ma } := by
            have h1 := HF.out
            rw [List.drop_length] at h1
            have h2 : ma = E.St.fill s lt al m2 gd0 := h1
            rw [h2, ← HAL.out, ← HGD.out, ← HM2.out]
            rfl
          have HMA := hide hma
          clear hma
          go_wp2_with fail
          go_end0
          refine ⟨mv, rfl, by rw [HMA.out]; exact HLr.out, ?_, ?_, ?_⟩
          · have e1 : Below base w w1 := HB1.out.mono HBS.out
            have e2 : Below base w2 w3 := HBA.out.mono (Nat.le_trans HBS.out (Nat.le_trans HB1.out.size HB2.out.size))
            exact ((e1.trans HB2.out).trans e2).trans HBr.out
          · intro b hb h1 h2
            have hb1 : b < w1.heap.size := Nat.lt_of_lt_of_le hb HB1.out.size
            have hb2 : b < w2.heap.size := Nat.lt_of_lt_of_le hb1 HB2.out.size
            have hb3 : b < w3.heap.size := Nat.lt_of_lt_of_le hb2 HBA.out.size
            rw [HKr.out b hb3 h1 (by rw [HO2.out]; exact h2), HBA.out.block b hb2, HK2.out b hb1 h1 h2, HB1.out.block b hb]
          · intro g hg
            rcases HLC.out g hg with h | h
            · exact .inl (by rw [← HO2.out]; exact h)
            · exact .inr (Nat.le_trans (Nat.le_trans HB1.out.size (Nat.le_trans HB2.out.size HBA.out.size)) h)

end Go.Proofs.YtobjahlmjcnfoaaGreat

namespace Go.Proofs.YtobjahlmjcnfoaaGreat
open Go.RowKit Go.Sort

theorem wp_last {P : Program} {c : Code} {R : Exit → Act → World → Prop} {a : Act} {w : World} (h : Code.wp P c (Exit.then (fun a w => R .normal a w) R) a w) : Code.wp P c R a w := Code.wp_mono (fun e a w h => by cases e <;> exact h) h

def ntCells (x : E.Nt) : Array Value := #[.int .i64 x.id, .int .i64 x.hour, .int .i64 x.kind, .int .i64 x.player, .int .i64 x.rank]
def plCells (p : E.Pl) : Array Value := #[.bool p.ent, .bool p.grd, .bool p.card, .bool p.quit, .bool p.sgn, .int .i64 p.rank, .int .i64 p.turn]

structure Mid (w : World) (base L B n bx g : Nat) (x : E.Nt) (mv cv : Value) (s1 : E.St) (p1 : E.Pl) (cv1 : Value) (W : World) : Prop where
  l : LAt W base L B n s1 mv cv1
  hx : W.heap[bx]? = some (.cells (ntCells x) 70 (0, 0))
  hg : W.heap[g]? = some (.cells (plCells p1) 79 (0, 0))
  below : Below base w W
  blk : ∀ b, b < w.heap.size → b ≠ L → b ≠ B → some b ≠ mv.ownBlock → some b ≠ cv.ownBlock → W.heap[b]? = w.heap[b]?
  lbx : w.heap.size ≤ bx
  lg : w.heap.size ≤ g
  ne : bx ≠ g
  base0 : base ≤ w.heap.size
  hL : L < w.heap.size
  hB : B < w.heap.size
  cvo : ∀ b, cv1.ownBlock = some b → cv.ownBlock = some b ∨ w.heap.size ≤ b

section
variable {w W W' : World} {base L B n bx g : Nat} {x : E.Nt} {mv cv cv1 : Value} {s1 : E.St} {p1 p2 : E.Pl}
theorem Mid.baseW (h : Mid w base L B n bx g x mv cv s1 p1 cv1 W) : base ≤ W.heap.size := Nat.le_trans h.base0 h.below.size
theorem Mid.mono (h : Mid w base L B n bx g x mv cv s1 p1 cv1 W) (hb : Below W.heap.size W W') : Mid w base L B n bx g x mv cv s1 p1 cv1 W' :=
  ⟨h.l.below hb, (hb.block _ (blk_lt h.hx)).trans h.hx, (hb.block _ (blk_lt h.hg)).trans h.hg, zbT h.below hb h.baseW, fun b h0 h1 h2 h3 h4 => (hb.block b (Nat.lt_of_lt_of_le h0 h.below.size)).trans (h.blk b h0 h1 h2 h3 h4), h.lbx, h.lg, h.ne, h.base0, h.hL, h.hB, h.cvo⟩
theorem Mid.neL (h : Mid w base L B n bx g x mv cv s1 p1 cv1 W) : L ≠ g := by have := h.hL; have := h.lg; omega
theorem Mid.neB (h : Mid w base L B n bx g x mv cv s1 p1 cv1 W) : g ≠ B := by have := h.hB; have := h.lg; omega
theorem Mid.nxL (h : Mid w base L B n bx g x mv cv s1 p1 cv1 W) : bx ≠ L := by have := h.hL; have := h.lbx; omega
theorem Mid.nxB (h : Mid w base L B n bx g x mv cv s1 p1 cv1 W) : bx ≠ B := by have := h.hB; have := h.lbx; omega
theorem Mid.grownG (h : Mid w base L B n bx g x mv cv s1 p1 cv1 W) (hg : W.grownBy W' (some g)) (hc : W'.heap[g]? = some (.cells (plCells p2) 79 (0, 0))) : Mid w base L B n bx g x mv cv s1 p2 cv1 W' :=
  ⟨h.l.grown hg h.neL.symm h.neB (row_ne h.l.main h.hg (by decide)) (row_ne h.l.cards h.hg (by decide)), (hg.block _ (blk_lt h.hx) (fun e => h.ne (Option.some.inj e))).trans h.hx, hc,
    h.below.trans (grown_below hg h.baseW (fun g' e => by have e1 := Option.some.inj e; subst e1; have := h.lg; have := h.base0; omega)),
    fun b h0 h1 h2 h3 h4 => (hg.block b (Nat.lt_of_lt_of_le h0 h.below.size) (fun e => by have e1 := Option.some.inj e; have := h.lg; omega)).trans (h.blk b h0 h1 h2 h3 h4), h.lbx, h.lg, h.ne, h.base0, h.hL, h.hB, h.cvo⟩
theorem Mid.setG (h : Mid w base L B n bx g x mv cv s1 p1 cv1 W) (i : Nat) (v : Value) (hc : (plCells p1).setIfInBounds i v = plCells p2) : Mid w base L B n bx g x mv cv s1 p2 cv1 (W.setCell ⟨g, i, none⟩ v) :=
  h.grownG (gr_set _ _ _ _) (by rw [blk_set h.hg i v, hc])
theorem Mid.setL {s2 : E.St} {i : Nat} {v : Value} (h : Mid w base L B n bx g x mv cv s1 p1 cv1 W) (hl : LAt (W.setCell ⟨L, i, none⟩ v) base L B n s2 mv cv1) : Mid w base L B n bx g x mv cv s2 p1 cv1 (W.setCell ⟨L, i, none⟩ v) :=
  ⟨hl, blk_other h.hx h.nxL i v, blk_other h.hg h.neL.symm i v, h.below.setCell (p := ⟨L, i, none⟩) h.l.lowL v,
    fun b h0 h1 h2 h3 h4 => (Below.heap_setCell W ⟨L, i, none⟩ v b h1).trans (h.blk b h0 h1 h2 h3 h4), h.lbx, h.lg, h.ne, h.base0, h.hL, h.hB, h.cvo⟩
theorem Mid.setC {s2 : E.St} {cv2 : Value} (h : Mid w base L B n bx g x mv cv s1 p1 cv1 W) (hl : LAt W' base L B n s2 mv cv2) (hk : ∀ b, b < W.heap.size → b ≠ L → some b ≠ cv1.ownBlock → W'.heap[b]? = W.heap[b]?) (hb : Below base W W') (ho : ∀ b, cv2.ownBlock = some b → cv1.ownBlock = some b ∨ W.heap.size ≤ b) : Mid w base L B n bx g x mv cv s2 p1 cv2 W' :=
  ⟨hl, (hk bx (blk_lt h.hx) h.nxL (fun e => row_ne h.l.cards h.hx (by decide) e.symm)).trans h.hx, (hk g (blk_lt h.hg) h.neL.symm (fun e => row_ne h.l.cards h.hg (by decide) e.symm)).trans h.hg, h.below.trans hb,
    fun b h0 h1 h2 h3 h4 => (hk b (Nat.lt_of_lt_of_le h0 h.below.size) h1 (fun e => by
      rcases h.cvo b e.symm with h5 | h5
      · exact h4 h5.symm
      · omega)).trans (h.blk b h0 h1 h2 h3 h4), h.lbx, h.lg, h.ne, h.base0, h.hL, h.hB,
    fun b e => by
      rcases ho b e with h1 | h1
      · exact h.cvo b h1
      · exact .inr (Nat.le_trans h.below.size h1)⟩

def TakePost (base L B n : Nat) (s : E.St) (x : E.Nt) (mv cv : Value) (w : World) (e : Ending) (w' : World) : Prop := ∃ mv' cv', e = .returned (.tuple #[]) ∧ LAt w' base L B (n + 1) (s.take x) mv' cv' ∧ Below base w w' ∧ (∀ b, b < w.heap.size → b ≠ L → b ≠ B → some b ≠ mv.ownBlock → some b ≠ cv.ownBlock → w'.heap[b]? = w.heap[b]?)

theorem take_fin {s : E.St} {W8 w9 : World} {mv9 : Value} (h : Mid w base L B n bx g x mv cv s1 p1 cv1 W) (hg8 : W.grownBy W8 (some B)) (hl : LAt w9 base L B (n + 1) ((s.said x).settle (E.late s.f x.hour)) mv9 cv1) (hb : Below base W8 w9)
    (hk : ∀ b, b < W8.heap.size → b ≠ L → some b ≠ mv.ownBlock → w9.heap[b]? = W8.heap[b]?) : TakePost base L B n s x mv cv w (.returned (.tuple #[])) w9 := by
  refine ⟨mv9, cv1, rfl, hl, ?_, ?_⟩
  · exact (h.below.trans (grown_below hg8 h.baseW (fun g' e => by have e1 := Option.some.inj e; subst e1; exact h.l.lowB))).trans hb
  · intro b h0 h1 h2 h3 h4
    have h5 := Nat.lt_of_lt_of_le h0 h.below.size
    rw [hk b (Nat.lt_of_lt_of_le h5 hg8.size) h1 h3, hg8.block b h5 (fun e => h2 (Option.some.inj e)), h.blk b h0 h1 h2 h3 h4]
end
end Go.Proofs.YtobjahlmjcnfoaaGreat
