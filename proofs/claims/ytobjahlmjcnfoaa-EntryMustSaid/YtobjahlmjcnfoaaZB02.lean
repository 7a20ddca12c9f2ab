/-
  Part of a claim's texts: contracts of the program's functions and the plain functions that they compute, in build order.
-/
import Derived.StillTailTactics
import Derived.Test.YtobjahlmjcnfoaaZB01
namespace Go.Proofs.Ytobjahlmjcnfoaa
open Go.RowKit Go.Sort

section
variable {w w2 : World} {base L B n n' : Nat} {s : E.St} {mv cv : Value}
theorem LAt.put (h : LAt w base L B n s mv cv) {k : Int} {p : E.Pl} (hM : MapK elP w2 B (fun j => if j = k then p else s.pl j) (fun j => if j = k then true else decide (j ∈ s.known)) n') (hg : w.grownBy w2 (some B)) : LAt w2 base L B n' (s.put k p) mv cv := by
  refine ⟨h.lowL, h.lowB, (hg.block L h.lt (fun e => h.notMap (Option.some.inj e))).trans h.blk, ?_, h.main.kept hg (.inr (fun e => row_ne_map h.main h.map e.symm)), h.cards.kept hg (.inr (fun e => row_ne_map h.cards h.map e.symm)), h.apart⟩
  have e : (fun j => if j = k then true else decide (j ∈ s.known)) = fun j => decide (j ∈ (s.put k p).known) := by
    funext j
    unfold E.St.put
    by_cases hk : k ∈ s.known
    · simp only [if_pos hk]
      split
      · rename_i e; subst e; simp [hk]
      · rfl
    · simp only [if_neg hk, List.mem_append, List.mem_singleton]
      split
      · rename_i e; subst e; simp
      · rename_i e; simp [e]
  rw [← e]
  exact hM
theorem LAt.setTurns (h : LAt w base L B n s mv cv) (t : Int) : LAt (w.setCell ⟨L, 6, none⟩ (.int .i64 t)) base L B n { s with turns := t } mv cv :=
  ⟨h.lowL, h.lowB, by rw [blk_set h.blk 6]; rfl, h.map.kept (gr_set _ _ _ _) (fun e => h.notMap (Option.some.inj e).symm), h.main.kept (gr_set _ _ _ _) (.inr h.mainL), h.cards.kept (gr_set _ _ _ _) (.inr h.cardsL), h.apart⟩
theorem LAt.setPlaces (h : LAt w base L B n s mv cv) (t : Int) : LAt (w.setCell ⟨L, 0, none⟩ (.int .i64 t)) base L B n { s with f := { s.f with places := t } } mv cv :=
  ⟨h.lowL, h.lowB, by rw [blk_set h.blk 0]; rfl, h.map.kept (gr_set _ _ _ _) (fun e => h.notMap (Option.some.inj e).symm), h.main.kept (gr_set _ _ _ _) (.inr h.mainL), h.cards.kept (gr_set _ _ _ _) (.inr h.cardsL), h.apart⟩
theorem LAt.grown (h : LAt w base L B n s mv cv) {g : Nat} (hg : w.grownBy w2 (some g)) (h1 : g ≠ L) (h2 : g ≠ B) (h3 : mv.ownBlock ≠ some g) (h4 : cv.ownBlock ≠ some g) : LAt w2 base L B n s mv cv :=
  ⟨h.lowL, h.lowB, (hg.block L h.lt (fun e => h1 (Option.some.inj e).symm)).trans h.blk, h.map.kept hg (fun e => h2 (Option.some.inj e).symm), h.main.kept hg (.inr h3), h.cards.kept hg (.inr h4), h.apart⟩
end

namespace E
theorem put_ok {s : St} (h : StOk s) {k : Int} (hk : 0 ≤ k ∧ k ≤ 999) (p : Pl) (ht : p.ent = true → 0 ≤ p.turn ∧ p.turn < s.turns) (ha : p.ent = true → ∀ j ∈ s.known, j ≠ k → (s.pl j).ent = true → (s.pl j).turn ≠ p.turn) : StOk (s.put k p) := by
  have hkn : ∀ j, j ∈ (s.put k p).known ↔ j ∈ s.known ∨ j = k := by
    intro j
    unfold St.put
    by_cases e : k ∈ s.known
    · simp only [if_pos e]
      constructor
      · exact .inl
      · rintro (h | rfl)
        · exact h
        · exact e
    · simp [if_neg e]
  have hpl : ∀ j, (s.put k p).pl j = if j = k then p else s.pl j := fun j => rfl
  refine ⟨?_, ?_, ?_, ?_, ?_, ?_, ?_⟩
  · unfold St.put
    by_cases e : k ∈ s.known
    · simp only [if_pos e]; exact h.known
    · simp only [if_neg e]
      rw [List.nodup_append]
      exact ⟨h.known, by simp, fun a ha' b hb => by simp at hb; subst hb; exact fun e1 => e (e1 ▸ ha')⟩
  · intro j hj
    rcases (hkn j).1 hj with h1 | rfl
    · exact h.range j h1
    · exact hk
  · intro j hj
    have h1 : j ∉ s.known := fun e => hj ((hkn j).2 (.inl e))
    have h2 : j ≠ k := fun e => hj ((hkn j).2 (.inr e))
    rw [hpl, if_neg h2]
    exact h.zero j h1
  · intro j hj he
    rw [hpl] at he ⊢
    by_cases e : j = k
    · rw [if_pos e] at he ⊢; exact ht he
    · rw [if_neg e] at he ⊢
      rcases (hkn j).1 hj with h1 | h1
      · exact h.turn j h1 he
      · exact absurd h1 e
  · intro i hi j hj h1 h2 h3
    rw [hpl] at h1 h3
    rw [hpl] at h2 h3
    by_cases e1 : i = k <;> by_cases e2 : j = k
    · rw [e1, e2]
    · rw [if_pos e1] at h1 h3
      rw [if_neg e2] at h2 h3
      rcases (hkn j).1 hj with h4 | h4
      · exact absurd h3.symm (ha h1 j h4 e2 h2)
      · exact absurd h4 e2
    · rw [if_neg e1] at h1 h3
      rw [if_pos e2] at h2 h3
      rcases (hkn i).1 hi with h4 | h4
      · exact absurd h3 (ha h2 i h4 e1 h1)
      · exact absurd h4 e1
    · rw [if_neg e1] at h1 h3
      rw [if_neg e2] at h2 h3
      rcases (hkn i).1 hi with h4 | h4
      · rcases (hkn j).1 hj with h5 | h5
        · exact h.apart i h4 j h5 h1 h2 h3
        · exact absurd h5 e2
      · exact absurd h4 e1
  · intro j hj
    exact (hkn j).2 (.inl (h.main j hj))
  · intro j hj
    exact (hkn j).2 (.inl (h.cards j hj))

theorem said_ok {s : St} (h : StOk s) (x : Nt) (h0 : 0 ≤ x.player ∧ x.player ≤ 999) (hT : 0 ≤ s.turns) : StOk (s.said x) ∧ 0 ≤ (s.said x).turns := by
  have hz : x.player ∉ s.known → (s.pl x.player).ent = false := fun e => by rw [h.zero _ e]; rfl
  have keep : ∀ (t : Int) (f : Fd) (cs : List Int), s.turns ≤ t → (∀ k ∈ cs, k ∈ s.known) → ∀ p : Pl, p.ent = (s.pl x.player).ent → p.turn = (s.pl x.player).turn → StOk (St.put { s with f := f, turns := t, cards := cs } x.player p) := by
    intro t f cs ht hcs p he hp
    refine put_ok (s := { s with f := f, turns := t, cards := cs }) ⟨h.known, h.range, h.zero, fun k hk e => ⟨(h.turn k hk e).1, Int.lt_of_lt_of_le (h.turn k hk e).2 ht⟩, h.apart, h.main, hcs⟩ h0 p ?_ ?_
    · intro e
      rw [he] at e
      by_cases hk : x.player ∈ s.known
      · have := h.turn _ hk e
        rw [hp]
        exact ⟨this.1, Int.lt_of_lt_of_le this.2 ht⟩
      · rw [hz hk] at e; cases e
    · intro e j hj hne hje e2
      rw [he] at e
      by_cases hk : x.player ∈ s.known
      · exact hne (h.apart j hj _ hk hje e (by rw [← hp]; exact e2))
      · rw [hz hk] at e; cases e
  have keep' := keep s.turns s.f s.cards (Int.le_refl _) h.cards
  unfold St.said
  dsimp only
  split
  · split
    · rename_i hc
      refine ⟨put_ok (s := { s with turns := s.turns + 1 }) ⟨h.known, h.range, h.zero, fun k hk e => ⟨(h.turn k hk e).1, Int.lt_trans (h.turn k hk e).2 (by show s.turns < s.turns + 1; omega)⟩, h.apart, h.main, h.cards⟩ h0 _ (fun _ => ⟨hT, by show s.turns < s.turns + 1; omega⟩) (fun _ j hj _ hje e2 => ?_), ?_⟩
      · have h1 := (h.turn j hj hje).2
        have h2 : (s.pl j).turn = s.turns := e2
        omega
      · show 0 ≤ s.turns + 1
        omega
    · exact ⟨keep' _ rfl rfl, hT⟩
  · split
    · split
      · -- the cards may hold a player who is not known yet: the player is known behind it
        refine ⟨?_, hT⟩
        have h1 := keep' { s.pl x.player with card := true } rfl rfl
        refine ⟨h1.known, h1.range, h1.zero, h1.turn, h1.apart, h1.main, ?_⟩
        intro k hk
        rcases List.mem_append.1 hk with h2 | h2
        · exact h1.cards k h2
        · simp only [List.mem_singleton] at h2
          subst h2
          show x.player ∈ (if x.player ∈ s.known then s.known else s.known ++ [x.player])
          split
          · assumption
          · simp
      · exact ⟨keep' _ rfl rfl, hT⟩
    · split
      · exact ⟨keep s.turns _ _ (Int.le_refl _) (fun k hk => h.cards k (List.mem_filter.1 hk).1) _ rfl rfl, hT⟩
      · split
        · exact ⟨keep' _ rfl rfl, hT⟩
        · exact ⟨keep' _ rfl rfl, hT⟩

theorem fill_known {s : St} (lt : Bool) (K : Int → Prop) : ∀ (l m : List Int) (g : Int), (∀ k ∈ l, K k) → (∀ k ∈ m, K k) → ∀ k ∈ s.fill lt l m g, K k
  | [], m, _, _, hm => hm
  | a :: r, m, g, hl, hm => by
    unfold St.fill
    split
    · refine fill_known lt K r (m ++ [a]) _ (fun k hk => hl k (List.mem_cons_of_mem _ hk)) (fun k hk => ?_)
      rcases List.mem_append.1 hk with h | h
      · exact hm k h
      · simp at h; subst h; exact hl _ (List.mem_cons_self ..)
    · exact fill_known lt K r m g (fun k hk => hl k (List.mem_cons_of_mem _ hk)) hm
theorem settle_ok {s : St} (h : StOk s) (lt : Bool) : StOk (s.settle lt) := by
  refine ⟨h.known, h.range, h.zero, h.turn, h.apart, ?_, h.cards⟩
  refine fill_known lt (fun k => k ∈ s.known) _ _ _ (fun k hk => ?_) (fun k hk => h.main k (List.mem_filter.1 hk).1)
  have := (List.mem_filter.1 hk).1
  exact (order_mem.1 this).1
theorem take_ok {s : St} (h : StOk s) (x : Nt) (h0 : 0 ≤ x.player ∧ x.player ≤ 999) (hT : 0 ≤ s.turns) : StOk (s.take x) ∧ 0 ≤ (s.take x).turns :=
  ⟨settle_ok (said_ok h x h0 hT).1 _, (said_ok h x h0 hT).2⟩

structure Bd (k : Nat) (s : St) : Prop where
  places : s.f.places ≤ 32 + (k : Int)
  main : s.main.length ≤ 32 + k
  cards : s.cards.length ≤ k
  turns : s.turns ≤ (k : Int)
  places0 : 0 ≤ s.f.places
  turns0 : 0 ≤ s.turns
theorem fill_len {s : St} (lt : Bool) (N : Nat) (hp : s.f.places ≤ (N : Int)) : ∀ (l m : List Int) (g : Int), m.length ≤ N → (s.fill lt l m g).length ≤ N
  | [], m, _, hm => hm
  | a :: r, m, g, hm => by
    unfold St.fill
    split
    · rename_i hc
      refine fill_len lt N hp r (m ++ [a]) _ ?_
      rw [List.length_append]
      simp only [List.length_singleton]
      omega
    · exact fill_len lt N hp r m g hm
theorem said_bd {s : St} {k : Nat} (h : Bd k s) (x : Nt) : Bd (k + 1) (s.said x) := by
  have h1 := h.places
  have h2 := h.main
  have h3 := h.cards
  have h4 := h.turns
  have h5 := h.places0
  have h6 := h.turns0
  have base : ∀ p, Bd (k + 1) (s.put x.player p) := fun p => ⟨by show s.f.places ≤ _; omega, by show s.main.length ≤ _; omega, by show s.cards.length ≤ _; omega, by show s.turns ≤ _; omega, h5, h6⟩
  unfold St.said
  dsimp only
  split
  · split
    · exact ⟨by show s.f.places ≤ _; omega, by show s.main.length ≤ _; omega, by show s.cards.length ≤ _; omega, by show s.turns + 1 ≤ _; omega, h5, by show 0 ≤ s.turns + 1; omega⟩
    · exact base _
  · split
    · split
      · exact ⟨by show s.f.places ≤ _; omega, by show s.main.length ≤ _; omega, by show (s.cards ++ [x.player]).length ≤ _; rw [List.length_append]; simp; omega, by show s.turns ≤ _; omega, h5, h6⟩
      · exact base _
    · split
      · have hp : ∀ c : Prop, [Decidable c] → (if c then { s.f with places := s.f.places + 1 } else s.f).places ≤ 32 + ((k + 1 : Nat) : Int) ∧ 0 ≤ (if c then { s.f with places := s.f.places + 1 } else s.f).places := by
          intro c _
          split
          · show s.f.places + 1 ≤ _ ∧ 0 ≤ s.f.places + 1; omega
          · omega
        refine ⟨(hp _).1, by show s.main.length ≤ _; omega, ?_, by show s.turns ≤ _; omega, (hp _).2, h6⟩
        show (s.cards.filter _).length ≤ _
        exact Nat.le_trans (List.length_filter_le _ _) (by omega)
      · split
        · exact base _
        · exact base _
theorem take_bd {s : St} {k : Nat} (h : Bd k s) (x : Nt) : Bd (k + 1) (s.take x) := by
  have h1 := said_bd h x
  refine ⟨h1.places, ?_, h1.cards, h1.turns, h1.places0, h1.turns0⟩
  refine fill_len _ (32 + (k + 1)) ?_ _ _ _ ?_
  · have := h1.places; show (s.said x).f.places ≤ _; push_cast; omega
  · exact Nat.le_trans (List.length_filter_le _ _) h1.main
theorem said_freeze (s : St) (x : Nt) : (s.said x).f.freeze = s.f.freeze := by
  unfold St.said
  dsimp only
  repeat' split
  all_goals (first | rfl | (simp only [St.put]; split <;> rfl))
theorem said_late (s : St) (x : Nt) (h : Int) : late (s.said x).f h = late s.f h := by
  unfold late
  rw [said_freeze]
end E
end Go.Proofs.Ytobjahlmjcnfoaa

namespace Go.Proofs.Ytobjahlmjcnfoaa
open Go

section
variable {P : Program} {ops : Array Oper} {Q : Exit → Act → World → Prop} {md : Region.Mode} {S : World → Prop} {T : Nat}

def wpAnyT (P : Program) (md : Region.Mode) (ops : Array Oper) (Q : Exit → Act → World → Prop) (S : World → Prop) (T : Nat) : Nat → Array Bool → Act → World → Prop
  | 0, listed, a, w => Region.ready md ops listed = [] ∧ Q .normal a w
  | fuel + 1, listed, a, w =>
    (Region.ready md ops listed = [] → Q .normal a w) ∧
    ∀ i ∈ Region.ready md ops listed, wpOp P ops Q i (fun a' w' => (i ≠ T → S w') ∧ wpAnyT P md ops Q S T fuel (listed.setIfInBounds i true) a' w') a w

theorem wpAny_of_T : ∀ (fuel : Nat) (listed : Array Bool) (a : Act) (w : World), wpAnyT P md ops Q S T fuel listed a w → wpAny P md ops Q fuel listed a w
  | 0, _, _, _, h => h
  | fuel + 1, _, _, _, h => ⟨h.1, fun i hi => wpOp_mono (fun a' w' h' => wpAny_of_T fuel _ a' w' h'.2) (h.2 i hi)⟩

def waits (md : Region.Mode) (ops : Array Oper) (T i : Nat) : Bool :=
  match ops[T]? with
  | some o => o.after.any fun e => Region.binds md e && e.on == i
  | none => true

theorem wpAnyT_first {i : Nat} {oi : Oper} {v : Value} (hi : ops[i]? = some oi) (hsel : ∀ (j : Nat) (o : Oper) cs b, ops[j]? = some o → o.op ≠ .select cs b) (hW : waits md ops T i = true)
    (hQ : ∀ c a w, Q (.panic c) (a.put oi.dst v) w → Q (.panic c) a w) :
    ∀ (fuel : Nat) (listed : Array Bool) (a : Act) (w : World),
      (∀ j oj, ops[j]? = some oj → j ≠ i → listed.getD j true = false → (∀ e ∈ oj.after, Region.binds md e = true → e.on ≠ i) → oi.apart ops oj = true) →
      i ∈ Region.ready md ops listed → YieldsIf P ops S oi v a → S w →
      wpAnyT P md ops Q S T fuel (listed.setIfInBounds i true) (a.put oi.dst v) w → wpAnyT P md ops Q S T (fuel + 1) listed a w := by
  intro fuel
  induction fuel with
  | zero =>
    intro listed a w _ hr hy hS H
    refine ⟨fun h => (by rw [h] at hr; cases hr), fun j hj => ?_⟩
    by_cases hji : j = i
    · subst hji; exact hy.wpOp hi hS ⟨fun _ => hS, H⟩
    · have := ready_mono hj hji
      rw [H.1] at this
      cases this
  | succ fuel ih =>
    intro listed a w hfree hr hy hS H
    refine ⟨fun h => (by rw [h] at hr; cases hr), fun j hj => ?_⟩
    by_cases hji : j = i
    · subst hji; exact hy.wpOp hi hS ⟨fun _ => hS, H⟩
    · have h1 := H.2 j (ready_mono hj hji)
      obtain ⟨hjun, oj, hoj, hall⟩ := mem_ready.1 hj
      have hnot : ∀ e ∈ oj.after, Region.binds md e = true → e.on ≠ i := fun e he hb heq => by
        have h1 := hall e he hb
        have h0 := (mem_ready.1 hr).1
        rw [heq] at h1
        rcases Nat.lt_or_ge i listed.size with h' | h'
        · simp [h'] at h0 h1; rw [h0] at h1; cases h1
        · simp [Array.getElem?_eq_none h'] at h1
      have hjT : j ≠ T := fun hjt => by
        subst hjt
        unfold waits at hW
        rw [hoj] at hW
        simp only [Array.any_eq_true'] at hW
        obtain ⟨e, he, hb⟩ := hW
        simp only [Bool.and_eq_true, beq_iff_eq] at hb
        exact hnot e he hb.1 hb.2
      have h2 := wpOp_putIf hoj (hfree j oj hoj hji hjun hnot) (fun cs b => hsel i oi cs b hi) (fun cs b => hsel j oj cs b hoj) hQ hy h1
      have hfree' : ∀ k ok, ops[k]? = some ok → k ≠ i → (listed.setIfInBounds j true).getD k true = false →
          (∀ e ∈ ok.after, Region.binds md e = true → e.on ≠ i) → oi.apart ops ok = true := fun k ok hk hki hun hno => by
        refine hfree k ok hk hki ?_ hno
        by_cases hjk : j = k
        · subst hjk; exact hjun
        · rw [getD_set_ne true hjk] at hun; exact hun
      refine wpOp_mono (fun a' w' h3 => ⟨h3.2.1, ih (listed.setIfInBounds j true) a' w' hfree' (ready_mono hr (Ne.symm hji)) h3.1 (h3.2.1 hjT) ?_⟩) h2
      rw [Array.setIfInBounds_comm _ _ hji]
      exact h3.2.2

def AllReadyT (P : Program) (md : Region.Mode) (ops : Array Oper) (Q : Exit → Act → World → Prop) (S : World → Prop) (T : Nat) (fuel : Nat) (listed : Array Bool) (a : Act) (w : World) (rs : List Nat) : Prop :=
  ∀ i ∈ rs, wpOp P ops Q i (fun a' w' => (i ≠ T → S w') ∧ wpAnyT P md ops Q S T fuel (listed.setIfInBounds i true) a' w') a w
theorem AllReadyT.nil {fuel : Nat} {listed : Array Bool} {a : Act} {w : World} : AllReadyT P md ops Q S T fuel listed a w [] := fun _ h => by cases h
theorem wpAnyT_ready {rs : List Nat} {fuel : Nat} {listed : Array Bool} {a : Act} {w : World} (hr : Region.ready md ops listed = rs) (hne : rs ≠ [])
    (h : AllReadyT P md ops Q S T fuel listed a w rs) : wpAnyT P md ops Q S T (fuel + 1) listed a w :=
  ⟨fun h0 => absurd (hr ▸ h0) hne, hr ▸ h⟩
theorem wpAnyT_done {listed : Array Bool} {a : Act} {w : World} (hr : Region.ready md ops listed = []) (h : Q .normal a w) :
    ∀ fuel, wpAnyT P md ops Q S T fuel listed a w
  | 0 => ⟨hr, h⟩
  | _ + 1 => ⟨fun _ => h, by rw [hr]; simp⟩
theorem wp_region_T_drew {id : Nat} {a : Act} {w : World} (T : Nat) (hm : P.follows .mixedOrders = true) (hS : S w.drew)
    (h : S w.drew → wpAnyT P .any ops Q S T ops.size (Array.replicate ops.size false) a w.drew) : (Code.region id ops true).wp P Q a w :=
  wp_region_any hm (wpAny_of_T _ _ _ _ (h hS))
end

theorem takeT {P : Program} {md : Region.Mode} {l rest : List Oper} {Q : Exit → Act → World → Prop} {S : World → Prop} {T : Nat} {oi : Oper} {v : Value} {fuel : Nat} {listed : Array Bool} {a : Act} {w : World} (i : Nat) (hi : l.drop i = oi :: rest)
    (hW : waits md l.toArray T i = true) (hs : Region.noSelect l.toArray = true) (hf : Region.free md l.toArray listed i = true) (hr : (Region.ready md l.toArray listed).contains i = true)
    (hQ : ∀ c a w, Q (.panic c) (a.put oi.dst v) w → Q (.panic c) a w) (hy : YieldsIf P l.toArray S oi v a) (hS : S w)
    (h : wpAnyT P md l.toArray Q S T fuel (listed.setIfInBounds i true) (a.put oi.dst v) w) : wpAnyT P md l.toArray Q S T (fuel + 1) listed a w :=
  wpAnyT_first (drop_get hi) (Region.noSelect_spec hs) hW hQ fuel listed a w (Region.free_spec (drop_get hi) hf) (by simpa using hr) hy hS h

theorem consT {P : Program} {md : Region.Mode} {l rest : List Oper} {Q : Exit → Act → World → Prop} {S : World → Prop} {T : Nat} {fuel : Nat} {listed : Array Bool} {a : Act} {w : World} {o : Oper} {rs : List Nat} (i : Nat) (ho : l.drop i = o :: rest)
    (h : ∀ K' : Act → World → Prop, Shut (∀ a w, S w → (S w → wpAnyT P md l.toArray Q S T fuel (listed.setIfInBounds i true) a w) → K' a w) → if Region.wanted o (yielded l.toArray a.tmps) = true then Oper.wp P o a w K' Q else K' (a.put o.dst undef) w)
    (hs : AllReadyT P md l.toArray Q S T fuel listed a w rs) : AllReadyT P md l.toArray Q S T fuel listed a w (i :: rs) := fun j hj => by
  rcases List.mem_cons.1 hj with rfl | hj
  · exact wpOp_step (drop_get ho) (fun K' hK => h K' (fun a w hS hW => hK a w ⟨fun _ => hS, hW hS⟩))
  · exact hs j hj

theorem lastT {P : Program} {md : Region.Mode} {l rest : List Oper} {Q : Exit → Act → World → Prop} {S : World → Prop} {T : Nat} {fuel : Nat} {listed : Array Bool} {a : Act} {w : World} {o : Oper} (ho : l.drop T = o :: rest)
    (h : ∀ K' : Act → World → Prop, Shut (∀ a w, wpAnyT P md l.toArray Q S T fuel (listed.setIfInBounds T true) a w → K' a w) → if Region.wanted o (yielded l.toArray a.tmps) = true then Oper.wp P o a w K' Q else K' (a.put o.dst undef) w) :
    AllReadyT P md l.toArray Q S T fuel listed a w [T] := fun j hj => by
  have e : j = T := by simpa using hj
  subst e
  exact wpOp_step (drop_get ho) (fun K' hK => h K' (fun a w hW => hK a w ⟨fun h => absurd rfl h, hW⟩))

end Go.Proofs.Ytobjahlmjcnfoaa

namespace Go.Proofs.Ytobjahlmjcnfoaa
open Go.RowKit Go.Sort

theorem run_app_loc {w : World} (ty : TypeId) (base : Nat) (v : Value) (ps : List Int) (m0 : Nat) (hown : w.ownsRow base 3 1 v m0 (flatI ps))
    (q : Nat) (x : Int) (hq : w.heap[q]? = some (.cells #[.int .i64 x] 3 (0, 0))) (h0 : m0 ≤ 1000) (hbase : base ≤ w.heap.size) :
    ∃ A' c' w', (Builtin.append_ #[31, 31] ty #[v, .slice (some ⟨q, 0, none⟩) 1 1]).run Try.prog w = .ok (.slice A' (m0 + 1) c') w' ∧ w'.ownsRow base 3 1 (.slice A' (m0 + 1) c') (m0 + 1) (flatI (ps ++ [x])) ∧ w.grownBy w' v.ownBlock ∧ (∀ g, (Value.slice A' (m0 + 1) c').ownBlock = some g → v.ownBlock = some g ∨ w.heap.size ≤ g) := by
  obtain ⟨i, hi, hz0, hz1, hz2⟩ := info_parts int_info
  obtain ⟨v', w', hrun, h2, h3, _, h5⟩ := run_append_own_at (P := Try.prog) w base 31 ty 3 i _ 1 8 Try.underlying31 hi hz0 hz1 hz2 (by rfl) (by decide) v m0 (flatI ps) hown ⟨q, 0, none⟩ 1 1 (flatI [x]) rfl (by
    intro j u hj
    match j, hj with
    | 0, hj =>
      have e : Value.int .i64 x = u := Option.some.inj hj
      rw [add_plain, ← e]
      exact (blk_cell hq 0).trans rfl
    | j + 1, hj => cases hj) (flatI_one [x]) (by unfold maxLen; omega) (by omega) hbase
  obtain ⟨A', c', rfl⟩ := own_form h2
  refine ⟨A', c', w', hrun, by rw [flatI_app]; exact h2, h3, fun g hg => ?_⟩
  rcases h5 with e | e
  · exact .inl (e ▸ hg)
  · rw [hg] at e
    exact .inr (by have := Option.some.inj e; omega)

theorem step_app_loc {w : World} {ops : Array Oper} {o : Oper} {a : Act} {K : Act → World → Prop} {Q : Exit → Act → World → Prop} {E : Prop} (hgd : o.guard = none) (s x : Operand)
    (ho : o.op = .call { callee := .builtin .append, args := #[s, x], argTypes := #[31, 31] }) (base : Nat) (v : Value) (ps : List Int) (m0 : Nat) (hs : a.eval s = v) (hown : w.ownsRow base 3 1 v m0 (flatI ps))
    (q : Nat) (y : Int) (hx : a.eval x = .slice (some ⟨q, 0, none⟩) 1 1) (hq : w.heap[q]? = some (.cells #[.int .i64 y] 3 (0, 0))) (h0 : m0 ≤ 1000) (hbase : base ≤ w.heap.size) (N : Nat) (hN : m0 + 1 = N)
    (h : ∀ A' c' w', w'.ownsRow base 3 1 (.slice A' N c') N (flatI (ps ++ [y])) → w.grownBy w' v.ownBlock → (∀ g, (Value.slice A' N c').ownBlock = some g → v.ownBlock = some g ∨ w.heap.size ≤ g) → K (a.put o.dst (.slice A' N c')) w') :
    if Region.wanted o (yielded ops a.tmps) = true then Oper.wp Try.prog o a w K Q else E := by
  subst hN
  have hw : Region.wanted o (yielded ops a.tmps) = true := by simp [Region.wanted, hgd]
  rw [if_pos hw]
  obtain ⟨A', c', w', hr', h2, h3, h4⟩ := run_app_loc o.type base v ps m0 hown q y hq h0 hbase
  unfold Oper.wp execOp
  simp only [ho, resolve, invoke, builtin, Sem.run_bind, Sem.run_pure, Result.andThen_ok, List.map_toArray, List.map_cons, List.map_nil, hs, hx, hr']
  exact h A' c' w' h2 h3 h4
end Go.Proofs.Ytobjahlmjcnfoaa

namespace Go.Proofs.Ytobjahlmjcnfoaa
open Go.RowKit Go.Sort
attribute [local go_sem ↓] Go.wp_at_zero Go.wp_at_succ

theorem own_len {w : World} {base : Nat} {e : TypeId} {n m c size : Nat} {xs : List Value} {A : Option Addr} (h : w.ownsRow base e size (.slice A m c) n xs) : m = n := by
  rcases h.2 with ⟨h1, h2⟩ | ⟨g, cap, cur, h1, _⟩
  · simp only [Value.slice.injEq] at h1; omega
  · simp only [Value.slice.injEq] at h1; exact h1.2.1
theorem gr_drew (w : World) (row : Option Nat) : w.grownBy w.drew row := ⟨rfl, rfl, rfl, Nat.le_refl _, fun _ _ _ => rfl⟩
def regOf (n : Nat) : Code → Option Code
  | .region k ops d => if k == n then some (.region k ops d) else none
  | .seq a b => match regOf n a with
    | some c => some c
    | none => regOf n b
  | .block _ c => regOf n c
  | .loop c => regOf n c
  | .cond _ a b => match regOf n a with
    | some c => some c
    | none => regOf n b
  | _ => none
noncomputable def setReg (n : Nat) : Code := ((Try.f65.body.bind (regOf n)).getD .skip)

set_option maxRecDepth 100000 in
set_option maxHeartbeats 64000000 in
theorem set13 {K : Act → World → Prop} {Q : Exit → Act → World → Prop} (hp : ∀ c a d v w, Q (.panic c) (Act.put a d v) w → Q (.panic c) a w) (base bl L B n : Nat) (s : E.St) (mv cv : Value) (k : Int) (W1 : World) (hbl : W1.heap[bl]? = some (.cells #[.pointer (some ⟨L, 0, none⟩)] 71 (0, 0))) (h : LAt W1 base L B n s mv cv) (hbase : base ≤ W1.heap.size) (hml : s.main.length ≤ 900) (f0 f1 f3 f4 f5 f6 f7 f9 f10 f11 f12 f13 f14 f15 f16 f17 f18 f19 f20 f21 f22 f23 f24 f25 f26 f27 f28 f29 f30 f31 f32 f33 f34 f35 f36 f37 f38 f39 f40 f41 f42 f43 f44 f45 f46 f47 f48 f49 f50 f51 f52 f53 f54 f55 f56 f57 f58 f59 f60 f61 f62 f63 f64 f65 f66 f67 f68 f69 f70 f71 f72 f73 f74 f75 f76 f77 f78 f79 f80 f81 f82 f83 f84 f85 f86 f87 f88 f89 f90 f91 f92 f93 f94 f95 f96 f97 f98 f99 f100 : Value)
    (hK : ∀ (u85 u86 u87 u88 u89 u90 u91 u92 u93 u94 : Value) (mv' : Value) (W2 : World), Hid (LAt W2 base L B n { s with main := s.main ++ [k] } mv' cv) → Hid (∀ b, b < W1.heap.size → b ≠ L → some b ≠ mv.ownBlock → W2.heap[b]? = W1.heap[b]?) → Hid (Below base W1 W2) → Hid (∀ g, mv'.ownBlock = some g → mv.ownBlock = some g ∨ W1.heap.size ≤ g) → K ⟨#[f0, f1, .pointer (some ⟨bl, 0, none⟩), f3, f4, f5, f6, f7, .int .i64 k, f9, f10, f11, f12, f13, f14, f15, f16, f17, f18, f19, f20, f21, f22, f23, f24, f25, f26, f27, f28, f29, f30, f31, f32, f33, f34, f35, f36, f37, f38, f39, f40, f41, f42, f43, f44, f45, f46, f47, f48, f49, f50, f51, f52, f53, f54, f55, f56, f57, f58, f59, f60, f61, f62, f63, f64, f65, f66, f67, f68, f69, f70, f71, f72, f73, f74, f75, f76, f77, f78, f79, f80, f81, f82, f83, f84, u85, u86, u87, u88, u89, u90, u91, u92, u93, u94, f95, f96, f97, f98, f99, f100], []⟩ W2) :
    Code.wp Try.prog (setReg 13) (Exit.then K Q) ⟨#[f0, f1, .pointer (some ⟨bl, 0, none⟩), f3, f4, f5, f6, f7, .int .i64 k, f9, f10, f11, f12, f13, f14, f15, f16, f17, f18, f19, f20, f21, f22, f23, f24, f25, f26, f27, f28, f29, f30, f31, f32, f33, f34, f35, f36, f37, f38, f39, f40, f41, f42, f43, f44, f45, f46, f47, f48, f49, f50, f51, f52, f53, f54, f55, f56, f57, f58, f59, f60, f61, f62, f63, f64, f65, f66, f67, f68, f69, f70, f71, f72, f73, f74, f75, f76, f77, f78, f79, f80, f81, f82, f83, f84, f85, f86, f87, f88, f89, f90, f91, f92, f93, f94, f95, f96, f97, f98, f99, f100], []⟩ W1 := by
  conv => arg 2; whnf
  obtain ⟨mA, mc, hmv⟩ := own_form h.main
  have hSof : ∀ v, W1.grownBy v mv.ownBlock → (fun w' => W1.grownBy w' mv.ownBlock ∧ w'.cell? ⟨bl, 0, none⟩ = some (.pointer (some ⟨L, 0, none⟩)) ∧ w'.cell? ⟨L, 7, none⟩ = some mv ∧ w'.frozen? ⟨L, 7, none⟩ = false) v := by
    intro v hg
    have e1 := gr_cell hg (blk_lt hbl) (fun e => row_ne h.main hbl (by decide) e.symm) 0
    have hL := (hg.block L h.lt (fun e => h.mainL e.symm)).trans h.blk
    exact ⟨hg, e1.trans ((blk_cell hbl 0).trans rfl), (blk_cell hL 7).trans rfl, blk_frozen hL 7⟩
  have hS : (fun w' => W1.grownBy w' mv.ownBlock ∧ w'.cell? ⟨bl, 0, none⟩ = some (.pointer (some ⟨L, 0, none⟩)) ∧ w'.cell? ⟨L, 7, none⟩ = some mv ∧ w'.frozen? ⟨L, 7, none⟩ = false) W1 := hSof _ (World.grownBy.refl _ _)
  (try dsimp only at hS)
  have HH := hide h
  have HO := hide h.main
  have HML := hide hml
  have HBS := hide hbase
  have HMV := hide hmv
  clear h hbl hml hbase hmv
  refine wp_region_T_drew (S := (fun w' => W1.grownBy w' mv.ownBlock ∧ w'.cell? ⟨bl, 0, none⟩ = some (.pointer (some ⟨L, 0, none⟩)) ∧ w'.cell? ⟨L, 7, none⟩ = some mv ∧ w'.frozen? ⟨L, 7, none⟩ = false)) 10 (by kernel_rfl) ?_ (fun hD0 => ?_)
  · (try dsimp only); first | assumption | exact hSof _ (gr_trans hD0.1 (World.grownBy_alloc _ _ _)) | exact hSof _ (World.grownBy.refl _ _) | exact hSof _ hD0.1 | exact hSof _ (gr_drew _ _)
  refine takeT (v := ?_) 0 rfl (by kernel_rfl) (by kernel_rfl) (by kernel_rfl) (by kernel_rfl) (fun _ _ _ h => hp _ _ _ _ _ h) (Or.inl ⟨by rfl, ?_⟩) (by assumption) ?_; rotate_left
  · (intro w hSw; (try dsimp only at hSw); go_simp; try with_reducible rfl)
  try simp only [Act.put, zl, z0, z1]
  refine takeT (v := ?_) 1 rfl (by kernel_rfl) (by kernel_rfl) (by kernel_rfl) (by kernel_rfl) (fun _ _ _ h => hp _ _ _ _ _ h) (Or.inl ⟨by rfl, ?_⟩) (by assumption) ?_; rotate_left
  · (intro w hSw; (try dsimp only at hSw); go_simp; try with_reducible rfl)
  try simp only [Act.put, zl, z0, z1]
  refine takeT (v := ?_) 2 rfl (by kernel_rfl) (by kernel_rfl) (by kernel_rfl) (by kernel_rfl) (fun _ _ _ h => hp _ _ _ _ _ h) (Or.inl ⟨by rfl, ?_⟩) (by assumption) ?_; rotate_left
  · (intro w hSw; (try dsimp only at hSw); go_simp; try with_reducible rfl)
  try simp only [Act.put, zl, z0, z1]
  refine takeT (v := ?_) 3 rfl (by kernel_rfl) (by kernel_rfl) (by kernel_rfl) (by kernel_rfl) (fun _ _ _ h => hp _ _ _ _ _ h) (Or.inl ⟨by rfl, ?_⟩) (by assumption) ?_; rotate_left
  · (intro w hSw; (try dsimp only at hSw); go_simp; try with_reducible rfl)
  try simp only [Act.put, zl, z0, z1]
  refine takeT (v := ?_) 4 rfl (by kernel_rfl) (by kernel_rfl) (by kernel_rfl) (by kernel_rfl) (fun _ _ _ h => hp _ _ _ _ _ h) (Or.inl ⟨by rfl, ?_⟩) (by assumption) ?_; rotate_left
  · (intro w hSw; (try dsimp only at hSw); go_simp; try with_reducible rfl)
  try simp only [Act.put, zl, z0, z1]
  refine takeT (v := ?_) 5 rfl (by kernel_rfl) (by kernel_rfl) (by kernel_rfl) (by kernel_rfl) (fun _ _ _ h => hp _ _ _ _ _ h) (Or.inl ⟨by rfl, ?_⟩) (by assumption) ?_; rotate_left
  · (intro w hSw; (try dsimp only at hSw); go_simp; try with_reducible rfl)
  try simp only [Act.put, zl, z0, z1]
  refine wpAnyT_ready (rs := [6]) (by kernel_rfl) (by simp) ?_; refine consT 6 rfl (fun K hK => ?_) AllReadyT.nil
  (go_simp; (first | refine cap_alloc (K := K) (O := (.cells #[.int .i64 k] 3 (0, 0))) (fun hG hb hle => ?_) | refine cap_allocD (K := K) (O := (.cells #[.int .i64 k] 3 (0, 0))) (fun hG hb hle => ?_)); (try simp only [World.size_alloc, drew_size] at hG); have H6 := hide hG; replace HO := hide (HO.out.alloc (.cells #[.int .i64 k] 3 (0, 0))); clear hG hle hb)
  refine hK.out _ _ ?_ (fun hD1 => ?_)
  · (try dsimp only); first | assumption | exact hSof _ (gr_trans hD0.1 (World.grownBy_alloc _ _ _)) | exact hSof _ (World.grownBy.refl _ _) | exact hSof _ hD0.1 | exact hSof _ (gr_drew _ _)
  clear hK K hD0; try simp only [Act.put, zl, z0, z1]
  refine wpAnyT_ready (rs := [7]) (by kernel_rfl) (by simp) ?_; refine consT 7 rfl (fun K hK => ?_) AllReadyT.nil
  (refine step_app_loc rfl (.tmp 89) (.tmp 91) rfl base mv s.main s.main.length rfl HO.out _ k rfl H6.out (by have := HML.out; omega) (by have := HBS.out; have := hD1.1.size; omega) (s.main ++ [k]).length (by simp) ?_; intro A2 c2 w9 hown2 hgrow hloc; have hSn := hSof _ (gr_trans hD1.1 hgrow); have HO2 := hide hown2; have HLC := hide hloc; have HQ := hide (hD1.1.size); clear hown2 hgrow hloc; (try dsimp only at hSn))
  refine hK.out _ _ ?_ (fun hD2 => ?_)
  · (try dsimp only); first | assumption | exact hSof _ (gr_trans hD1.1 (World.grownBy_alloc _ _ _)) | exact hSof _ (World.grownBy.refl _ _) | exact hSof _ hD1.1 | exact hSof _ (gr_drew _ _)
  clear hK K hD1; try simp only [Act.put, zl, z0, z1]
  refine wpAnyT_ready (rs := [8]) (by kernel_rfl) (by simp) ?_; refine consT 8 rfl (fun K hK => ?_) AllReadyT.nil; go_simp
  refine hK.out _ _ ?_ (fun hD3 => ?_)
  · (try dsimp only); first | exact hD2 | (first | assumption | exact hSof _ (gr_trans «H».1 (World.grownBy_alloc _ _ _)) | exact hSof _ (World.grownBy.refl _ _) | exact hSof _ «H».1 | exact hSof _ (gr_drew _ _))
  clear hK K hD2; try simp only [Act.put, zl, z0, z1]
  refine takeT (v := ?_) 9 rfl (by kernel_rfl) (by kernel_rfl) (by kernel_rfl) (by kernel_rfl) (fun _ _ _ h => hp _ _ _ _ _ h) (Or.inl ⟨by rfl, ?_⟩) (by assumption) ?_; rotate_left
  · (intro w hSw; (try dsimp only at hSw); go_simp; try with_reducible rfl)
  try simp only [Act.put, zl, z0, z1]
  refine wpAnyT_ready (rs := [10]) (by kernel_rfl) (by simp) ?_
  refine lastT rfl (fun K hK => ?_)
  (try dsimp only at hD3)
  go_simp
  refine hK.out _ _ ?_
  clear hK K
  try simp only [Act.put, zl, z0, z1]
  refine wpAnyT_done (by kernel_rfl) ?_ _
  (try dsimp only [Act.put, List.getElem_toArray, List.getElem_cons_succ, List.getElem_cons_zero])
  (try simp only [zl, z0, z1])
  have hG9 := hSn.1
  have HO3 : w9.ownsRow base 3 1 (.slice A2 (s.main.length + 1) c2) (s.main ++ [k]).length (flatI (s.main ++ [k])) := by
    have := HO2.out
    rw [List.length_append] at this ⊢
    exact this
  have hLC : ∀ g, (Value.slice A2 (s.main.length + 1) c2).ownBlock = some g → mv.ownBlock = some g ∨ W1.heap.size ≤ g := fun g hg => (HLC.out g (by rw [List.length_append]; exact hg)).imp id (fun h => Nat.le_trans HQ.out h)
  exact hK _ _ _ _ _ _ _ _ _ _ _ _ (hide (HH.out.setMain hG9 HO3 hLC)) (hide (fun b hb h1 h2 => (Below.heap_setCell w9 ⟨L, 7, none⟩ _ b h1).trans (hG9.block b hb h2))) (hide ((grown_below hG9 HBS.out (fun g hg => (HH.out.main.lt g hg).1)).setCell HH.out.lowL _)) (hide hLC)

end Go.Proofs.Ytobjahlmjcnfoaa

namespace Go.Proofs.Ytobjahlmjcnfoaa
open Go.RowKit Go.Sort

theorem stTake {P : Program} {ops : Array Oper} {w : World} {Q : Act → Prop} {a : Act} {o : Oper} {rest : List Oper} {v : Value} (hw : Region.wanted o (yielded ops a.tmps) = true) (hx : (execOp a.eval o).run P w = .ok (.value v) w) (h : wpStill P ops w Q rest (a.put o.dst v)) : wpStill P ops w Q (o :: rest) a := by
  unfold wpStill
  rw [if_pos hw]
  unfold Oper.still
  rw [hx, Oper.stillUpon_value]
  exact h
theorem stSkip {P : Program} {ops : Array Oper} {w : World} {Q : Act → Prop} {a : Act} {o : Oper} {rest : List Oper} (hw : Region.wanted o (yielded ops a.tmps) = false) (h : wpStill P ops w Q rest (a.put o.dst undef)) : wpStill P ops w Q (o :: rest) a := by
  unfold wpStill
  rw [if_neg (by rw [hw]; simp)]
  exact h
theorem stCall {P : Program} {ops : Array Oper} {w : World} {Q : Act → Prop} {a : Act} {o : Oper} {rest : List Oper} {v : Value} {f : FuncId} {args : Array Value} (hw : Region.wanted o (yielded ops a.tmps) = true) (hx : (execOp a.eval o).run P w = .ok (.enter f args) w) (hc : Calls P f args w fun e w' => e = .returned v ∧ w' = w) (h : wpStill P ops w Q rest (a.put o.dst v)) : wpStill P ops w Q (o :: rest) a := by
  unfold wpStill
  rw [if_pos hw]
  unfold Oper.still
  rw [hx]
  exact ⟨rfl, v, hc, h⟩
end Go.Proofs.Ytobjahlmjcnfoaa

namespace Go.Proofs.Ytobjahlmjcnfoaa
open Go.RowKit Go.Sort
attribute [local go_sem ↓] Go.wp_at_zero Go.wp_at_succ

noncomputable def takeReg (n : Nat) : Code := ((Try.f46.body.bind (regOf n)).getD .skip)

theorem cap_row1 {K : Act → World → Prop} {a : Act} {u : World} {b : Nat} {cs old : Array Value} {t : TypeId} (hb : u.heap[b]? = some (.cells old t (0, 0)))
    (h : ∀ W', W'.heap[b]? = some (.cells cs t (0, 0)) → (∀ W0 : World, Below W0.heap.size W0 u → W0.heap.size ≤ b → Below W0.heap.size W0 W') → K a W') : K a (u.setRow b cs) :=
  h _ (by
    unfold World.setRow
    show (u.heap.modify b _)[b]? = _
    obtain ⟨hlt, hk⟩ := Array.getElem?_eq_some_iff.1 hb
    rw [Array.getElem?_eq_getElem (by rw [Array.size_modify]; exact hlt), Array.getElem_modify_self, hk]) (fun W0 hB hle => below_row hB hle cs)

set_option maxRecDepth 100000 in
set_option maxHeartbeats 64000000 in
theorem take1 {K : Act → World → Prop} {Q : Exit → Act → World → Prop} (hp : ∀ c a d v w, Q (.panic c) (Act.put a d v) w → Q (.panic c) a w) (base bx L B n : Nat) (s : E.St) (mv cv : Value) (x : E.Nt) (W1 : World) (hbx : W1.heap[bx]? = some (.cells #[.int .i64 x.id, .int .i64 x.hour, .int .i64 x.kind, .int .i64 x.player, .int .i64 x.rank] 40 (0, 0))) (h : LAt W1 base L B n s mv cv) (hx0 : 0 ≤ x.player) (hx1 : x.player ≤ 999) (f1 f2 f4 f5 f6 f7 f8 f9 f10 f11 f12 f13 f14 f15 f16 f17 f18 f19 f20 f21 f22 f23 f24 f25 f26 f27 f28 f29 f30 f31 f32 f33 f34 f35 f36 f37 f38 f39 f40 f41 f42 f43 f44 f45 f46 f47 f48 f49 f50 f51 f52 f53 f54 f55 f56 f57 f58 f59 f60 f61 f62 f63 f64 f65 f66 f67 f68 f69 f70 f71 f72 f73 f74 f75 f76 f77 f78 f79 f80 f81 f82 f83 f84 f85 f86 f87 f88 f89 f90 f91 f92 f93 f94 f95 f96 f97 f98 f99 f100 f101 f102 f103 f104 f105 f106 f107 f108 f109 f110 f111 f112 f113 f114 f115 f116 f117 f118 f119 f120 f121 f122 f123 f124 f125 f126 f127 f128 f129 f130 f131 f132 f133 f134 f135 f136 f137 f138 f139 f140 f141 : Value)
    (hK : ∀ (u5 u6 u7 u8 u9 u10 u11 : Value) (g : Nat) (W2 : World), Hid (W2.heap[g]? = some (.cells #[.bool (s.pl x.player).ent, .bool (s.pl x.player).grd, .bool (s.pl x.player).card, .bool (s.pl x.player).quit, .bool (s.pl x.player).sgn, .int .i64 (s.pl x.player).rank, .int .i64 (s.pl x.player).turn] 112 (0, 0))) → Hid (W1.heap.size ≤ g) → Hid (Below W1.heap.size W1 W2) → K ⟨#[.pointer (some ⟨L, 0, none⟩), f1, f2, .pointer (some ⟨bx, 0, none⟩), .pointer (some ⟨g, 0, none⟩), u5, u6, u7, u8, u9, u10, u11, f12, f13, f14, f15, f16, f17, f18, f19, f20, f21, f22, f23, f24, f25, f26, f27, f28, f29, f30, f31, f32, f33, f34, f35, f36, f37, f38, f39, f40, f41, f42, f43, f44, f45, f46, f47, f48, f49, f50, f51, f52, f53, f54, f55, f56, f57, f58, f59, f60, f61, f62, f63, f64, f65, f66, f67, f68, f69, f70, f71, f72, f73, f74, f75, f76, f77, f78, f79, f80, f81, f82, f83, f84, f85, f86, f87, f88, f89, f90, f91, f92, f93, f94, f95, f96, f97, f98, f99, f100, f101, f102, f103, f104, f105, f106, f107, f108, f109, f110, f111, f112, f113, f114, f115, f116, f117, f118, f119, f120, f121, f122, f123, f124, f125, f126, f127, f128, f129, f130, f131, f132, f133, f134, f135, f136, f137, f138, f139, f140, f141], []⟩ W2) :
    Code.wp Try.prog (takeReg 1) (Exit.then K Q) ⟨#[.pointer (some ⟨L, 0, none⟩), f1, f2, .pointer (some ⟨bx, 0, none⟩), f4, f5, f6, f7, f8, f9, f10, f11, f12, f13, f14, f15, f16, f17, f18, f19, f20, f21, f22, f23, f24, f25, f26, f27, f28, f29, f30, f31, f32, f33, f34, f35, f36, f37, f38, f39, f40, f41, f42, f43, f44, f45, f46, f47, f48, f49, f50, f51, f52, f53, f54, f55, f56, f57, f58, f59, f60, f61, f62, f63, f64, f65, f66, f67, f68, f69, f70, f71, f72, f73, f74, f75, f76, f77, f78, f79, f80, f81, f82, f83, f84, f85, f86, f87, f88, f89, f90, f91, f92, f93, f94, f95, f96, f97, f98, f99, f100, f101, f102, f103, f104, f105, f106, f107, f108, f109, f110, f111, f112, f113, f114, f115, f116, f117, f118, f119, f120, f121, f122, f123, f124, f125, f126, f127, f128, f129, f130, f131, f132, f133, f134, f135, f136, f137, f138, f139, f140, f141], []⟩ W1 := by
  conv => arg 2; whnf
  obtain ⟨p, hpl⟩ : ∃ p, s.pl x.player = p := ⟨_, rfl⟩
  rw [hpl] at hK
  have hSof : ∀ v, Below W1.heap.size W1 v → (fun w' => Below W1.heap.size W1 w' ∧ w'.cell? ⟨L, 5, none⟩ = some (.map (some B)) ∧ w'.cell? ⟨bx, 3, none⟩ = some (.int .i64 x.player) ∧ (Instr.lookup 93 (.map (some B)) (.int .i64 x.player) false).run Try.prog w' = .ok (.agg #[.bool p.ent, .bool p.grd, .bool p.card, .bool p.quit, .bool p.sgn, .int .i64 p.rank, .int .i64 p.turn]) w') v := by
    intro v hb
    have hLv := h.below hb
    have hxv := (hb.block bx (blk_lt hbx)).trans hbx
    refine ⟨hb, (hLv.c 5).trans rfl, (blk_cell hxv 3).trans rfl, ?_⟩
    have := hLv.map.look Try.underlying93 zeroP hx0 hx1
    rw [hpl] at this; exact this
  have hS : (fun w' => Below W1.heap.size W1 w' ∧ w'.cell? ⟨L, 5, none⟩ = some (.map (some B)) ∧ w'.cell? ⟨bx, 3, none⟩ = some (.int .i64 x.player) ∧ (Instr.lookup 93 (.map (some B)) (.int .i64 x.player) false).run Try.prog w' = .ok (.agg #[.bool p.ent, .bool p.grd, .bool p.card, .bool p.quit, .bool p.sgn, .int .i64 p.rank, .int .i64 p.turn]) w') W1 := hSof _ (zbR _ _)
  (try dsimp only at hS)
  have HH := hide h
  clear h hbx hx0 hx1 hpl
  refine wp_region_held_drew (S := (fun w' => Below W1.heap.size W1 w' ∧ w'.cell? ⟨L, 5, none⟩ = some (.map (some B)) ∧ w'.cell? ⟨bx, 3, none⟩ = some (.int .i64 x.player) ∧ (Instr.lookup 93 (.map (some B)) (.int .i64 x.player) false).run Try.prog w' = .ok (.agg #[.bool p.ent, .bool p.grd, .bool p.card, .bool p.quit, .bool p.sgn, .int .i64 p.rank, .int .i64 p.turn]) w')) (by kernel_rfl) ?_ (fun hD0 => ?_)
  · (try dsimp only); first | assumption | exact hSof _ (zbA hD0.1 hD0.1.size _) | exact hSof _ (zbD (zbA hD0.1 hD0.1.size _)) | exact hSof _ (zbD hD0.1) | exact hSof _ (zbD (zbR _ _))
  refine tL (v := ?_) 0 rfl (by kernel_rfl) (fun _ _ _ h => hp _ _ _ _ _ h) (Or.inl ⟨by rfl, ?_⟩) (by assumption) ?_; rotate_left
  · (intro w hSw; (try dsimp only at hSw); go_simp; try with_reducible rfl)
  try simp only [Act.put, zl, z0, z1]
  refine tL (v := ?_) 1 rfl (by kernel_rfl) (fun _ _ _ h => hp _ _ _ _ _ h) (Or.inl ⟨by rfl, ?_⟩) (by assumption) ?_; rotate_left
  · (intro w hSw; (try dsimp only at hSw); go_simp; try with_reducible rfl)
  try simp only [Act.put, zl, z0, z1]
  refine tL (v := ?_) 2 rfl (by kernel_rfl) (fun _ _ _ h => hp _ _ _ _ _ h) (Or.inl ⟨by rfl, ?_⟩) (by assumption) ?_; rotate_left
  · (intro w hSw; (try dsimp only at hSw); go_simp; try with_reducible rfl)
  try simp only [Act.put, zl, z0, z1]
  refine tL (v := ?_) 3 rfl (by kernel_rfl) (fun _ _ _ h => hp _ _ _ _ _ h) (Or.inl ⟨by rfl, ?_⟩) (by assumption) ?_; rotate_left
  · (intro w hSw; (try dsimp only at hSw); go_simp; try with_reducible rfl)
  try simp only [Act.put, zl, z0, z1]
  refine tL (v := ?_) 4 rfl (by kernel_rfl) (fun _ _ _ h => hp _ _ _ _ _ h) (Or.inl ⟨by rfl, ?_⟩) (by assumption) ?_; rotate_left
  · (intro w hSw; (try dsimp only at hSw); go_simp; try with_reducible rfl)
  try simp only [Act.put, zl, z0, z1]
  refine tL (v := ?_) 5 rfl (by kernel_rfl) (fun _ _ _ h => hp _ _ _ _ _ h) (Or.inl ⟨by rfl, ?_⟩) (by assumption) ?_; rotate_left
  · (intro w hSw; (try dsimp only at hSw); go_simp; try with_reducible rfl)
  try simp only [Act.put, zl, z0, z1]
  refine tL (v := ?_) 6 rfl (by kernel_rfl) (fun _ _ _ h => hp _ _ _ _ _ h) (Or.inl ⟨by rfl, ?_⟩) (by assumption) ?_; rotate_left
  · (intro w hSw; (try dsimp only at hSw); go_simp; try with_reducible rfl)
  try simp only [Act.put, zl, z0, z1]
  refine wpAnyH_ready (rs := [7]) (by kernel_rfl) (by simp) ?_; refine consL 7 rfl (fun K hK => ?_) AllReadyH.nil
  (go_simp; (first | refine cap_alloc (K := K) (O := (.cells #[.bool false, .bool false, .bool false, .bool false, .bool false, .int .i64 0, .int .i64 0] 112 (0, 0))) (fun hG hb hle => ?_) | refine cap_allocD (K := K) (O := (.cells #[.bool false, .bool false, .bool false, .bool false, .bool false, .int .i64 0, .int .i64 0] 112 (0, 0))) (fun hG hb hle => ?_)); (try simp only [World.size_alloc, drew_size] at hG); have H6 := hide hG; clear hG hle hb)
  refine hK.out _ _ ?_ (fun hD1 => ?_)
  · (try dsimp only); first | assumption | exact hSof _ (zbA hD0.1 hD0.1.size _) | exact hSof _ (zbD (zbA hD0.1 hD0.1.size _)) | exact hSof _ (zbD hD0.1) | exact hSof _ (zbD (zbR _ _))
  clear hK K hD0; try simp only [Act.put, zl, z0, z1]
  refine wpAnyH_ready (rs := [8]) (by kernel_rfl) (by simp) ?_; refine consL 8 rfl (fun K hK => ?_) AllReadyH.nil
  (refine step_row rfl 112 (.tmp 4) (.tmp 11) rfl _ _ rfl rfl 112 _ H6.out plRow rfl (by simp [Value.oneCell']) ?_; refine cap_row1 H6.out (fun W9 hr hgb => ?_); have hSn := hSof _ (hgb _ hD1.1 (by first | exact Nat.le_refl _ | omega)); have R6 := hide hr; clear hr hgb; (try dsimp only at hSn))
  refine hK.out _ _ ?_ (fun hD2 => ?_)
  · (try dsimp only); first | assumption | exact hSof _ (zbA hD1.1 hD1.1.size _) | exact hSof _ (zbD (zbA hD1.1 hD1.1.size _)) | exact hSof _ (zbD hD1.1) | exact hSof _ (zbD (zbR _ _))
  clear hK K hD1; try simp only [Act.put, zl, z0, z1]
  refine wpAnyH_done (by kernel_rfl) ?_ _
  (try dsimp only [Act.put, List.getElem_toArray, List.getElem_cons_succ, List.getElem_cons_zero])
  (try simp only [zl, z0, z1])
  exact hK _ _ _ _ _ _ _ _ _ R6 (hide (Nat.le_refl _)) (hide hSn.1)

set_option maxRecDepth 100000 in
set_option maxHeartbeats 64000000 in
theorem take5 {K : Act → World → Prop} {Q : Exit → Act → World → Prop} (hp : ∀ c a d v w, Q (.panic c) (Act.put a d v) w → Q (.panic c) a w) (base bx L B n g : Nat) (s : E.St) (mv cv : Value) (x : E.Nt) (p : E.Pl) (d : Bool) (W1 : World) (hbx : W1.heap[bx]? = some (.cells #[.int .i64 x.id, .int .i64 x.hour, .int .i64 x.kind, .int .i64 x.player, .int .i64 x.rank] 40 (0, 0))) (h : LAt W1 base L B n s mv cv) (hg : W1.heap[g]? = some (.cells #[.bool p.ent, .bool p.grd, .bool p.card, .bool p.quit, .bool p.sgn, .int .i64 p.rank, .int .i64 p.turn] 112 (0, 0))) (hd : d = (decide (x.hour ≤ s.f.close) && !p.ent)) (f1 f2 f5 f6 f7 f8 f9 f10 f11 f12 f13 f14 f15 f16 f17 f18 f19 f20 f21 f22 f23 f24 f25 f26 f27 f28 f29 f30 f31 f32 f33 f34 f35 f36 f37 f38 f39 f40 f41 f42 f43 f44 f45 f46 f47 f48 f49 f50 f51 f52 f53 f54 f55 f56 f57 f58 f59 f60 f61 f62 f63 f64 f65 f66 f67 f68 f69 f70 f71 f72 f73 f74 f75 f76 f77 f78 f79 f80 f81 f82 f83 f84 f85 f86 f87 f88 f89 f90 f91 f92 f93 f94 f95 f96 f97 f98 f99 f100 f101 f102 f103 f104 f105 f106 f107 f108 f109 f110 f111 f112 f113 f114 f115 f116 f117 f118 f119 f120 f121 f122 f123 f124 f125 f126 f127 f128 f129 f130 f131 f132 f133 f134 f135 f136 f137 f138 f139 f140 f141 : Value)
    (hK : ∀ (u17 u18 u19 u20 u21 u22 u23 u24 u25 u26 u27 u28 : Value) (W2 : World), Hid (Below W1.heap.size W1 W2) → K ⟨#[.pointer (some ⟨L, 0, none⟩), f1, f2, .pointer (some ⟨bx, 0, none⟩), .pointer (some ⟨g, 0, none⟩), f5, f6, f7, f8, f9, f10, f11, f12, f13, f14, f15, f16, u17, u18, u19, u20, u21, u22, u23, u24, u25, u26, u27, u28, .bool d, f30, f31, f32, f33, f34, f35, f36, f37, f38, f39, f40, f41, f42, f43, f44, f45, f46, f47, f48, f49, f50, f51, f52, f53, f54, f55, f56, f57, f58, f59, f60, f61, f62, f63, f64, f65, f66, f67, f68, f69, f70, f71, f72, f73, f74, f75, f76, f77, f78, f79, f80, f81, f82, f83, f84, f85, f86, f87, f88, f89, f90, f91, f92, f93, f94, f95, f96, f97, f98, f99, f100, f101, f102, f103, f104, f105, f106, f107, f108, f109, f110, f111, f112, f113, f114, f115, f116, f117, f118, f119, f120, f121, f122, f123, f124, f125, f126, f127, f128, f129, f130, f131, f132, f133, f134, f135, f136, f137, f138, f139, f140, f141], []⟩ W2) :
    Code.wp Try.prog (takeReg 5) (Exit.then K Q) ⟨#[.pointer (some ⟨L, 0, none⟩), f1, f2, .pointer (some ⟨bx, 0, none⟩), .pointer (some ⟨g, 0, none⟩), f5, f6, f7, f8, f9, f10, f11, f12, f13, f14, f15, f16, f17, f18, f19, f20, f21, f22, f23, f24, f25, f26, f27, f28, f29, f30, f31, f32, f33, f34, f35, f36, f37, f38, f39, f40, f41, f42, f43, f44, f45, f46, f47, f48, f49, f50, f51, f52, f53, f54, f55, f56, f57, f58, f59, f60, f61, f62, f63, f64, f65, f66, f67, f68, f69, f70, f71, f72, f73, f74, f75, f76, f77, f78, f79, f80, f81, f82, f83, f84, f85, f86, f87, f88, f89, f90, f91, f92, f93, f94, f95, f96, f97, f98, f99, f100, f101, f102, f103, f104, f105, f106, f107, f108, f109, f110, f111, f112, f113, f114, f115, f116, f117, f118, f119, f120, f121, f122, f123, f124, f125, f126, f127, f128, f129, f130, f131, f132, f133, f134, f135, f136, f137, f138, f139, f140, f141], []⟩ W1 := by
  conv => arg 2; whnf
  have e1 := (blk_cell hbx 1).trans rfl
  have e2 := (h.c 3).trans rfl
  have e3 := (blk_cell hg 0).trans rfl
  clear hbx hg h
  have HB := hide (zbD (zbR W1.heap.size W1))
  obtain ⟨V, hV⟩ : ∃ V, W1.drew = V := ⟨_, rfl⟩
  refine wp_region_still_lit (by kernel_rfl) (by kernel_rfl) ?_
  change wpStill _ _ W1.drew (fun a' => Exit.then K Q Exit.normal a' W1.drew) _ _
  have e1' : W1.drew.cell? ⟨bx, 1, none⟩ = some (.int .i64 x.hour) := e1
  have e2' : W1.drew.cell? ⟨L, 3, none⟩ = some (.int .i64 s.f.close) := e2
  have e3' : W1.drew.cell? ⟨g, 0, none⟩ = some (.bool p.ent) := e3
  clear e1 e2 e3
  rw [hV] at e1' e2' e3' HB ⊢
  clear hV
  cases h1 : decide (x.hour ≤ s.f.close)
  · rw [h1] at hd
    obtain rfl : d = false := hd
    with_reducible refine stTake (v := ?_) (by kernel_rfl) ?_ ?_; rotate_left
    · (go_simp; (try with_reducible rfl))
    (try simp only [Act.put, zl, z0, z1])
    with_reducible refine stTake (v := ?_) (by kernel_rfl) ?_ ?_; rotate_left
    · (go_simp; (try with_reducible rfl))
    (try simp only [Act.put, zl, z0, z1])
    with_reducible refine stTake (v := ?_) (by kernel_rfl) ?_ ?_; rotate_left
    · (go_simp; (try with_reducible rfl))
    (try simp only [Act.put, zl, z0, z1])
    with_reducible refine stTake (v := ?_) (by kernel_rfl) ?_ ?_; rotate_left
    · (go_simp; (try with_reducible rfl))
    (try simp only [Act.put, zl, z0, z1])
    with_reducible refine stTake (v := ?_) (by kernel_rfl) ?_ ?_; rotate_left
    · (go_simp; (try with_reducible rfl))
    (try simp only [Act.put, zl, z0, z1])
    with_reducible refine stTake (v := ?_) (by kernel_rfl) ?_ ?_; rotate_left
    · (go_simp; (try with_reducible rfl))
    (try simp only [Act.put, zl, z0, z1])
    with_reducible refine stTake (v := ?_) (by kernel_rfl) ?_ ?_; rotate_left
    · (go_simp; (try with_reducible rfl))
    (try simp only [Act.put, zl, z0, z1])
    with_reducible refine stTake (v := ?_) (by kernel_rfl) ?_ ?_; rotate_left
    · (go_simp; (try simp only [h1]); (try with_reducible rfl))
    (try simp only [Act.put, zl, z0, z1])
    with_reducible refine stTake (v := ?_) (by kernel_rfl) ?_ ?_; rotate_left
    · (go_simp; (try with_reducible rfl))
    (try simp only [Act.put, zl, z0, z1])
    with_reducible refine stSkip (by kernel_rfl) ?_
    (try simp only [Act.put, zl, z0, z1])
    with_reducible refine stSkip (by kernel_rfl) ?_
    (try simp only [Act.put, zl, z0, z1])
    with_reducible refine stSkip (by kernel_rfl) ?_
    (try simp only [Act.put, zl, z0, z1])
    with_reducible refine stTake (v := ?_) (by kernel_rfl) ?_ ?_; rotate_left
    · (go_simp; (try with_reducible rfl))
    (try simp only [Act.put, zl, z0, z1])
    refine wpStill_nil ?_
    exact hK _ _ _ _ _ _ _ _ _ _ _ _ _ HB
  · rw [h1] at hd
    obtain rfl : d = !p.ent := hd
    with_reducible refine stTake (v := ?_) (by kernel_rfl) ?_ ?_; rotate_left
    · (go_simp; (try with_reducible rfl))
    (try simp only [Act.put, zl, z0, z1])
    with_reducible refine stTake (v := ?_) (by kernel_rfl) ?_ ?_; rotate_left
    · (go_simp; (try with_reducible rfl))
    (try simp only [Act.put, zl, z0, z1])
    with_reducible refine stTake (v := ?_) (by kernel_rfl) ?_ ?_; rotate_left
    · (go_simp; (try with_reducible rfl))
    (try simp only [Act.put, zl, z0, z1])
    with_reducible refine stTake (v := ?_) (by kernel_rfl) ?_ ?_; rotate_left
    · (go_simp; (try with_reducible rfl))
    (try simp only [Act.put, zl, z0, z1])
    with_reducible refine stTake (v := ?_) (by kernel_rfl) ?_ ?_; rotate_left
    · (go_simp; (try with_reducible rfl))
    (try simp only [Act.put, zl, z0, z1])
    with_reducible refine stTake (v := ?_) (by kernel_rfl) ?_ ?_; rotate_left
    · (go_simp; (try with_reducible rfl))
    (try simp only [Act.put, zl, z0, z1])
    with_reducible refine stTake (v := ?_) (by kernel_rfl) ?_ ?_; rotate_left
    · (go_simp; (try with_reducible rfl))
    (try simp only [Act.put, zl, z0, z1])
    with_reducible refine stTake (v := ?_) (by kernel_rfl) ?_ ?_; rotate_left
    · (go_simp; (try simp only [h1]); (try with_reducible rfl))
    (try simp only [Act.put, zl, z0, z1])
    with_reducible refine stTake (v := ?_) (by kernel_rfl) ?_ ?_; rotate_left
    · (go_simp; (try with_reducible rfl))
    (try simp only [Act.put, zl, z0, z1])
    with_reducible refine stTake (v := ?_) (by kernel_rfl) ?_ ?_; rotate_left
    · (go_simp; (try with_reducible rfl))
    (try simp only [Act.put, zl, z0, z1])
    with_reducible refine stTake (v := ?_) (by kernel_rfl) ?_ ?_; rotate_left
    · (go_simp; (try with_reducible rfl))
    (try simp only [Act.put, zl, z0, z1])
    with_reducible refine stTake (v := ?_) (by kernel_rfl) ?_ ?_; rotate_left
    · (go_simp; (try with_reducible rfl))
    (try simp only [Act.put, zl, z0, z1])
    with_reducible refine stTake (v := ?_) (by kernel_rfl) ?_ ?_; rotate_left
    · (go_simp; (try with_reducible rfl))
    (try simp only [Act.put, zl, z0, z1])
    refine wpStill_nil ?_
    exact hK _ _ _ _ _ _ _ _ _ _ _ _ _ HB

end Go.Proofs.Ytobjahlmjcnfoaa

namespace Go.Proofs.Ytobjahlmjcnfoaa
open Go.RowKit Go.Sort
attribute [local go_sem ↓] Go.wp_at_zero Go.wp_at_succ

theorem cap_set {K : Act → World → Prop} {a : Act} {u : World} {b i : Nat} {v : Value} {old : Array Value} {t : TypeId} (hb : u.heap[b]? = some (.cells old t (0, 0)))
    (h : ∀ W', W'.heap[b]? = some (.cells (old.setIfInBounds i v) t (0, 0)) → u.grownBy W' (some b) → K a W') : K a (u.setCell ⟨b, i, none⟩ v) := h _ (blk_set hb i v) (gr_set _ _ _ _)

set_option maxRecDepth 100000 in
set_option maxHeartbeats 64000000 in
theorem take6 {K : Act → World → Prop} {Q : Exit → Act → World → Prop} (hp : ∀ c a d v w, Q (.panic c) (Act.put a d v) w → Q (.panic c) a w) (base bx L B n g : Nat) (s : E.St) (mv cv : Value) (x : E.Nt) (p : E.Pl) (W1 : World) (hbx : W1.heap[bx]? = some (.cells #[.int .i64 x.id, .int .i64 x.hour, .int .i64 x.kind, .int .i64 x.player, .int .i64 x.rank] 40 (0, 0))) (h : LAt W1 base L B n s mv cv) (hg : W1.heap[g]? = some (.cells #[.bool p.ent, .bool p.grd, .bool p.card, .bool p.quit, .bool p.sgn, .int .i64 p.rank, .int .i64 p.turn] 112 (0, 0))) (nbx : bx ≠ g) (nL : L ≠ g) (f1 f2 f5 f6 f7 f8 f9 f10 f11 f12 f13 f14 f15 f16 f17 f18 f19 f20 f21 f22 f23 f24 f25 f26 f27 f28 f29 f30 f31 f32 f33 f34 f35 f36 f37 f38 f39 f40 f41 f42 f43 f44 f45 f46 f47 f48 f49 f50 f51 f52 f53 f54 f55 f56 f57 f58 f59 f60 f61 f62 f63 f64 f65 f66 f67 f68 f69 f70 f71 f72 f73 f74 f75 f76 f77 f78 f79 f80 f81 f82 f83 f84 f85 f86 f87 f88 f89 f90 f91 f92 f93 f94 f95 f96 f97 f98 f99 f100 f101 f102 f103 f104 f105 f106 f107 f108 f109 f110 f111 f112 f113 f114 f115 f116 f117 f118 f119 f120 f121 f122 f123 f124 f125 f126 f127 f128 f129 f130 f131 f132 f133 f134 f135 f136 f137 f138 f139 f140 f141 : Value)
    (hK : ∀ (u30 u31 u32 u33 u34 u35 u36 u37 u38 u39 u40 u41 u42 : Value) (W2 : World), Hid (W2.heap[g]? = some (.cells #[.bool true, .bool (decide (x.kind = 2)), .bool p.card, .bool p.quit, .bool p.sgn, .int .i64 x.rank, .int .i64 s.turns] 112 (0, 0))) → Hid (W1.grownBy W2 (some g)) → K ⟨#[.pointer (some ⟨L, 0, none⟩), f1, f2, .pointer (some ⟨bx, 0, none⟩), .pointer (some ⟨g, 0, none⟩), f5, f6, f7, f8, f9, f10, f11, f12, f13, f14, f15, f16, f17, f18, f19, f20, f21, f22, f23, f24, f25, f26, f27, f28, f29, u30, u31, u32, u33, u34, u35, u36, u37, u38, u39, u40, u41, u42, f43, f44, f45, f46, f47, f48, f49, f50, f51, f52, f53, f54, f55, f56, f57, f58, f59, f60, f61, f62, f63, f64, f65, f66, f67, f68, f69, f70, f71, f72, f73, f74, f75, f76, f77, f78, f79, f80, f81, f82, f83, f84, f85, f86, f87, f88, f89, f90, f91, f92, f93, f94, f95, f96, f97, f98, f99, f100, f101, f102, f103, f104, f105, f106, f107, f108, f109, f110, f111, f112, f113, f114, f115, f116, f117, f118, f119, f120, f121, f122, f123, f124, f125, f126, f127, f128, f129, f130, f131, f132, f133, f134, f135, f136, f137, f138, f139, f140, f141], []⟩ W2) :
    Code.wp Try.prog (takeReg 6) (Exit.then K Q) ⟨#[.pointer (some ⟨L, 0, none⟩), f1, f2, .pointer (some ⟨bx, 0, none⟩), .pointer (some ⟨g, 0, none⟩), f5, f6, f7, f8, f9, f10, f11, f12, f13, f14, f15, f16, f17, f18, f19, f20, f21, f22, f23, f24, f25, f26, f27, f28, f29, f30, f31, f32, f33, f34, f35, f36, f37, f38, f39, f40, f41, f42, f43, f44, f45, f46, f47, f48, f49, f50, f51, f52, f53, f54, f55, f56, f57, f58, f59, f60, f61, f62, f63, f64, f65, f66, f67, f68, f69, f70, f71, f72, f73, f74, f75, f76, f77, f78, f79, f80, f81, f82, f83, f84, f85, f86, f87, f88, f89, f90, f91, f92, f93, f94, f95, f96, f97, f98, f99, f100, f101, f102, f103, f104, f105, f106, f107, f108, f109, f110, f111, f112, f113, f114, f115, f116, f117, f118, f119, f120, f121, f122, f123, f124, f125, f126, f127, f128, f129, f130, f131, f132, f133, f134, f135, f136, f137, f138, f139, f140, f141], []⟩ W1 := by
  conv => arg 2; whnf
  have hSof : ∀ v, W1.grownBy v (some g) → (fun w' => W1.grownBy w' (some g) ∧ w'.cell? ⟨bx, 2, none⟩ = some (.int .i64 x.kind) ∧ w'.cell? ⟨bx, 4, none⟩ = some (.int .i64 x.rank) ∧ w'.cell? ⟨L, 6, none⟩ = some (.int .i64 s.turns)) v := by
    intro v hb
    have hxv := (hb.block bx (blk_lt hbx) (fun e => nbx (Option.some.inj e))).trans hbx
    have hLv := (hb.block L h.lt (fun e => nL (Option.some.inj e))).trans h.blk
    exact ⟨hb, (blk_cell hxv 2).trans rfl, (blk_cell hxv 4).trans rfl, (blk_cell hLv 6).trans rfl⟩
  have hS : (fun w' => W1.grownBy w' (some g) ∧ w'.cell? ⟨bx, 2, none⟩ = some (.int .i64 x.kind) ∧ w'.cell? ⟨bx, 4, none⟩ = some (.int .i64 x.rank) ∧ w'.cell? ⟨L, 6, none⟩ = some (.int .i64 s.turns)) W1 := hSof _ (World.grownBy.refl _ _)
  (try dsimp only at hS)
  have R0 := hide (show W1.drew.heap[g]? = some (.cells #[.bool p.ent, .bool p.grd, .bool p.card, .bool p.quit, .bool p.sgn, .int .i64 p.rank, .int .i64 p.turn] 112 (0, 0)) from hg)
  clear h hbx hg
  refine wp_region_held_drew (S := (fun w' => W1.grownBy w' (some g) ∧ w'.cell? ⟨bx, 2, none⟩ = some (.int .i64 x.kind) ∧ w'.cell? ⟨bx, 4, none⟩ = some (.int .i64 x.rank) ∧ w'.cell? ⟨L, 6, none⟩ = some (.int .i64 s.turns))) (by kernel_rfl) ?_ (fun hD0 => ?_)
  · (try dsimp only); first | assumption | exact hSof _ (gr_drew _ _)
  refine tL (v := ?_) 0 rfl (by kernel_rfl) (fun _ _ _ h => hp _ _ _ _ _ h) (Or.inl ⟨by rfl, ?_⟩) (by assumption) ?_; rotate_left
  · (intro w hSw; (try dsimp only at hSw); go_simp; try with_reducible rfl)
  try simp only [Act.put, zl, z0, z1]
  refine tL (v := ?_) 1 rfl (by kernel_rfl) (fun _ _ _ h => hp _ _ _ _ _ h) (Or.inl ⟨by rfl, ?_⟩) (by assumption) ?_; rotate_left
  · (intro w hSw; (try dsimp only at hSw); go_simp; try with_reducible rfl)
  try simp only [Act.put, zl, z0, z1]
  refine tL (v := ?_) 2 rfl (by kernel_rfl) (fun _ _ _ h => hp _ _ _ _ _ h) (Or.inl ⟨by rfl, ?_⟩) (by assumption) ?_; rotate_left
  · (intro w hSw; (try dsimp only at hSw); go_simp; try with_reducible rfl)
  try simp only [Act.put, zl, z0, z1]
  refine tL (v := ?_) 3 rfl (by kernel_rfl) (fun _ _ _ h => hp _ _ _ _ _ h) (Or.inl ⟨by rfl, ?_⟩) (by assumption) ?_; rotate_left
  · (intro w hSw; (try dsimp only at hSw); go_simp; try with_reducible rfl)
  try simp only [Act.put, zl, z0, z1]
  refine tL (v := ?_) 4 rfl (by kernel_rfl) (fun _ _ _ h => hp _ _ _ _ _ h) (Or.inl ⟨by rfl, ?_⟩) (by assumption) ?_; rotate_left
  · (intro w hSw; (try dsimp only at hSw); go_simp; try with_reducible rfl)
  try simp only [Act.put, zl, z0, z1]
  refine tL (v := ?_) 5 rfl (by kernel_rfl) (fun _ _ _ h => hp _ _ _ _ _ h) (Or.inl ⟨by rfl, ?_⟩) (by assumption) ?_; rotate_left
  · (intro w hSw; (try dsimp only at hSw); go_simp; try with_reducible rfl)
  try simp only [Act.put, zl, z0, z1]
  refine tL (v := ?_) 6 rfl (by kernel_rfl) (fun _ _ _ h => hp _ _ _ _ _ h) (Or.inl ⟨by rfl, ?_⟩) (by assumption) ?_; rotate_left
  · (intro w hSw; (try dsimp only at hSw); go_simp; try with_reducible rfl)
  try simp only [Act.put, zl, z0, z1]
  refine tL (v := ?_) 7 rfl (by kernel_rfl) (fun _ _ _ h => hp _ _ _ _ _ h) (Or.inl ⟨by rfl, ?_⟩) (by assumption) ?_; rotate_left
  · (intro w hSw; (try dsimp only at hSw); go_simp; try with_reducible rfl)
  try simp only [Act.put, zl, z0, z1]
  refine tL (v := ?_) 8 rfl (by kernel_rfl) (fun _ _ _ h => hp _ _ _ _ _ h) (Or.inl ⟨by rfl, ?_⟩) (by assumption) ?_; rotate_left
  · (intro w hSw; (try dsimp only at hSw); go_simp; try with_reducible rfl)
  try simp only [Act.put, zl, z0, z1]
  refine tL (v := ?_) 9 rfl (by kernel_rfl) (fun _ _ _ h => hp _ _ _ _ _ h) (Or.inl ⟨by rfl, ?_⟩) (by assumption) ?_; rotate_left
  · (intro w hSw; (try dsimp only at hSw); go_simp; try with_reducible rfl)
  try simp only [Act.put, zl, z0, z1]
  refine wpAnyH_ready (rs := [10]) (by kernel_rfl) (by simp) ?_; refine consL 10 rfl (fun K hK => ?_) AllReadyH.nil
  (have cc : W1.drew.cell? ⟨g, 0, none⟩ = some (.bool p.ent) := (blk_cell R0.out 0).trans rfl; have ff := blk_frozen R0.out 0; go_simp; clear cc ff; refine cap_set R0.out (fun W10 hr hg9 => ?_); have hSn := hSof _ (gr_trans hD0.1 hg9); have R1 := hide hr; clear hr hg9; (try dsimp only at hSn))
  refine hK.out _ _ ?_ (fun hD1 => ?_)
  · (try dsimp only); first | assumption | exact hSof _ (gr_drew _ _)
  clear hK K hD0; try simp only [Act.put, zl, z0, z1]
  refine tL (v := ?_) 11 rfl (by kernel_rfl) (fun _ _ _ h => hp _ _ _ _ _ h) (Or.inl ⟨by rfl, ?_⟩) (by assumption) ?_; rotate_left
  · (intro w hSw; (try dsimp only at hSw); go_simp; try with_reducible rfl)
  try simp only [Act.put, zl, z0, z1]
  refine wpAnyH_ready (rs := [12]) (by kernel_rfl) (by simp) ?_; refine consL 12 rfl (fun K hK => ?_) AllReadyH.nil
  (have cc : W10.cell? ⟨g, 1, none⟩ = some (.bool p.grd) := (blk_cell R1.out 1).trans rfl; have ff := blk_frozen R1.out 1; go_simp; clear cc ff; refine cap_set R1.out (fun W12 hr hg9 => ?_); have hSn := hSof _ (gr_trans hD1.1 hg9); have R2 := hide hr; clear hr hg9; (try dsimp only at hSn))
  refine hK.out _ _ ?_ (fun hD2 => ?_)
  · (try dsimp only); first | assumption | exact hSof _ (gr_drew _ _)
  clear hK K hD1; try simp only [Act.put, zl, z0, z1]
  refine tL (v := ?_) 13 rfl (by kernel_rfl) (fun _ _ _ h => hp _ _ _ _ _ h) (Or.inl ⟨by rfl, ?_⟩) (by assumption) ?_; rotate_left
  · (intro w hSw; (try dsimp only at hSw); go_simp; try with_reducible rfl)
  try simp only [Act.put, zl, z0, z1]
  refine wpAnyH_ready (rs := [14]) (by kernel_rfl) (by simp) ?_; refine consL 14 rfl (fun K hK => ?_) AllReadyH.nil
  (have cc : W12.cell? ⟨g, 5, none⟩ = some (.int .i64 p.rank) := (blk_cell R2.out 5).trans rfl; have ff := blk_frozen R2.out 5; go_simp; clear cc ff; refine cap_set R2.out (fun W14 hr hg9 => ?_); have hSn := hSof _ (gr_trans hD2.1 hg9); have R3 := hide hr; clear hr hg9; (try dsimp only at hSn))
  refine hK.out _ _ ?_ (fun hD3 => ?_)
  · (try dsimp only); first | assumption | exact hSof _ (gr_drew _ _)
  clear hK K hD2; try simp only [Act.put, zl, z0, z1]
  refine tL (v := ?_) 15 rfl (by kernel_rfl) (fun _ _ _ h => hp _ _ _ _ _ h) (Or.inl ⟨by rfl, ?_⟩) (by assumption) ?_; rotate_left
  · (intro w hSw; (try dsimp only at hSw); go_simp; try with_reducible rfl)
  try simp only [Act.put, zl, z0, z1]
  refine wpAnyH_ready (rs := [16]) (by kernel_rfl) (by simp) ?_; refine consL 16 rfl (fun K hK => ?_) AllReadyH.nil
  (have cc : W14.cell? ⟨g, 6, none⟩ = some (.int .i64 p.turn) := (blk_cell R3.out 6).trans rfl; have ff := blk_frozen R3.out 6; go_simp; clear cc ff; refine cap_set R3.out (fun W16 hr hg9 => ?_); have hSn := hSof _ (gr_trans hD3.1 hg9); have R4 := hide hr; clear hr hg9; (try dsimp only at hSn))
  refine hK.out _ _ ?_ (fun hD4 => ?_)
  · (try dsimp only); first | assumption | exact hSof _ (gr_drew _ _)
  clear hK K hD3; try simp only [Act.put, zl, z0, z1]
  refine wpAnyH_done (by kernel_rfl) ?_ _
  (try dsimp only [Act.put, List.getElem_toArray, List.getElem_cons_succ, List.getElem_cons_zero])
  (try simp only [zl, z0, z1])
  exact hK _ _ _ _ _ _ _ _ _ _ _ _ _ _ R4 (hide hSn.1)

set_option maxRecDepth 100000 in
set_option maxHeartbeats 64000000 in
theorem take11 {K : Act → World → Prop} {Q : Exit → Act → World → Prop} (hp : ∀ c a d v w, Q (.panic c) (Act.put a d v) w → Q (.panic c) a w) (base bx L B n : Nat) (s : E.St) (mv cv : Value) (x : E.Nt) (W1 : World) (hbx : W1.heap[bx]? = some (.cells #[.int .i64 x.id, .int .i64 x.hour, .int .i64 x.kind, .int .i64 x.player, .int .i64 x.rank] 40 (0, 0))) (h : LAt W1 base L B n s mv cv) (hbase : base ≤ W1.heap.size) (hml : s.cards.length ≤ 900) (f1 f2 f4 f5 f6 f7 f8 f9 f10 f11 f12 f13 f14 f15 f16 f17 f18 f19 f20 f21 f22 f23 f24 f25 f26 f27 f28 f29 f30 f31 f32 f33 f34 f35 f36 f37 f38 f39 f40 f41 f42 f43 f44 f45 f46 f47 f48 f49 f50 f51 f52 f53 f54 f55 f56 f57 f58 f59 f60 f61 f62 f63 f64 f65 f66 f67 f68 f69 f70 f71 f72 f73 f74 f75 f76 f77 f78 f79 f80 f81 f82 f83 f84 f85 f86 f87 f88 f89 f90 f91 f92 f93 f94 f95 f96 f97 f98 f99 f100 f101 f102 f103 f104 f105 f106 f107 f108 f109 f110 f111 f112 f113 f114 f115 f116 f117 f118 f119 f120 f121 f122 f123 f124 f125 f126 f127 f128 f129 f130 f131 f132 f133 f134 f135 f136 f137 f138 f139 f140 f141 : Value)
    (hK : ∀ (u81 u82 u83 u84 u85 u86 u87 u88 u89 u90 u91 : Value) (cv' : Value) (W2 : World), Hid (LAt W2 base L B n { s with cards := s.cards ++ [x.player] } mv cv') → Hid (∀ b, b < W1.heap.size → b ≠ L → some b ≠ cv.ownBlock → W2.heap[b]? = W1.heap[b]?) → Hid (Below base W1 W2) → Hid (∀ g, cv'.ownBlock = some g → cv.ownBlock = some g ∨ W1.heap.size ≤ g) → K ⟨#[.pointer (some ⟨L, 0, none⟩), f1, f2, .pointer (some ⟨bx, 0, none⟩), f4, f5, f6, f7, f8, f9, f10, f11, f12, f13, f14, f15, f16, f17, f18, f19, f20, f21, f22, f23, f24, f25, f26, f27, f28, f29, f30, f31, f32, f33, f34, f35, f36, f37, f38, f39, f40, f41, f42, f43, f44, f45, f46, f47, f48, f49, f50, f51, f52, f53, f54, f55, f56, f57, f58, f59, f60, f61, f62, f63, f64, f65, f66, f67, f68, f69, f70, f71, f72, f73, f74, f75, f76, f77, f78, f79, f80, u81, u82, u83, u84, u85, u86, u87, u88, u89, u90, u91, f92, f93, f94, f95, f96, f97, f98, f99, f100, f101, f102, f103, f104, f105, f106, f107, f108, f109, f110, f111, f112, f113, f114, f115, f116, f117, f118, f119, f120, f121, f122, f123, f124, f125, f126, f127, f128, f129, f130, f131, f132, f133, f134, f135, f136, f137, f138, f139, f140, f141], []⟩ W2) :
    Code.wp Try.prog (takeReg 11) (Exit.then K Q) ⟨#[.pointer (some ⟨L, 0, none⟩), f1, f2, .pointer (some ⟨bx, 0, none⟩), f4, f5, f6, f7, f8, f9, f10, f11, f12, f13, f14, f15, f16, f17, f18, f19, f20, f21, f22, f23, f24, f25, f26, f27, f28, f29, f30, f31, f32, f33, f34, f35, f36, f37, f38, f39, f40, f41, f42, f43, f44, f45, f46, f47, f48, f49, f50, f51, f52, f53, f54, f55, f56, f57, f58, f59, f60, f61, f62, f63, f64, f65, f66, f67, f68, f69, f70, f71, f72, f73, f74, f75, f76, f77, f78, f79, f80, f81, f82, f83, f84, f85, f86, f87, f88, f89, f90, f91, f92, f93, f94, f95, f96, f97, f98, f99, f100, f101, f102, f103, f104, f105, f106, f107, f108, f109, f110, f111, f112, f113, f114, f115, f116, f117, f118, f119, f120, f121, f122, f123, f124, f125, f126, f127, f128, f129, f130, f131, f132, f133, f134, f135, f136, f137, f138, f139, f140, f141], []⟩ W1 := by
  conv => arg 2; whnf
  obtain ⟨cA, cc, hcv⟩ := own_form h.cards
  have hSof : ∀ v, W1.grownBy v cv.ownBlock → (fun w' => W1.grownBy w' cv.ownBlock ∧ w'.cell? ⟨bx, 3, none⟩ = some (.int .i64 x.player) ∧ w'.cell? ⟨L, 8, none⟩ = some cv ∧ w'.frozen? ⟨L, 8, none⟩ = false) v := by
    intro v hg
    have e1 := gr_cell hg (blk_lt hbx) (fun e => row_ne h.cards hbx (by decide) e.symm) 3
    have hL := (hg.block L h.lt (fun e => h.cardsL e.symm)).trans h.blk
    exact ⟨hg, e1.trans ((blk_cell hbx 3).trans rfl), (blk_cell hL 8).trans rfl, blk_frozen hL 8⟩
  have hS : (fun w' => W1.grownBy w' cv.ownBlock ∧ w'.cell? ⟨bx, 3, none⟩ = some (.int .i64 x.player) ∧ w'.cell? ⟨L, 8, none⟩ = some cv ∧ w'.frozen? ⟨L, 8, none⟩ = false) W1 := hSof _ (World.grownBy.refl _ _)
  (try dsimp only at hS)
  have HH := hide h
  have HO := hide h.cards
  have HML := hide hml
  have HBS := hide hbase
  have HCV := hide hcv
  clear h hbx hml hbase hcv
  refine wp_region_T_drew (S := (fun w' => W1.grownBy w' cv.ownBlock ∧ w'.cell? ⟨bx, 3, none⟩ = some (.int .i64 x.player) ∧ w'.cell? ⟨L, 8, none⟩ = some cv ∧ w'.frozen? ⟨L, 8, none⟩ = false)) 11 (by kernel_rfl) ?_ (fun hD0 => ?_)
  · (try dsimp only); first | assumption | exact hSof _ (gr_trans hD0.1 (World.grownBy_alloc _ _ _)) | exact hSof _ (World.grownBy.refl _ _) | exact hSof _ hD0.1 | exact hSof _ (gr_drew _ _)
  refine takeT (v := ?_) 0 rfl (by kernel_rfl) (by kernel_rfl) (by kernel_rfl) (by kernel_rfl) (fun _ _ _ h => hp _ _ _ _ _ h) (Or.inl ⟨by rfl, ?_⟩) (by assumption) ?_; rotate_left
  · (intro w hSw; (try dsimp only at hSw); go_simp; try with_reducible rfl)
  try simp only [Act.put, zl, z0, z1]
  refine takeT (v := ?_) 1 rfl (by kernel_rfl) (by kernel_rfl) (by kernel_rfl) (by kernel_rfl) (fun _ _ _ h => hp _ _ _ _ _ h) (Or.inl ⟨by rfl, ?_⟩) (by assumption) ?_; rotate_left
  · (intro w hSw; (try dsimp only at hSw); go_simp; try with_reducible rfl)
  try simp only [Act.put, zl, z0, z1]
  refine takeT (v := ?_) 2 rfl (by kernel_rfl) (by kernel_rfl) (by kernel_rfl) (by kernel_rfl) (fun _ _ _ h => hp _ _ _ _ _ h) (Or.inl ⟨by rfl, ?_⟩) (by assumption) ?_; rotate_left
  · (intro w hSw; (try dsimp only at hSw); go_simp; try with_reducible rfl)
  try simp only [Act.put, zl, z0, z1]
  refine takeT (v := ?_) 3 rfl (by kernel_rfl) (by kernel_rfl) (by kernel_rfl) (by kernel_rfl) (fun _ _ _ h => hp _ _ _ _ _ h) (Or.inl ⟨by rfl, ?_⟩) (by assumption) ?_; rotate_left
  · (intro w hSw; (try dsimp only at hSw); go_simp; try with_reducible rfl)
  try simp only [Act.put, zl, z0, z1]
  refine takeT (v := ?_) 4 rfl (by kernel_rfl) (by kernel_rfl) (by kernel_rfl) (by kernel_rfl) (fun _ _ _ h => hp _ _ _ _ _ h) (Or.inl ⟨by rfl, ?_⟩) (by assumption) ?_; rotate_left
  · (intro w hSw; (try dsimp only at hSw); go_simp; try with_reducible rfl)
  try simp only [Act.put, zl, z0, z1]
  refine takeT (v := ?_) 5 rfl (by kernel_rfl) (by kernel_rfl) (by kernel_rfl) (by kernel_rfl) (fun _ _ _ h => hp _ _ _ _ _ h) (Or.inl ⟨by rfl, ?_⟩) (by assumption) ?_; rotate_left
  · (intro w hSw; (try dsimp only at hSw); go_simp; try with_reducible rfl)
  try simp only [Act.put, zl, z0, z1]
  refine takeT (v := ?_) 6 rfl (by kernel_rfl) (by kernel_rfl) (by kernel_rfl) (by kernel_rfl) (fun _ _ _ h => hp _ _ _ _ _ h) (Or.inl ⟨by rfl, ?_⟩) (by assumption) ?_; rotate_left
  · (intro w hSw; (try dsimp only at hSw); go_simp; try with_reducible rfl)
  try simp only [Act.put, zl, z0, z1]
  refine wpAnyT_ready (rs := [7]) (by kernel_rfl) (by simp) ?_; refine consT 7 rfl (fun K hK => ?_) AllReadyT.nil
  (go_simp; (first | refine cap_alloc (K := K) (O := (.cells #[.int .i64 x.player] 3 (0, 0))) (fun hG hb hle => ?_) | refine cap_allocD (K := K) (O := (.cells #[.int .i64 x.player] 3 (0, 0))) (fun hG hb hle => ?_)); (try simp only [World.size_alloc, drew_size] at hG); have H6 := hide hG; replace HO := hide (HO.out.alloc (.cells #[.int .i64 x.player] 3 (0, 0))); clear hG hle hb)
  refine hK.out _ _ ?_ (fun hD1 => ?_)
  · (try dsimp only); first | assumption | exact hSof _ (gr_trans hD0.1 (World.grownBy_alloc _ _ _)) | exact hSof _ (World.grownBy.refl _ _) | exact hSof _ hD0.1 | exact hSof _ (gr_drew _ _)
  clear hK K hD0; try simp only [Act.put, zl, z0, z1]
  refine wpAnyT_ready (rs := [8]) (by kernel_rfl) (by simp) ?_; refine consT 8 rfl (fun K hK => ?_) AllReadyT.nil
  (refine step_app_loc rfl (.tmp 85) (.tmp 88) rfl base cv s.cards s.cards.length rfl HO.out _ x.player rfl H6.out (by have := HML.out; omega) (by have := HBS.out; have := hD1.1.size; omega) (s.cards ++ [x.player]).length (by simp) ?_; intro A2 c2 w9 hown2 hgrow hloc; have hSn := hSof _ (gr_trans hD1.1 hgrow); have HO2 := hide hown2; have HLC := hide hloc; have HQ := hide (hD1.1.size); clear hown2 hgrow hloc; (try dsimp only at hSn))
  refine hK.out _ _ ?_ (fun hD2 => ?_)
  · (try dsimp only); first | assumption | exact hSof _ (gr_trans hD1.1 (World.grownBy_alloc _ _ _)) | exact hSof _ (World.grownBy.refl _ _) | exact hSof _ hD1.1 | exact hSof _ (gr_drew _ _)
  clear hK K hD1; try simp only [Act.put, zl, z0, z1]
  refine wpAnyT_ready (rs := [9]) (by kernel_rfl) (by simp) ?_; refine consT 9 rfl (fun K hK => ?_) AllReadyT.nil; go_simp
  refine hK.out _ _ ?_ (fun hD3 => ?_)
  · (try dsimp only); first | exact hD2 | (first | assumption | exact hSof _ (gr_trans «H».1 (World.grownBy_alloc _ _ _)) | exact hSof _ (World.grownBy.refl _ _) | exact hSof _ «H».1 | exact hSof _ (gr_drew _ _))
  clear hK K hD2; try simp only [Act.put, zl, z0, z1]
  refine takeT (v := ?_) 10 rfl (by kernel_rfl) (by kernel_rfl) (by kernel_rfl) (by kernel_rfl) (fun _ _ _ h => hp _ _ _ _ _ h) (Or.inl ⟨by rfl, ?_⟩) (by assumption) ?_; rotate_left
  · (intro w hSw; (try dsimp only at hSw); go_simp; try with_reducible rfl)
  try simp only [Act.put, zl, z0, z1]
  refine wpAnyT_ready (rs := [11]) (by kernel_rfl) (by simp) ?_
  refine lastT rfl (fun K hK => ?_)
  (try dsimp only at hD3)
  go_simp
  refine hK.out _ _ ?_
  clear hK K
  try simp only [Act.put, zl, z0, z1]
  refine wpAnyT_done (by kernel_rfl) ?_ _
  (try dsimp only [Act.put, List.getElem_toArray, List.getElem_cons_succ, List.getElem_cons_zero])
  (try simp only [zl, z0, z1])
  have hG9 := hSn.1
  have HO3 : w9.ownsRow base 3 1 (.slice A2 (s.cards.length + 1) c2) (s.cards ++ [x.player]).length (flatI (s.cards ++ [x.player])) := by
    have := HO2.out
    rw [List.length_append] at this ⊢
    exact this
  have hLC : ∀ g, (Value.slice A2 (s.cards.length + 1) c2).ownBlock = some g → cv.ownBlock = some g ∨ W1.heap.size ≤ g := fun g hg => (HLC.out g (by rw [List.length_append]; exact hg)).imp id (fun h => Nat.le_trans HQ.out h)
  exact hK _ _ _ _ _ _ _ _ _ _ _ _ _ (hide (HH.out.setCards hG9 HO3 hLC)) (hide (fun b hb h1 h2 => (Below.heap_setCell w9 ⟨L, 8, none⟩ _ b h1).trans (hG9.block b hb h2))) (hide ((grown_below hG9 HBS.out (fun g hg => (HH.out.cards.lt g hg).1)).setCell HH.out.lowL _)) (hide hLC)

end Go.Proofs.Ytobjahlmjcnfoaa

namespace Go.Proofs.Ytobjahlmjcnfoaa
open Go.RowKit Go.Sort
attribute [local go_sem ↓] Go.wp_at_zero Go.wp_at_succ

set_option maxRecDepth 100000 in
set_option maxHeartbeats 64000000 in
theorem take9 {K : Act → World → Prop} {Q : Exit → Act → World → Prop} (hp : ∀ c a d v w, Q (.panic c) (Act.put a d v) w → Q (.panic c) a w) (base bx L B n g m cc : Nat) (cA : Option Addr) (s : E.St) (mv : Value) (x : E.Nt) (p : E.Pl) (d : Bool) (W1 : World) (hbx : W1.heap[bx]? = some (.cells #[.int .i64 x.id, .int .i64 x.hour, .int .i64 x.kind, .int .i64 x.player, .int .i64 x.rank] 40 (0, 0))) (h : LAt W1 base L B n s mv (.slice cA m cc)) (hg : W1.heap[g]? = some (.cells #[.bool p.ent, .bool p.grd, .bool p.card, .bool p.quit, .bool p.sgn, .int .i64 p.rank, .int .i64 p.turn] 112 (0, 0))) (hd : d = (!(E.late s.f x.hour) && !p.card && !p.quit && decide ((m : Int) < s.f.wilds))) (f1 f2 f5 f6 f7 f8 f9 f10 f11 f12 f13 f14 f15 f16 f17 f18 f19 f20 f21 f22 f23 f24 f25 f26 f27 f28 f29 f30 f31 f32 f33 f34 f35 f36 f37 f38 f39 f40 f41 f42 f43 f44 f45 f46 f47 f48 f49 f50 f51 f52 f53 f54 f55 f56 f57 f58 f59 f60 f61 f62 f63 f64 f65 f66 f67 f68 f69 f70 f71 f72 f73 f74 f75 f76 f77 f78 f79 f80 f81 f82 f83 f84 f85 f86 f87 f88 f89 f90 f91 f92 f93 f94 f95 f96 f97 f98 f99 f100 f101 f102 f103 f104 f105 f106 f107 f108 f109 f110 f111 f112 f113 f114 f115 f116 f117 f118 f119 f120 f121 f122 f123 f124 f125 f126 f127 f128 f129 f130 f131 f132 f133 f134 f135 f136 f137 f138 f139 f140 f141 : Value)
    (hK : ∀ (u52 u53 u54 u55 u56 u57 u58 u59 u60 u61 u62 u63 u64 u65 u66 u67 u68 u69 u70 u71 u72 u73 u74 u75 u76 u77 u78 : Value) (W2 : World), Hid (Below W1.heap.size W1 W2) → K ⟨#[.pointer (some ⟨L, 0, none⟩), f1, f2, .pointer (some ⟨bx, 0, none⟩), .pointer (some ⟨g, 0, none⟩), f5, f6, f7, f8, f9, f10, f11, f12, f13, f14, f15, f16, f17, f18, f19, f20, f21, f22, f23, f24, f25, f26, f27, f28, f29, f30, f31, f32, f33, f34, f35, f36, f37, f38, f39, f40, f41, f42, f43, f44, f45, f46, f47, f48, f49, f50, f51, u52, u53, u54, u55, u56, u57, u58, u59, u60, u61, u62, u63, u64, u65, u66, u67, u68, u69, u70, u71, u72, u73, u74, u75, u76, u77, u78, .bool d, f80, f81, f82, f83, f84, f85, f86, f87, f88, f89, f90, f91, f92, f93, f94, f95, f96, f97, f98, f99, f100, f101, f102, f103, f104, f105, f106, f107, f108, f109, f110, f111, f112, f113, f114, f115, f116, f117, f118, f119, f120, f121, f122, f123, f124, f125, f126, f127, f128, f129, f130, f131, f132, f133, f134, f135, f136, f137, f138, f139, f140, f141], []⟩ W2) :
    Code.wp Try.prog (takeReg 9) (Exit.then K Q) ⟨#[.pointer (some ⟨L, 0, none⟩), f1, f2, .pointer (some ⟨bx, 0, none⟩), .pointer (some ⟨g, 0, none⟩), f5, f6, f7, f8, f9, f10, f11, f12, f13, f14, f15, f16, f17, f18, f19, f20, f21, f22, f23, f24, f25, f26, f27, f28, f29, f30, f31, f32, f33, f34, f35, f36, f37, f38, f39, f40, f41, f42, f43, f44, f45, f46, f47, f48, f49, f50, f51, f52, f53, f54, f55, f56, f57, f58, f59, f60, f61, f62, f63, f64, f65, f66, f67, f68, f69, f70, f71, f72, f73, f74, f75, f76, f77, f78, f79, f80, f81, f82, f83, f84, f85, f86, f87, f88, f89, f90, f91, f92, f93, f94, f95, f96, f97, f98, f99, f100, f101, f102, f103, f104, f105, f106, f107, f108, f109, f110, f111, f112, f113, f114, f115, f116, f117, f118, f119, f120, f121, f122, f123, f124, f125, f126, f127, f128, f129, f130, f131, f132, f133, f134, f135, f136, f137, f138, f139, f140, f141], []⟩ W1 := by
  conv => arg 2; whnf
  have e1 := (blk_cell hbx 1).trans rfl
  have e2 : W1.cell? ⟨L, 4, none⟩ = some (.int .i64 s.f.freeze) := (h.c 4).trans rfl
  have e3 := (blk_cell hg 2).trans rfl
  have e4 := (blk_cell hg 3).trans rfl
  have e5 := (h.c 1).trans rfl
  have e6 := (h.c 8).trans rfl
  clear hbx hg h
  have HB := hide (zbD (zbR W1.heap.size W1))
  obtain ⟨V, hV⟩ : ∃ V, W1.drew = V := ⟨_, rfl⟩
  refine wp_region_still_lit (by kernel_rfl) (by kernel_rfl) ?_
  change wpStill _ _ W1.drew (fun a' => Exit.then K Q Exit.normal a' W1.drew) _ _
  have e1' : W1.drew.cell? ⟨bx, 1, none⟩ = some (.int .i64 x.hour) := e1
  have HC := hide (show Calls Try.prog 62 #[.pointer (some ⟨L, 0, none⟩), .int .i64 x.hour] W1.drew fun e w' => e = .returned (.bool (E.late s.f x.hour)) ∧ w' = W1.drew from (late_any s.f L x.hour W1.drew e2).mono (fun e w h => ⟨h.1, h.2.symm⟩))
  have e3' : W1.drew.cell? ⟨g, 2, none⟩ = some (.bool p.card) := e3
  have e4' : W1.drew.cell? ⟨g, 3, none⟩ = some (.bool p.quit) := e4
  have e5' : W1.drew.cell? ⟨L, 1, none⟩ = some (.int .i64 s.f.wilds) := e5
  have e6' : W1.drew.cell? ⟨L, 8, none⟩ = some (.slice cA m cc) := e6
  clear e1 e2 e3 e4 e5 e6
  rw [hV] at e1' e3' e4' e5' e6' HB HC ⊢
  clear hV
  obtain ⟨pc, pq, lt, hx1, hx2, hx3⟩ : ∃ a b c, p.card = a ∧ p.quit = b ∧ E.late s.f x.hour = c := ⟨_, _, _, rfl, rfl, rfl⟩
  rw [hx1] at e3'
  rw [hx2] at e4'
  rw [hx3] at HC
  have fin : ∀ b : Bool, (!(E.late s.f x.hour) && !p.card && !p.quit && decide ((m : Int) < s.f.wilds)) = b → d = b := fun b hb => hd.trans hb
  rw [hx1, hx2, hx3] at fin
  clear hd hx1 hx2 hx3
  cases lt
  · cases pc
    · cases pq
      · cases h4 : decide ((m : Int) < s.f.wilds)
        · rw [h4] at fin
          obtain rfl := fin false rfl
          clear fin
          with_reducible refine stTake (v := ?_) (by kernel_rfl) ?_ ?_; rotate_left
          · (go_simp; (try with_reducible rfl))
          (try simp only [Act.put, zl, z0, z1])
          with_reducible refine stTake (v := ?_) (by kernel_rfl) ?_ ?_; rotate_left
          · (go_simp; (try with_reducible rfl))
          (try simp only [Act.put, zl, z0, z1])
          with_reducible refine stTake (v := ?_) (by kernel_rfl) ?_ ?_; rotate_left
          · (go_simp; (try with_reducible rfl))
          (try simp only [Act.put, zl, z0, z1])
          refine stCall (v := .bool false) (f := 62) (args := #[.pointer (some ⟨L, 0, none⟩), .int .i64 x.hour]) (by kernel_rfl) (by go_simp) HC.out ?_
          (try simp only [Act.put, zl, z0, z1])
          with_reducible refine stTake (v := ?_) (by kernel_rfl) ?_ ?_; rotate_left
          · (go_simp; (try with_reducible rfl))
          (try simp only [Act.put, zl, z0, z1])
          with_reducible refine stTake (v := ?_) (by kernel_rfl) ?_ ?_; rotate_left
          · (go_simp; (try with_reducible rfl))
          (try simp only [Act.put, zl, z0, z1])
          with_reducible refine stTake (v := ?_) (by kernel_rfl) ?_ ?_; rotate_left
          · (go_simp; (try with_reducible rfl))
          (try simp only [Act.put, zl, z0, z1])
          with_reducible refine stTake (v := ?_) (by kernel_rfl) ?_ ?_; rotate_left
          · (go_simp; (try with_reducible rfl))
          (try simp only [Act.put, zl, z0, z1])
          with_reducible refine stTake (v := ?_) (by kernel_rfl) ?_ ?_; rotate_left
          · (go_simp; (try with_reducible rfl))
          (try simp only [Act.put, zl, z0, z1])
          with_reducible refine stTake (v := ?_) (by kernel_rfl) ?_ ?_; rotate_left
          · (go_simp; (try with_reducible rfl))
          (try simp only [Act.put, zl, z0, z1])
          with_reducible refine stTake (v := ?_) (by kernel_rfl) ?_ ?_; rotate_left
          · (go_simp; (try with_reducible rfl))
          (try simp only [Act.put, zl, z0, z1])
          with_reducible refine stTake (v := ?_) (by kernel_rfl) ?_ ?_; rotate_left
          · (go_simp; (try with_reducible rfl))
          (try simp only [Act.put, zl, z0, z1])
          with_reducible refine stTake (v := ?_) (by kernel_rfl) ?_ ?_; rotate_left
          · (go_simp; (try with_reducible rfl))
          (try simp only [Act.put, zl, z0, z1])
          with_reducible refine stTake (v := ?_) (by kernel_rfl) ?_ ?_; rotate_left
          · (go_simp; (try with_reducible rfl))
          (try simp only [Act.put, zl, z0, z1])
          with_reducible refine stTake (v := ?_) (by kernel_rfl) ?_ ?_; rotate_left
          · (go_simp; (try with_reducible rfl))
          (try simp only [Act.put, zl, z0, z1])
          with_reducible refine stTake (v := ?_) (by kernel_rfl) ?_ ?_; rotate_left
          · (go_simp; (try with_reducible rfl))
          (try simp only [Act.put, zl, z0, z1])
          with_reducible refine stTake (v := ?_) (by kernel_rfl) ?_ ?_; rotate_left
          · (go_simp; (try with_reducible rfl))
          (try simp only [Act.put, zl, z0, z1])
          with_reducible refine stTake (v := ?_) (by kernel_rfl) ?_ ?_; rotate_left
          · (go_simp; (try with_reducible rfl))
          (try simp only [Act.put, zl, z0, z1])
          with_reducible refine stTake (v := ?_) (by kernel_rfl) ?_ ?_; rotate_left
          · (go_simp; (try with_reducible rfl))
          (try simp only [Act.put, zl, z0, z1])
          with_reducible refine stTake (v := ?_) (by kernel_rfl) ?_ ?_; rotate_left
          · (go_simp; (try with_reducible rfl))
          (try simp only [Act.put, zl, z0, z1])
          with_reducible refine stTake (v := ?_) (by kernel_rfl) ?_ ?_; rotate_left
          · (go_simp; (try with_reducible rfl))
          (try simp only [Act.put, zl, z0, z1])
          with_reducible refine stTake (v := ?_) (by kernel_rfl) ?_ ?_; rotate_left
          · (go_simp; (try with_reducible rfl))
          (try simp only [Act.put, zl, z0, z1])
          with_reducible refine stTake (v := ?_) (by kernel_rfl) ?_ ?_; rotate_left
          · (go_simp; (try with_reducible rfl))
          (try simp only [Act.put, zl, z0, z1])
          with_reducible refine stTake (v := ?_) (by kernel_rfl) ?_ ?_; rotate_left
          · (go_simp; (try with_reducible rfl))
          (try simp only [Act.put, zl, z0, z1])
          with_reducible refine stTake (v := ?_) (by kernel_rfl) ?_ ?_; rotate_left
          · (go_simp; (try with_reducible rfl))
          (try simp only [Act.put, zl, z0, z1])
          with_reducible refine stTake (v := ?_) (by kernel_rfl) ?_ ?_; rotate_left
          · (go_simp; (try with_reducible rfl))
          (try simp only [Act.put, zl, z0, z1])
          with_reducible refine stTake (v := ?_) (by kernel_rfl) ?_ ?_; rotate_left
          · (go_simp; (try simp only [h4]); (try with_reducible rfl))
          (try simp only [Act.put, zl, z0, z1])
          with_reducible refine stTake (v := ?_) (by kernel_rfl) ?_ ?_; rotate_left
          · (go_simp; (try with_reducible rfl))
          (try simp only [Act.put, zl, z0, z1])
          refine wpStill_nil ?_
          exact hK _ _ _ _ _ _ _ _ _ _ _ _ _ _ _ _ _ _ _ _ _ _ _ _ _ _ _ _ HB
        · rw [h4] at fin
          obtain rfl := fin true rfl
          clear fin
          with_reducible refine stTake (v := ?_) (by kernel_rfl) ?_ ?_; rotate_left
          · (go_simp; (try with_reducible rfl))
          (try simp only [Act.put, zl, z0, z1])
          with_reducible refine stTake (v := ?_) (by kernel_rfl) ?_ ?_; rotate_left
          · (go_simp; (try with_reducible rfl))
          (try simp only [Act.put, zl, z0, z1])
          with_reducible refine stTake (v := ?_) (by kernel_rfl) ?_ ?_; rotate_left
          · (go_simp; (try with_reducible rfl))
          (try simp only [Act.put, zl, z0, z1])
          refine stCall (v := .bool false) (f := 62) (args := #[.pointer (some ⟨L, 0, none⟩), .int .i64 x.hour]) (by kernel_rfl) (by go_simp) HC.out ?_
          (try simp only [Act.put, zl, z0, z1])
          with_reducible refine stTake (v := ?_) (by kernel_rfl) ?_ ?_; rotate_left
          · (go_simp; (try with_reducible rfl))
          (try simp only [Act.put, zl, z0, z1])
          with_reducible refine stTake (v := ?_) (by kernel_rfl) ?_ ?_; rotate_left
          · (go_simp; (try with_reducible rfl))
          (try simp only [Act.put, zl, z0, z1])
          with_reducible refine stTake (v := ?_) (by kernel_rfl) ?_ ?_; rotate_left
          · (go_simp; (try with_reducible rfl))
          (try simp only [Act.put, zl, z0, z1])
          with_reducible refine stTake (v := ?_) (by kernel_rfl) ?_ ?_; rotate_left
          · (go_simp; (try with_reducible rfl))
          (try simp only [Act.put, zl, z0, z1])
          with_reducible refine stTake (v := ?_) (by kernel_rfl) ?_ ?_; rotate_left
          · (go_simp; (try with_reducible rfl))
          (try simp only [Act.put, zl, z0, z1])
          with_reducible refine stTake (v := ?_) (by kernel_rfl) ?_ ?_; rotate_left
          · (go_simp; (try with_reducible rfl))
          (try simp only [Act.put, zl, z0, z1])
          with_reducible refine stTake (v := ?_) (by kernel_rfl) ?_ ?_; rotate_left
          · (go_simp; (try with_reducible rfl))
          (try simp only [Act.put, zl, z0, z1])
          with_reducible refine stTake (v := ?_) (by kernel_rfl) ?_ ?_; rotate_left
          · (go_simp; (try with_reducible rfl))
          (try simp only [Act.put, zl, z0, z1])
          with_reducible refine stTake (v := ?_) (by kernel_rfl) ?_ ?_; rotate_left
          · (go_simp; (try with_reducible rfl))
          (try simp only [Act.put, zl, z0, z1])
          with_reducible refine stTake (v := ?_) (by kernel_rfl) ?_ ?_; rotate_left
          · (go_simp; (try with_reducible rfl))
          (try simp only [Act.put, zl, z0, z1])
          with_reducible refine stTake (v := ?_) (by kernel_rfl) ?_ ?_; rotate_left
          · (go_simp; (try with_reducible rfl))
          (try simp only [Act.put, zl, z0, z1])
          with_reducible refine stTake (v := ?_) (by kernel_rfl) ?_ ?_; rotate_left
          · (go_simp; (try with_reducible rfl))
          (try simp only [Act.put, zl, z0, z1])
          with_reducible refine stTake (v := ?_) (by kernel_rfl) ?_ ?_; rotate_left
          · (go_simp; (try with_reducible rfl))
          (try simp only [Act.put, zl, z0, z1])
          with_reducible refine stTake (v := ?_) (by kernel_rfl) ?_ ?_; rotate_left
          · (go_simp; (try with_reducible rfl))
          (try simp only [Act.put, zl, z0, z1])
          with_reducible refine stTake (v := ?_) (by kernel_rfl) ?_ ?_; rotate_left
          · (go_simp; (try with_reducible rfl))
          (try simp only [Act.put, zl, z0, z1])
          with_reducible refine stTake (v := ?_) (by kernel_rfl) ?_ ?_; rotate_left
          · (go_simp; (try with_reducible rfl))
          (try simp only [Act.put, zl, z0, z1])
          with_reducible refine stTake (v := ?_) (by kernel_rfl) ?_ ?_; rotate_left
          · (go_simp; (try with_reducible rfl))
          (try simp only [Act.put, zl, z0, z1])
          with_reducible refine stTake (v := ?_) (by kernel_rfl) ?_ ?_; rotate_left
          · (go_simp; (try with_reducible rfl))
          (try simp only [Act.put, zl, z0, z1])
          with_reducible refine stTake (v := ?_) (by kernel_rfl) ?_ ?_; rotate_left
          · (go_simp; (try with_reducible rfl))
          (try simp only [Act.put, zl, z0, z1])
          with_reducible refine stTake (v := ?_) (by kernel_rfl) ?_ ?_; rotate_left
          · (go_simp; (try with_reducible rfl))
          (try simp only [Act.put, zl, z0, z1])
          with_reducible refine stTake (v := ?_) (by kernel_rfl) ?_ ?_; rotate_left
          · (go_simp; (try with_reducible rfl))
          (try simp only [Act.put, zl, z0, z1])
          with_reducible refine stTake (v := ?_) (by kernel_rfl) ?_ ?_; rotate_left
          · (go_simp; (try with_reducible rfl))
          (try simp only [Act.put, zl, z0, z1])
          with_reducible refine stTake (v := ?_) (by kernel_rfl) ?_ ?_; rotate_left
          · (go_simp; (try simp only [h4]); (try with_reducible rfl))
          (try simp only [Act.put, zl, z0, z1])
          with_reducible refine stTake (v := ?_) (by kernel_rfl) ?_ ?_; rotate_left
          · (go_simp; (try with_reducible rfl))
          (try simp only [Act.put, zl, z0, z1])
          refine wpStill_nil ?_
          exact hK _ _ _ _ _ _ _ _ _ _ _ _ _ _ _ _ _ _ _ _ _ _ _ _ _ _ _ _ HB
      · obtain rfl := fin false rfl
        clear fin
        with_reducible refine stTake (v := ?_) (by kernel_rfl) ?_ ?_; rotate_left
        · (go_simp; (try with_reducible rfl))
        (try simp only [Act.put, zl, z0, z1])
        with_reducible refine stTake (v := ?_) (by kernel_rfl) ?_ ?_; rotate_left
        · (go_simp; (try with_reducible rfl))
        (try simp only [Act.put, zl, z0, z1])
        with_reducible refine stTake (v := ?_) (by kernel_rfl) ?_ ?_; rotate_left
        · (go_simp; (try with_reducible rfl))
        (try simp only [Act.put, zl, z0, z1])
        refine stCall (v := .bool false) (f := 62) (args := #[.pointer (some ⟨L, 0, none⟩), .int .i64 x.hour]) (by kernel_rfl) (by go_simp) HC.out ?_
        (try simp only [Act.put, zl, z0, z1])
        with_reducible refine stTake (v := ?_) (by kernel_rfl) ?_ ?_; rotate_left
        · (go_simp; (try with_reducible rfl))
        (try simp only [Act.put, zl, z0, z1])
        with_reducible refine stTake (v := ?_) (by kernel_rfl) ?_ ?_; rotate_left
        · (go_simp; (try with_reducible rfl))
        (try simp only [Act.put, zl, z0, z1])
        with_reducible refine stTake (v := ?_) (by kernel_rfl) ?_ ?_; rotate_left
        · (go_simp; (try with_reducible rfl))
        (try simp only [Act.put, zl, z0, z1])
        with_reducible refine stTake (v := ?_) (by kernel_rfl) ?_ ?_; rotate_left
        · (go_simp; (try with_reducible rfl))
        (try simp only [Act.put, zl, z0, z1])
        with_reducible refine stTake (v := ?_) (by kernel_rfl) ?_ ?_; rotate_left
        · (go_simp; (try with_reducible rfl))
        (try simp only [Act.put, zl, z0, z1])
        with_reducible refine stTake (v := ?_) (by kernel_rfl) ?_ ?_; rotate_left
        · (go_simp; (try with_reducible rfl))
        (try simp only [Act.put, zl, z0, z1])
        with_reducible refine stTake (v := ?_) (by kernel_rfl) ?_ ?_; rotate_left
        · (go_simp; (try with_reducible rfl))
        (try simp only [Act.put, zl, z0, z1])
        with_reducible refine stTake (v := ?_) (by kernel_rfl) ?_ ?_; rotate_left
        · (go_simp; (try with_reducible rfl))
        (try simp only [Act.put, zl, z0, z1])
        with_reducible refine stTake (v := ?_) (by kernel_rfl) ?_ ?_; rotate_left
        · (go_simp; (try with_reducible rfl))
        (try simp only [Act.put, zl, z0, z1])
        with_reducible refine stTake (v := ?_) (by kernel_rfl) ?_ ?_; rotate_left
        · (go_simp; (try with_reducible rfl))
        (try simp only [Act.put, zl, z0, z1])
        with_reducible refine stTake (v := ?_) (by kernel_rfl) ?_ ?_; rotate_left
        · (go_simp; (try with_reducible rfl))
        (try simp only [Act.put, zl, z0, z1])
        with_reducible refine stTake (v := ?_) (by kernel_rfl) ?_ ?_; rotate_left
        · (go_simp; (try with_reducible rfl))
        (try simp only [Act.put, zl, z0, z1])
        with_reducible refine stSkip (by kernel_rfl) ?_
        (try simp only [Act.put, zl, z0, z1])
        with_reducible refine stSkip (by kernel_rfl) ?_
        (try simp only [Act.put, zl, z0, z1])
        with_reducible refine stSkip (by kernel_rfl) ?_
        (try simp only [Act.put, zl, z0, z1])
        with_reducible refine stSkip (by kernel_rfl) ?_
        (try simp only [Act.put, zl, z0, z1])
        with_reducible refine stSkip (by kernel_rfl) ?_
        (try simp only [Act.put, zl, z0, z1])
        with_reducible refine stSkip (by kernel_rfl) ?_
        (try simp only [Act.put, zl, z0, z1])
        with_reducible refine stSkip (by kernel_rfl) ?_
        (try simp only [Act.put, zl, z0, z1])
        with_reducible refine stSkip (by kernel_rfl) ?_
        (try simp only [Act.put, zl, z0, z1])
        with_reducible refine stSkip (by kernel_rfl) ?_
        (try simp only [Act.put, zl, z0, z1])
        with_reducible refine stSkip (by kernel_rfl) ?_
        (try simp only [Act.put, zl, z0, z1])
        with_reducible refine stSkip (by kernel_rfl) ?_
        (try simp only [Act.put, zl, z0, z1])
        with_reducible refine stTake (v := ?_) (by kernel_rfl) ?_ ?_; rotate_left
        · (go_simp; (try with_reducible rfl))
        (try simp only [Act.put, zl, z0, z1])
        refine wpStill_nil ?_
        exact hK _ _ _ _ _ _ _ _ _ _ _ _ _ _ _ _ _ _ _ _ _ _ _ _ _ _ _ _ HB
    · obtain rfl := fin false rfl
      clear fin
      with_reducible refine stTake (v := ?_) (by kernel_rfl) ?_ ?_; rotate_left
      · (go_simp; (try with_reducible rfl))
      (try simp only [Act.put, zl, z0, z1])
      with_reducible refine stTake (v := ?_) (by kernel_rfl) ?_ ?_; rotate_left
      · (go_simp; (try with_reducible rfl))
      (try simp only [Act.put, zl, z0, z1])
      with_reducible refine stTake (v := ?_) (by kernel_rfl) ?_ ?_; rotate_left
      · (go_simp; (try with_reducible rfl))
      (try simp only [Act.put, zl, z0, z1])
      refine stCall (v := .bool false) (f := 62) (args := #[.pointer (some ⟨L, 0, none⟩), .int .i64 x.hour]) (by kernel_rfl) (by go_simp) HC.out ?_
      (try simp only [Act.put, zl, z0, z1])
      with_reducible refine stTake (v := ?_) (by kernel_rfl) ?_ ?_; rotate_left
      · (go_simp; (try with_reducible rfl))
      (try simp only [Act.put, zl, z0, z1])
      with_reducible refine stTake (v := ?_) (by kernel_rfl) ?_ ?_; rotate_left
      · (go_simp; (try with_reducible rfl))
      (try simp only [Act.put, zl, z0, z1])
      with_reducible refine stTake (v := ?_) (by kernel_rfl) ?_ ?_; rotate_left
      · (go_simp; (try with_reducible rfl))
      (try simp only [Act.put, zl, z0, z1])
      with_reducible refine stTake (v := ?_) (by kernel_rfl) ?_ ?_; rotate_left
      · (go_simp; (try with_reducible rfl))
      (try simp only [Act.put, zl, z0, z1])
      with_reducible refine stTake (v := ?_) (by kernel_rfl) ?_ ?_; rotate_left
      · (go_simp; (try with_reducible rfl))
      (try simp only [Act.put, zl, z0, z1])
      with_reducible refine stTake (v := ?_) (by kernel_rfl) ?_ ?_; rotate_left
      · (go_simp; (try with_reducible rfl))
      (try simp only [Act.put, zl, z0, z1])
      with_reducible refine stTake (v := ?_) (by kernel_rfl) ?_ ?_; rotate_left
      · (go_simp; (try with_reducible rfl))
      (try simp only [Act.put, zl, z0, z1])
      with_reducible refine stSkip (by kernel_rfl) ?_
      (try simp only [Act.put, zl, z0, z1])
      with_reducible refine stSkip (by kernel_rfl) ?_
      (try simp only [Act.put, zl, z0, z1])
      with_reducible refine stSkip (by kernel_rfl) ?_
      (try simp only [Act.put, zl, z0, z1])
      with_reducible refine stTake (v := ?_) (by kernel_rfl) ?_ ?_; rotate_left
      · (go_simp; (try with_reducible rfl))
      (try simp only [Act.put, zl, z0, z1])
      with_reducible refine stTake (v := ?_) (by kernel_rfl) ?_ ?_; rotate_left
      · (go_simp; (try with_reducible rfl))
      (try simp only [Act.put, zl, z0, z1])
      with_reducible refine stSkip (by kernel_rfl) ?_
      (try simp only [Act.put, zl, z0, z1])
      with_reducible refine stSkip (by kernel_rfl) ?_
      (try simp only [Act.put, zl, z0, z1])
      with_reducible refine stSkip (by kernel_rfl) ?_
      (try simp only [Act.put, zl, z0, z1])
      with_reducible refine stSkip (by kernel_rfl) ?_
      (try simp only [Act.put, zl, z0, z1])
      with_reducible refine stSkip (by kernel_rfl) ?_
      (try simp only [Act.put, zl, z0, z1])
      with_reducible refine stSkip (by kernel_rfl) ?_
      (try simp only [Act.put, zl, z0, z1])
      with_reducible refine stSkip (by kernel_rfl) ?_
      (try simp only [Act.put, zl, z0, z1])
      with_reducible refine stSkip (by kernel_rfl) ?_
      (try simp only [Act.put, zl, z0, z1])
      with_reducible refine stSkip (by kernel_rfl) ?_
      (try simp only [Act.put, zl, z0, z1])
      with_reducible refine stSkip (by kernel_rfl) ?_
      (try simp only [Act.put, zl, z0, z1])
      with_reducible refine stSkip (by kernel_rfl) ?_
      (try simp only [Act.put, zl, z0, z1])
      with_reducible refine stTake (v := ?_) (by kernel_rfl) ?_ ?_; rotate_left
      · (go_simp; (try with_reducible rfl))
      (try simp only [Act.put, zl, z0, z1])
      refine wpStill_nil ?_
      exact hK _ _ _ _ _ _ _ _ _ _ _ _ _ _ _ _ _ _ _ _ _ _ _ _ _ _ _ _ HB
  · obtain rfl := fin false rfl
    clear fin
    with_reducible refine stTake (v := ?_) (by kernel_rfl) ?_ ?_; rotate_left
    · (go_simp; (try with_reducible rfl))
    (try simp only [Act.put, zl, z0, z1])
    with_reducible refine stTake (v := ?_) (by kernel_rfl) ?_ ?_; rotate_left
    · (go_simp; (try with_reducible rfl))
    (try simp only [Act.put, zl, z0, z1])
    with_reducible refine stTake (v := ?_) (by kernel_rfl) ?_ ?_; rotate_left
    · (go_simp; (try with_reducible rfl))
    (try simp only [Act.put, zl, z0, z1])
    refine stCall (v := .bool true) (f := 62) (args := #[.pointer (some ⟨L, 0, none⟩), .int .i64 x.hour]) (by kernel_rfl) (by go_simp) HC.out ?_
    (try simp only [Act.put, zl, z0, z1])
    with_reducible refine stTake (v := ?_) (by kernel_rfl) ?_ ?_; rotate_left
    · (go_simp; (try with_reducible rfl))
    (try simp only [Act.put, zl, z0, z1])
    with_reducible refine stTake (v := ?_) (by kernel_rfl) ?_ ?_; rotate_left
    · (go_simp; (try with_reducible rfl))
    (try simp only [Act.put, zl, z0, z1])
    with_reducible refine stSkip (by kernel_rfl) ?_
    (try simp only [Act.put, zl, z0, z1])
    with_reducible refine stSkip (by kernel_rfl) ?_
    (try simp only [Act.put, zl, z0, z1])
    with_reducible refine stSkip (by kernel_rfl) ?_
    (try simp only [Act.put, zl, z0, z1])
    with_reducible refine stTake (v := ?_) (by kernel_rfl) ?_ ?_; rotate_left
    · (go_simp; (try with_reducible rfl))
    (try simp only [Act.put, zl, z0, z1])
    with_reducible refine stTake (v := ?_) (by kernel_rfl) ?_ ?_; rotate_left
    · (go_simp; (try with_reducible rfl))
    (try simp only [Act.put, zl, z0, z1])
    with_reducible refine stSkip (by kernel_rfl) ?_
    (try simp only [Act.put, zl, z0, z1])
    with_reducible refine stSkip (by kernel_rfl) ?_
    (try simp only [Act.put, zl, z0, z1])
    with_reducible refine stSkip (by kernel_rfl) ?_
    (try simp only [Act.put, zl, z0, z1])
    with_reducible refine stTake (v := ?_) (by kernel_rfl) ?_ ?_; rotate_left
    · (go_simp; (try with_reducible rfl))
    (try simp only [Act.put, zl, z0, z1])
    with_reducible refine stTake (v := ?_) (by kernel_rfl) ?_ ?_; rotate_left
    · (go_simp; (try with_reducible rfl))
    (try simp only [Act.put, zl, z0, z1])
    with_reducible refine stSkip (by kernel_rfl) ?_
    (try simp only [Act.put, zl, z0, z1])
    with_reducible refine stSkip (by kernel_rfl) ?_
    (try simp only [Act.put, zl, z0, z1])
    with_reducible refine stSkip (by kernel_rfl) ?_
    (try simp only [Act.put, zl, z0, z1])
    with_reducible refine stSkip (by kernel_rfl) ?_
    (try simp only [Act.put, zl, z0, z1])
    with_reducible refine stSkip (by kernel_rfl) ?_
    (try simp only [Act.put, zl, z0, z1])
    with_reducible refine stSkip (by kernel_rfl) ?_
    (try simp only [Act.put, zl, z0, z1])
    with_reducible refine stSkip (by kernel_rfl) ?_
    (try simp only [Act.put, zl, z0, z1])
    with_reducible refine stSkip (by kernel_rfl) ?_
    (try simp only [Act.put, zl, z0, z1])
    with_reducible refine stSkip (by kernel_rfl) ?_
    (try simp only [Act.put, zl, z0, z1])
    with_reducible refine stSkip (by kernel_rfl) ?_
    (try simp only [Act.put, zl, z0, z1])
    with_reducible refine stSkip (by kernel_rfl) ?_
    (try simp only [Act.put, zl, z0, z1])
    with_reducible refine stTake (v := ?_) (by kernel_rfl) ?_ ?_; rotate_left
    · (go_simp; (try with_reducible rfl))
    (try simp only [Act.put, zl, z0, z1])
    refine wpStill_nil ?_
    exact hK _ _ _ _ _ _ _ _ _ _ _ _ _ _ _ _ _ _ _ _ _ _ _ _ _ _ _ _ HB

set_option maxRecDepth 100000 in
set_option maxHeartbeats 64000000 in
theorem take19 {K : Act → World → Prop} {Q : Exit → Act → World → Prop} (hp : ∀ c a d v w, Q (.panic c) (Act.put a d v) w → Q (.panic c) a w) (base bx L B n g : Nat) (s : E.St) (mv cv : Value) (x : E.Nt) (p : E.Pl) (W1 : World) (hbx : W1.heap[bx]? = some (.cells #[.int .i64 x.id, .int .i64 x.hour, .int .i64 x.kind, .int .i64 x.player, .int .i64 x.rank] 40 (0, 0))) (h : LAt W1 base L B n s mv cv) (hg : W1.heap[g]? = some (.cells #[.bool p.ent, .bool p.grd, .bool p.card, .bool p.quit, .bool p.sgn, .int .i64 p.rank, .int .i64 p.turn] 112 (0, 0))) (hn : n ≤ 900) (hx0 : 0 ≤ x.player) (hx1 : x.player ≤ 999) (f1 f2 f5 f6 f7 f8 f9 f10 f11 f12 f13 f14 f15 f16 f17 f18 f19 f20 f21 f22 f23 f24 f25 f26 f27 f28 f29 f30 f31 f32 f33 f34 f35 f36 f37 f38 f39 f40 f41 f42 f43 f44 f45 f46 f47 f48 f49 f50 f51 f52 f53 f54 f55 f56 f57 f58 f59 f60 f61 f62 f63 f64 f65 f66 f67 f68 f69 f70 f71 f72 f73 f74 f75 f76 f77 f78 f79 f80 f81 f82 f83 f84 f85 f86 f87 f88 f89 f90 f91 f92 f93 f94 f95 f96 f97 f98 f99 f100 f101 f102 f103 f104 f105 f106 f107 f108 f109 f110 f111 f112 f113 f114 f115 f116 f117 f118 f119 f120 f121 f122 f123 f124 f125 f126 f127 f128 f129 f130 f131 f132 f133 f134 f135 f136 f137 f138 f139 f140 f141 : Value)
    (hK : ∀ (u129 u130 u131 u132 u133 u134 u135 : Value) (W2 : World), Hid (LAt W2 base L B (n + 1) (s.put x.player p) mv cv) → Hid (W1.grownBy W2 (some B)) → K ⟨#[.pointer (some ⟨L, 0, none⟩), f1, f2, .pointer (some ⟨bx, 0, none⟩), .pointer (some ⟨g, 0, none⟩), f5, f6, f7, f8, f9, f10, f11, f12, f13, f14, f15, f16, f17, f18, f19, f20, f21, f22, f23, f24, f25, f26, f27, f28, f29, f30, f31, f32, f33, f34, f35, f36, f37, f38, f39, f40, f41, f42, f43, f44, f45, f46, f47, f48, f49, f50, f51, f52, f53, f54, f55, f56, f57, f58, f59, f60, f61, f62, f63, f64, f65, f66, f67, f68, f69, f70, f71, f72, f73, f74, f75, f76, f77, f78, f79, f80, f81, f82, f83, f84, f85, f86, f87, f88, f89, f90, f91, f92, f93, f94, f95, f96, f97, f98, f99, f100, f101, f102, f103, f104, f105, f106, f107, f108, f109, f110, f111, f112, f113, f114, f115, f116, f117, f118, f119, f120, f121, f122, f123, f124, f125, f126, f127, f128, u129, u130, u131, u132, u133, u134, u135, f136, f137, f138, f139, f140, f141], []⟩ W2) :
    Code.wp Try.prog (takeReg 19) (Exit.then K Q) ⟨#[.pointer (some ⟨L, 0, none⟩), f1, f2, .pointer (some ⟨bx, 0, none⟩), .pointer (some ⟨g, 0, none⟩), f5, f6, f7, f8, f9, f10, f11, f12, f13, f14, f15, f16, f17, f18, f19, f20, f21, f22, f23, f24, f25, f26, f27, f28, f29, f30, f31, f32, f33, f34, f35, f36, f37, f38, f39, f40, f41, f42, f43, f44, f45, f46, f47, f48, f49, f50, f51, f52, f53, f54, f55, f56, f57, f58, f59, f60, f61, f62, f63, f64, f65, f66, f67, f68, f69, f70, f71, f72, f73, f74, f75, f76, f77, f78, f79, f80, f81, f82, f83, f84, f85, f86, f87, f88, f89, f90, f91, f92, f93, f94, f95, f96, f97, f98, f99, f100, f101, f102, f103, f104, f105, f106, f107, f108, f109, f110, f111, f112, f113, f114, f115, f116, f117, f118, f119, f120, f121, f122, f123, f124, f125, f126, f127, f128, f129, f130, f131, f132, f133, f134, f135, f136, f137, f138, f139, f140, f141], []⟩ W1 := by
  conv => arg 2; whnf
  obtain ⟨V, hV⟩ : ∃ V, W1.drew = V := ⟨_, rfl⟩
  have hgV : W1.grownBy W1.drew (some B) := gr_drew _ _
  have hMV := h.map.below (zbD (zbR W1.heap.size W1))
  have e1 : W1.drew.cell? ⟨L, 5, none⟩ = some (.map (some B)) := (h.c 5).trans rfl
  have e2 : W1.drew.cell? ⟨bx, 3, none⟩ = some (.int .i64 x.player) := (blk_cell hbx 3).trans rfl
  have e30 : W1.drew.cell? ⟨g, 0, none⟩ = some (.bool p.ent) := (blk_cell hg 0).trans rfl
  have e31 : W1.drew.cell? ⟨g, 1, none⟩ = some (.bool p.grd) := (blk_cell hg 1).trans rfl
  have e32 : W1.drew.cell? ⟨g, 2, none⟩ = some (.bool p.card) := (blk_cell hg 2).trans rfl
  have e33 : W1.drew.cell? ⟨g, 3, none⟩ = some (.bool p.quit) := (blk_cell hg 3).trans rfl
  have e34 : W1.drew.cell? ⟨g, 4, none⟩ = some (.bool p.sgn) := (blk_cell hg 4).trans rfl
  have e35 : W1.drew.cell? ⟨g, 5, none⟩ = some (.int .i64 p.rank) := (blk_cell hg 5).trans rfl
  have e36 : W1.drew.cell? ⟨g, 6, none⟩ = some (.int .i64 p.turn) := (blk_cell hg 6).trans rfl
  refine wp_region_still_tail 7 (by kernel_rfl) (by kernel_rfl) ?_
  simp only [List.take_succ_cons, List.take_zero, List.drop_succ_cons, List.drop_zero]
  change wpStill _ _ W1.drew (fun a' => wpList _ _ _ _ a' W1.drew) _ _
  rw [hV] at e1 e2 e30 e31 e32 e33 e34 e35 e36 hgV hMV ⊢
  clear hV
  obtain ⟨W2, hrun, hM2, hg2⟩ := hMV.store Try.underlying93 (by omega) hx0 hx1 p
  have hrun2 : (Instr.mapUpdate 93 (.map (some B)) (.int .i64 x.player) (.agg #[.bool p.ent, .bool p.grd, .bool p.card, .bool p.quit, .bool p.sgn, .int .i64 p.rank, .int .i64 p.turn])).run Try.prog V = .ok () W2 := hrun
  have HP := hide (h.put hM2 (gr_trans hgV hg2))
  have HG2 := hide (gr_trans hgV hg2)
  clear h hbx hg hgV hMV hrun hM2 hg2
  (repeat still_step)
  refine wpStill_nil ?_
  go_wp2
  exact hK _ _ _ _ _ _ _ _ HP HG2

end Go.Proofs.Ytobjahlmjcnfoaa

namespace Go.Proofs.Ytobjahlmjcnfoaa
open Go.RowKit Go.Sort
attribute [local go_sem ↓] Go.wp_at_zero Go.wp_at_succ

set_option maxRecDepth 100000 in
set_option maxHeartbeats 64000000 in
theorem set1 {K : Act → World → Prop} {Q : Exit → Act → World → Prop} (hp : ∀ c a d v w, Q (.panic c) (Act.put a d v) w → Q (.panic c) a w) (base bl bt L B n m mc : Nat) (mA : Option Addr) (s : E.St) (cv : Value) (lt : Bool) (W1 : World) (hbl : W1.heap[bl]? = some (.cells #[.pointer (some ⟨L, 0, none⟩)] 71 (0, 0))) (hbt : W1.heap[bt]? = some (.cells #[.bool lt] 4 (0, 0))) (h : LAt W1 base L B n s (.slice mA m mc) cv) (ok : E.StOk s) (hbase : base ≤ W1.heap.size) (hml : m ≤ 900) (f0 f1 f4 f5 f6 f7 f8 f9 f10 f11 f12 f13 f14 f15 f16 f17 f18 f19 f20 f21 f22 f23 f24 f25 f26 f27 f28 f29 f30 f31 f32 f33 f34 f35 f36 f37 f38 f39 f40 f41 f42 f43 f44 f45 f46 f47 f48 f49 f50 f51 f52 f53 f54 f55 f56 f57 f58 f59 f60 f61 f62 f63 f64 f65 f66 f67 f68 f69 f70 f71 f72 f73 f74 f75 f76 f77 f78 f79 f80 f81 f82 f83 f84 f85 f86 f87 f88 f89 f90 f91 f92 f93 f94 f95 f96 f97 f98 f99 f100 : Value)
    (hK : ∀ (u10 u11 u12 u13 u14 u15 u16 u17 u18 : Value) (mv' : Value) (W2 : World), Hid (LAt W2 base L B n { s with main := s.main.filter (fun k => lt && (s.pl k).entry) } mv' cv) → Hid (∀ b, b < W1.heap.size → b ≠ L → some b ≠ (Value.slice mA m mc).ownBlock → W2.heap[b]? = W1.heap[b]?) → Hid (Below base W1 W2) → Hid (mv'.ownBlock = (Value.slice mA m mc).ownBlock) → K ⟨#[f0, f1, .pointer (some ⟨bl, 0, none⟩), .pointer (some ⟨bt, 0, none⟩), f4, f5, f6, f7, f8, f9, u10, u11, u12, u13, u14, u15, u16, u17, u18, f19, f20, f21, f22, f23, f24, f25, f26, f27, f28, f29, f30, f31, f32, f33, f34, f35, f36, f37, f38, f39, f40, f41, f42, f43, f44, f45, f46, f47, f48, f49, f50, f51, f52, f53, f54, f55, f56, f57, f58, f59, f60, f61, f62, f63, f64, f65, f66, f67, f68, f69, f70, f71, f72, f73, f74, f75, f76, f77, f78, f79, f80, f81, f82, f83, f84, f85, f86, f87, f88, f89, f90, f91, f92, f93, f94, f95, f96, f97, f98, f99, f100], []⟩ W2) :
    Code.wp Try.prog (setReg 1) (Exit.then K Q) ⟨#[f0, f1, .pointer (some ⟨bl, 0, none⟩), .pointer (some ⟨bt, 0, none⟩), f4, f5, f6, f7, f8, f9, f10, f11, f12, f13, f14, f15, f16, f17, f18, f19, f20, f21, f22, f23, f24, f25, f26, f27, f28, f29, f30, f31, f32, f33, f34, f35, f36, f37, f38, f39, f40, f41, f42, f43, f44, f45, f46, f47, f48, f49, f50, f51, f52, f53, f54, f55, f56, f57, f58, f59, f60, f61, f62, f63, f64, f65, f66, f67, f68, f69, f70, f71, f72, f73, f74, f75, f76, f77, f78, f79, f80, f81, f82, f83, f84, f85, f86, f87, f88, f89, f90, f91, f92, f93, f94, f95, f96, f97, f98, f99, f100], []⟩ W1 := by
  conv => arg 2; whnf
  have hm0 : m = s.main.length := own_len h.main
  subst hm0
  have hSof : ∀ v, W1.grownBy v (Value.slice mA s.main.length mc).ownBlock → (fun w' => W1.grownBy w' (Value.slice mA s.main.length mc).ownBlock ∧ w'.cell? ⟨bl, 0, none⟩ = some (.pointer (some ⟨L, 0, none⟩)) ∧ w'.cell? ⟨L, 7, none⟩ = some (.slice mA s.main.length mc) ∧ w'.frozen? ⟨L, 7, none⟩ = false) v := by
    intro v hg
    have e1 := gr_cell hg (blk_lt hbl) (fun e => row_ne h.main hbl (by decide) e.symm) 0
    have hL := (hg.block L h.lt (fun e => h.mainL e.symm)).trans h.blk
    exact ⟨hg, e1.trans ((blk_cell hbl 0).trans rfl), (blk_cell hL 7).trans rfl, blk_frozen hL 7⟩
  have hS : (fun w' => W1.grownBy w' (Value.slice mA s.main.length mc).ownBlock ∧ w'.cell? ⟨bl, 0, none⟩ = some (.pointer (some ⟨L, 0, none⟩)) ∧ w'.cell? ⟨L, 7, none⟩ = some (.slice mA s.main.length mc) ∧ w'.frozen? ⟨L, 7, none⟩ = false) W1 := hSof _ (World.grownBy.refl _ _)
  (try dsimp only at hS)
  have eg : ∀ args w, (callFunc 78 args).run Try.prog w = .ok (.enter 78 args) w := enters_of Try.func78 (by kernel_rfl) rfl
  have hdel : ∀ V, V.ownsRow base 3 1 (.slice mA s.main.length mc) s.main.length (flatI s.main) → W1.grownBy V (Value.slice mA s.main.length mc).ownBlock → Calls Try.prog 63 #[.slice mA s.main.length mc, .func (.func 78) #[] #[.pointer (some ⟨bt, 0, none⟩), .pointer (some ⟨bl, 0, none⟩)]] V fun e w' => e = .returned (.slice mA (s.main.filter fun k => lt && (s.pl k).entry).length mc) ∧ w'.ownsRow base 3 1 (.slice mA (s.main.filter fun k => lt && (s.pl k).entry).length mc) (s.main.filter fun k => lt && (s.pl k).entry).length (flatI (s.main.filter fun k => lt && (s.pl k).entry)) ∧ V.grownBy w' (Value.slice mA s.main.length mc).ownBlock := by
    intro V ho hV
    have e : (fun k => lt && (s.pl k).entry) = fun k => !(!(lt && (s.pl k).entry)) := by funext k; rw [Bool.not_not]
    rw [e]
    refine deleteFunc_any 78 #[.pointer (some ⟨bt, 0, none⟩), .pointer (some ⟨bl, 0, none⟩)] eg (fun k => !(lt && (s.pl k).entry)) (fun W => W1.grownBy W (Value.slice mA s.main.length mc).ownBlock) s.main (fun W x hx hW => ?_) base mA s.main.length mc V (fun W W' hW hg => gr_trans hW hg) ho (by omega) hV
    have hr := ok.range x (ok.main x hx)
    have hL := (hW.block L h.lt (fun e => h.mainL e.symm)).trans h.blk
    exact clSettle_any bt bl L B n s.pl (fun k => decide (k ∈ s.known)) lt x hr.1 hr.2 W ((gr_cell hW (blk_lt hbt) (fun e => row_ne h.main hbt (by decide) e.symm) 0).trans ((blk_cell hbt 0).trans rfl)) ((gr_cell hW (blk_lt hbl) (fun e => row_ne h.main hbl (by decide) e.symm) 0).trans ((blk_cell hbl 0).trans rfl)) ((blk_cell hL 5).trans rfl) (Nat.lt_of_lt_of_le (blk_lt hbt) hW.size) (Nat.lt_of_lt_of_le (blk_lt hbl) hW.size) (blk_lt hL) (h.map.kept hW (row_ne_map h.main h.map))
  have HH := hide h
  have HO := hide h.main
  have HBS := hide hbase
  clear h hbl hbt hml hbase ok eg
  refine wp_region_T_drew (S := (fun w' => W1.grownBy w' (Value.slice mA s.main.length mc).ownBlock ∧ w'.cell? ⟨bl, 0, none⟩ = some (.pointer (some ⟨L, 0, none⟩)) ∧ w'.cell? ⟨L, 7, none⟩ = some (.slice mA s.main.length mc) ∧ w'.frozen? ⟨L, 7, none⟩ = false)) 9 (by kernel_rfl) ?_ (fun hD0 => ?_)
  · (try dsimp only); first | assumption | exact hSof _ (gr_trans hD0.1 (World.grownBy_alloc _ _ _)) | exact hSof _ (gr_drew _ _)
  refine takeT (v := ?_) 0 rfl (by kernel_rfl) (by kernel_rfl) (by kernel_rfl) (by kernel_rfl) (fun _ _ _ h => hp _ _ _ _ _ h) (Or.inl ⟨by rfl, ?_⟩) (by assumption) ?_; rotate_left
  · (intro w hSw; (try dsimp only at hSw); go_simp; try with_reducible rfl)
  try simp only [Act.put, zl, z0, z1]
  refine takeT (v := ?_) 1 rfl (by kernel_rfl) (by kernel_rfl) (by kernel_rfl) (by kernel_rfl) (fun _ _ _ h => hp _ _ _ _ _ h) (Or.inl ⟨by rfl, ?_⟩) (by assumption) ?_; rotate_left
  · (intro w hSw; (try dsimp only at hSw); go_simp; try with_reducible rfl)
  try simp only [Act.put, zl, z0, z1]
  refine takeT (v := ?_) 2 rfl (by kernel_rfl) (by kernel_rfl) (by kernel_rfl) (by kernel_rfl) (fun _ _ _ h => hp _ _ _ _ _ h) (Or.inl ⟨by rfl, ?_⟩) (by assumption) ?_; rotate_left
  · (intro w hSw; (try dsimp only at hSw); go_simp; try with_reducible rfl)
  try simp only [Act.put, zl, z0, z1]
  refine takeT (v := ?_) 3 rfl (by kernel_rfl) (by kernel_rfl) (by kernel_rfl) (by kernel_rfl) (fun _ _ _ h => hp _ _ _ _ _ h) (Or.inl ⟨by rfl, ?_⟩) (by assumption) ?_; rotate_left
  · (intro w hSw; (try dsimp only at hSw); go_simp; try with_reducible rfl)
  try simp only [Act.put, zl, z0, z1]
  refine takeT (v := ?_) 4 rfl (by kernel_rfl) (by kernel_rfl) (by kernel_rfl) (by kernel_rfl) (fun _ _ _ h => hp _ _ _ _ _ h) (Or.inl ⟨by rfl, ?_⟩) (by assumption) ?_; rotate_left
  · (intro w hSw; (try dsimp only at hSw); go_simp; try with_reducible rfl)
  try simp only [Act.put, zl, z0, z1]
  refine takeT (v := ?_) 5 rfl (by kernel_rfl) (by kernel_rfl) (by kernel_rfl) (by kernel_rfl) (fun _ _ _ h => hp _ _ _ _ _ h) (Or.inl ⟨by rfl, ?_⟩) (by assumption) ?_; rotate_left
  · (intro w hSw; (try dsimp only at hSw); go_simp; try with_reducible rfl)
  try simp only [Act.put, zl, z0, z1]
  refine wpAnyT_ready (rs := [6]) (by kernel_rfl) (by simp) ?_; refine consT 6 rfl (fun K hK => ?_) AllReadyT.nil; go_simp
  ((go_at_call 63; refine (hdel _ (by exact HO.out) hD0.1).mono ?_; rintro e w9 ⟨rfl, ho9, hg9⟩; have hSn := hSof _ (gr_trans hD0.1 hg9); have HO9 := hide ho9; clear ho9 hg9; (try dsimp only at hSn)))
  refine hK.out _ _ ?_ (fun hD1 => ?_)
  · (try dsimp only); first | assumption | exact hSof _ (gr_trans hD0.1 (World.grownBy_alloc _ _ _)) | exact hSof _ (gr_drew _ _)
  clear hK K hD0; try simp only [Act.put, zl, z0, z1]
  refine wpAnyT_ready (rs := [7]) (by kernel_rfl) (by simp) ?_; refine consT 7 rfl (fun K hK => ?_) AllReadyT.nil; go_simp
  refine hK.out _ _ ?_ (fun hD2 => ?_)
  · (try dsimp only); first | exact hD1 | (first | assumption | exact hSof _ (gr_trans «H».1 (World.grownBy_alloc _ _ _)) | exact hSof _ (gr_drew _ _))
  clear hK K hD1; try simp only [Act.put, zl, z0, z1]
  refine takeT (v := ?_) 8 rfl (by kernel_rfl) (by kernel_rfl) (by kernel_rfl) (by kernel_rfl) (fun _ _ _ h => hp _ _ _ _ _ h) (Or.inl ⟨by rfl, ?_⟩) (by assumption) ?_; rotate_left
  · (intro w hSw; (try dsimp only at hSw); go_simp; try with_reducible rfl)
  try simp only [Act.put, zl, z0, z1]
  refine wpAnyT_ready (rs := [9]) (by kernel_rfl) (by simp) ?_
  refine lastT rfl (fun K hK => ?_)
  (try dsimp only at hD2)
  go_simp
  refine hK.out _ _ ?_
  clear hK K
  try simp only [Act.put, zl, z0, z1]
  refine wpAnyT_done (by kernel_rfl) ?_ _
  (try dsimp only [Act.put, List.getElem_toArray, List.getElem_cons_succ, List.getElem_cons_zero])
  (try simp only [zl, z0, z1])
  have hG9 := hSn.1
  have hlc : ∀ g, (Value.slice mA (s.main.filter fun k => lt && (s.pl k).entry).length mc).ownBlock = some g → (Value.slice mA s.main.length mc).ownBlock = some g ∨ W1.heap.size ≤ g := fun g hg => .inl (by cases mA <;> exact hg)
  exact hK _ _ _ _ _ _ _ _ _ _ _ (hide (HH.out.setMain hG9 HO9.out hlc)) (hide (fun b hb h1 h2 => (Below.heap_setCell w9 ⟨L, 7, none⟩ _ b h1).trans (hG9.block b hb h2))) (hide ((grown_below hG9 HBS.out (fun g hg => (HH.out.main.lt g hg).1)).setCell HH.out.lowL _)) (hide (by cases mA <;> rfl))

end Go.Proofs.Ytobjahlmjcnfoaa
