/-
  Part of a claim's texts: contracts of the program's functions and the plain functions that they compute, in build order.
-/
import Derived.Test.YtobjahlmjcnfoaaGreatZB03
import Derived.Test.YtobjahlmjcnfoaaGreatZB04
import Derived.Test.YtobjahlmjcnfoaaGreatZB05
import Derived.Test.YtobjahlmjcnfoaaGreatZB06
import Derived.Test.YtobjahlmjcnfoaaGreatZB07
namespace Go.Proofs.YtobjahlmjcnfoaaGreat
namespace E
def Rs.pat (r : Rs) (k : Int) : Rp := r.people.getD (idxR r.people k) (Rp.new k)
def firstR (r : Rs) (b : Bool) : Option Int := r.ins.find? (fun k => (r.pat k).grd == b)
def repsR (r : Rs) : List Int := (firstR r false).toList ++ (firstR r true).toList
def stepR (f : Fd) (h : Int) (r : Rs) (k : Int) : Rs := rone f r (quitN h k)
theorem find_same {q q' : Int → Bool} : ∀ {l : List Int}, (∀ k ∈ l, q k = q' k) → l.find? q = l.find? q'
  | [], _ => rfl
  | a :: r, h => by
    rw [List.find?_cons, List.find?_cons, h a (by simp), find_same (l := r) (fun k hk => h k (by simp [hk]))]
theorem pat_side {f : Fd} {r : Rs} {s : St} (h : Side f r s) {k : Int} (he : (s.pl k).entry = true) : (r.pat k).grd = (s.pl k).grd ∧ k ∈ r.people.map Rp.player ∧ (r.pat k) ∈ r.people ∧ (r.pat k).player = k := by
  have hk : k ∈ r.people.map Rp.player := by
    by_cases c : k ∈ r.people.map Rp.player
    · exact c
    · have := (h.no k c).1
      unfold Pl.entry at he
      rw [this] at he
      simp at he
  obtain ⟨_, p, hp, hpk⟩ := idxR_lt hk
  have e : r.pat k = p := by unfold Rs.pat; rw [List.getD_eq_getElem?_getD, hp]; rfl
  have hm : p ∈ r.people := List.mem_of_getElem? hp
  rw [e]
  have := (h.pl p hm).2.1
  rw [hpk] at this
  exact ⟨this.symm, hk, hm, hpk⟩
structure RT (f : Fd) (h : Int) (s0 : St) (X0 : List Int) (t : Rs × St × List Int) : Prop where
  side : Side f t.1 t.2.1
  rx : RX h s0 X0 t.2
  plc : Plc t.2.1
  rk : ∀ p ∈ t.1.people, 0 ≤ p.rank
  bk : ¬ f.freeze < h → t.1.back = 0
  len : t.2.1.known.length + t.2.2.length ≤ 199
def stepT (f : Fd) (h : Int) (t : Rs × St × List Int) (k : Int) : Rs × St × List Int := (stepR f h t.1 k, stepX h t.2 k)
theorem RT.reps {f : Fd} {h : Int} {s0 : St} {X0 : List Int} {t : Rs × St × List Int} (T : RT f h s0 X0 t) : repsR t.1 = repsX t.2 := by
  have e : ∀ b, firstR t.1 b = firstIn t.2.1 b := fun b => by
    unfold firstR firstIn
    rw [T.side.ins]
    refine find_same fun k hk => ?_
    rw [(pat_side T.side (T.rx.tr.ment k hk)).1]
  unfold repsR repsX
  rw [e, e]
theorem RT.step {f : Fd} {h : Int} {s0 : St} {X0 : List Int} {t : Rs × St × List Int} (T : RT f h s0 X0 t) {k : Int} (hk : k ∈ t.2.1.main) : RT f h s0 X0 (stepT f h t k) := by
  have hkr := T.rx.tr.ok.range k (T.rx.tr.ok.main k hk)
  have hX : k ∈ t.2.2 := (sel_sub _ _ _).subset ((T.rx.tr.sel k).1 hk)
  have hl := T.len
  have hpos : 0 < t.2.2.length := List.length_pos_of_mem hX
  have h1 := rone_side T.side T.rx.tr.ok T.rx.tr.turns T.plc.cards T.plc.mnd T.rk (quitN h k) hkr (Int.le_refl _) T.bk (by omega)
  have h2 : (t.2.1.take (quitN h k)).known.length ≤ t.2.1.known.length + 1 := known_said t.2.1 (quitN h k)
  have h3 : (t.2.2.erase k).length = t.2.2.length - 1 := List.length_erase_of_mem hX
  exact ⟨h1.1, T.rx.quit hk, plc_take T.rx.tr.ok T.rx.tr.turns T.plc (quitN h k) hkr, h1.2.1, h1.2.2, by
    show (t.2.1.take (quitN h k)).known.length + (t.2.2.erase k).length ≤ 199
    omega⟩
theorem findR {f : Fd} {h y : Int} {r0 : Rs} {s0 : St} {X0 : List Int} (T : RT f h s0 X0 (r0, s0, X0)) (hP : 0 < s0.f.places) {fuel : Nat} (hf : X0.length < fuel) : findS Rs.ins repsR (stepR f h) y fuel 0 [r0] = needX h s0 X0 y := by
  have hrx : ∀ t : Rs × St × List Int, RT f h s0 X0 t → ∀ k ∈ repsX t.2, RT f h s0 X0 (stepT f h t k) := fun t Tt k hk => Tt.step (repsX_mem hk)
  have e1 := find_map (key := Rs.ins) (reps := repsR) (step := stepR f h) (key' := fun t : Rs × St × List Int => keyX t.2) (reps' := fun t => repsX t.2) (step' := stepT f h) (fun t => t.1) (RT f h s0 X0) (fun t Tt => Tt.side.ins) (fun t Tt => Tt.reps) (fun t _ k _ => rfl) y hrx fuel 0 [(r0, s0, X0)] (fun t ht => by rw [List.mem_singleton.1 ht]; exact T)
  have e2 := find_map (key := keyX) (reps := repsX) (step := stepX h) (key' := fun t : Rs × St × List Int => keyX t.2) (reps' := fun t => repsX t.2) (step' := stepT f h) (fun t => t.2) (RT f h s0 X0) (fun t _ => rfl) (fun t _ => rfl) (fun t _ k _ => rfl) y hrx fuel 0 [(r0, s0, X0)] (fun t ht => by rw [List.mem_singleton.1 ht]; exact T)
  have e3 := findX (y := y) T.rx.tr hP hf
  rw [← e3]
  exact e1.trans e2.symm
theorem rfold_back {f : Fd} : ∀ (l : List Nt) (r : Rs), (∀ x ∈ l, ¬ f.freeze < x.hour) → r.back = 0 → (l.foldl (rone f) r).back = 0
  | [], _, _, h => h
  | x :: l, r, hl, h => by
    rw [List.foldl_cons]
    refine rfold_back l _ (fun y hy => hl y (List.mem_cons_of_mem _ hy)) ?_
    have hx := hl x (List.mem_cons_self ..)
    unfold rone
    dsimp only
    rw [if_neg hx]
    show (rtake f r x).back = 0
    rw [rtake_back x hx, h]
theorem findR_at {f : Fd} {l d : List Nt} (hd : diffs l = some d) (hv : validField f = true) (h y : Int) {fuel : Nat} (hf : 60 < fuel) : St.needs h y 61 0 (atL f h d) = (findS Rs.ins repsR (stepR f h) y fuel 0 [rafter f d h]).map (fun n => (n : Int)) := by
  obtain ⟨t, hX, hP⟩ := tr_at hd hv h
  obtain ⟨_, ht, _⟩ := diffs_spec hd
  obtain ⟨hs, hr⟩ := after_side hd hv h
  have hp : ∀ x ∈ d, 0 ≤ x.player ∧ x.player ≤ 999 := fun x hx => valid_player (ht.valid x hx)
  have hplc : Plc (atL f h d) := plc_fold _ _ (new_ok f) (Int.le_refl _) (plc_new hv) (fun x hx => hp x (List.mem_filter.1 hx).1)
  have hkn : (atL f h d).known.length ≤ 60 := by
    have : ∀ (r : List Nt) (s : St), (r.foldl St.take s).known.length ≤ s.known.length + r.length := by
      intro r
      induction r with
      | nil => intro s; simp
      | cons x r ih =>
        intro s
        have h1 := ih (s.take x)
        have h2 : (s.take x).known.length ≤ s.known.length + 1 := known_said s x
        rw [List.foldl_cons, List.length_cons]; omega
    have h1 := this (d.filter fun x => decide (x.hour ≤ h)) (St.new f)
    have h2 := List.length_filter_le (fun x : Nt => decide (x.hour ≤ h)) d
    have h3 := diffs_len hd
    have h4 : (St.new f).known.length = 0 := rfl
    have h5 : (atL f h d).known.length ≤ (St.new f).known.length + (d.filter fun x => decide (x.hour ≤ h)).length := h1
    omega
  have T : RT f h (atL f h d) (queue h (atL f h d)) (rafter f d h, atL f h d, queue h (atL f h d)) := ⟨hs, ⟨t, .start, rfl, rfl, fun _ => rfl⟩, hplc, hr, fun c => by
    refine rfold_back _ Rs.new (fun x hx => ?_) rfl
    have := of_decide_eq_true (List.mem_filter.1 hx).2
    omega, by
    show (atL f h d).known.length + (queue h (atL f h d)).length ≤ 199
    omega⟩
  rw [findR T hP (by omega), needs_eq t hP hX]
end E
end Go.Proofs.YtobjahlmjcnfoaaGreat

namespace Go.Proofs.YtobjahlmjcnfoaaGreat
namespace E
instance (s : St) (y : Int) : Decidable (inB s y) := by unfold inB; infer_instance
def whenR (f : Fd) (d : List Nt) (y : Int) : Option Int := (d.find? (fun x => decide (inB (atL f x.hour d) y))).map Nt.hour
theorem when_same (f : Fd) (y : Int) {d : List Nt} (h : Taken d) : St.when y (St.new f) d = whenR f d y := by
  obtain ⟨h1, h2⟩ := when_first f y h
  unfold whenR
  cases e : d.find? (fun x => decide (inB (atL f x.hour d) y)) with
  | none =>
    cases w : St.when y (St.new f) d with
    | none => rfl
    | some t =>
      obtain ⟨⟨x, hx, rfl⟩, hin, _⟩ := h2 t w
      have := List.find?_eq_none.1 e x hx
      exact absurd hin (by simpa using this)
  | some x =>
    have hin : inB (atL f x.hour d) y := by simpa using List.find?_some e
    cases w : St.when y (St.new f) d with
    | none => exact absurd hin (h1 w x.hour)
    | some t =>
      obtain ⟨⟨x', hx', rfl⟩, hin', hno⟩ := h2 t w
      obtain ⟨_, ys, zs, rfl, has⟩ := List.find?_eq_some_iff_append.1 e
      have hle : ¬ x.hour < x'.hour := fun c => hno x.hour c hin
      have hs := taken_hours h
      show some x'.hour = some x.hour
      congr 1
      rcases List.mem_append.1 hx' with hm | hm
      · exact absurd hin' (by simpa using has x' hm)
      · rcases List.mem_cons.1 hm with rfl | hm
        · rfl
        · have h3 := (List.pairwise_append.1 hs).2.1
          have h4 := (List.pairwise_cons.1 h3).1 x' hm
          omega
def lastOf {α : Type} (q : α → Bool) (v : α → Int) (l : List α) (a : Option Int) : Option Int := l.foldl (fun a k => if q k then some (v k) else a) a
theorem lastOf_find {α : Type} (q : α → Bool) (v : α → Int) : ∀ (l : List α) (a : Option Int), lastOf q v l a = match l.reverse.find? q with | some k => some (v k) | none => a
  | [], _ => rfl
  | x :: r, a => by
    show lastOf q v r (if q x then some (v x) else a) = _
    rw [lastOf_find q v r, List.reverse_cons, List.find?_append]
    cases r.reverse.find? q with
    | some k => rfl
    | none =>
      cases hq : q x <;> simp [hq]
def cutS (s : St) : Option Int := lastOf (fun k => !(s.pl k).grd && s.main.contains k) (fun k => (s.pl k).rank) s.order none
def cutR (r : Rs) : Option Int := (r.order.reverse.find? (fun p => !p.grd && r.ins.contains p.player)).map Rp.rank
theorem cut_side {f : Fd} {r : Rs} {s : St} (h : Side f r s) (ok : StOk s) (hr : ∀ p ∈ r.people, 0 ≤ p.rank) : cutR r = cutS s := by
  obtain ⟨ho, hm, _⟩ := order_side h ok hr
  unfold cutR cutS
  rw [← ho]
  have key : ∀ (l : List Rp), (∀ p ∈ l, p ∈ r.people) → ∀ a, lastOf (fun k => !(s.pl k).grd && s.main.contains k) (fun k => (s.pl k).rank) (l.map Rp.player) a = lastOf (fun p : Rp => !p.grd && r.ins.contains p.player) Rp.rank l a := by
    intro l
    induction l with
    | nil => intro _ a; rfl
    | cons p l ih =>
      intro hl a
      have hp := h.pl p (hl p (by simp))
      show lastOf _ _ (l.map Rp.player) (if (!(s.pl p.player).grd && s.main.contains p.player) = true then some (s.pl p.player).rank else a) = lastOf _ _ l (if (!p.grd && r.ins.contains p.player) = true then some p.rank else a)
      rw [hp.2.1, hp.2.2.2.2.2, h.ins]
      have := ih (fun q hq => hl q (by simp [hq])) (if (!p.grd && s.main.contains p.player) = true then some p.rank else a)
      rw [h.ins] at this
      exact this
  rw [key r.order (fun p hp => (hm p hp).1), lastOf_find]
  cases r.order.reverse.find? (fun p => !p.grd && r.ins.contains p.player) <;> rfl
theorem cut_at {f : Fd} {l d : List Nt} (hd : diffs l = some d) (hv : validField f = true) (H : Int) : cutR (rafter f d H) = cutS (atL f H d) := by
  obtain ⟨_, ht, _⟩ := diffs_spec hd
  obtain ⟨h1, h2⟩ := after_side hd hv H
  exact cut_side h1 (atL_ok f H (fun x hx => valid_player (ht.valid x hx))).1 h2
theorem needs_out {f : Fd} {l d : List Nt} (hd : diffs l = some d) (hv : validField f = true) (h y : Int) (hw : ((atL f h d).where_ y).1 ≠ 1 ∧ ((atL f h d).where_ y).1 ≠ 3) : St.needs h y 61 0 (atL f h d) = none := by
  obtain ⟨t, hX, hP⟩ := tr_at hd hv h
  obtain ⟨_, ht, _⟩ := diffs_spec hd
  have hp : ∀ x ∈ d, 0 ≤ x.player ∧ x.player ≤ 999 := fun x hx => valid_player (ht.valid x hx)
  have hplc : Plc (atL f h d) := plc_fold _ _ (new_ok f) (Int.le_refl _) (plc_new hv) (fun x hx => hp x (List.mem_filter.1 hx).1)
  generalize hs : atL f h d = s at *
  have has : ∀ m : List Int, (0 ≤ idx m y) ↔ y ∈ m := fun m => by
    have := idx_has m y
    rw [List.contains_eq_mem] at this
    rw [← decide_eq_decide]
    exact this
  unfold St.where_ at hw
  have hm : y ∉ s.main := fun c => by
    rw [if_pos ((has _).2 c)] at hw
    exact hw.1 rfl
  rw [if_neg (fun c => hm ((has _).1 c))] at hw
  have ho : y ∉ s.order := fun c => by
    have he := (order_mem.1 c).2
    have ha : y ∈ s.alts := alts_mem.2 ⟨c, hm⟩
    by_cases hc : y ∈ s.cards
    · have := (hplc.cards y).1 hc
      unfold Pl.entry at he
      rw [this.1, this.2] at he
      simp at he
    · rw [if_neg (fun c => hc ((has _).1 c)), if_pos ((has _).2 ha)] at hw
      exact hw.2 rfl
  have hq : y ∉ queue h s := fun c => by
    unfold queue at c
    split at c
    · rcases List.mem_append.1 c with h1 | h1
      · exact hm h1
      · exact ho (List.mem_filter.1 h1).1
    · exact ho c
  rw [needs_eq t hP hX]
  unfold needX
  rw [if_neg (fun c => hq c.1)]
  rfl
theorem needs_doc {f : Fd} {l d : List Nt} (hd : diffs l = some d) (hv : validField f = true) (h y : Int) {fuel : Nat} (hf : 60 < fuel) : St.needs h y 61 0 (atL f h d) = if ((atL f h d).where_ y).1 ≠ 1 ∧ ((atL f h d).where_ y).1 ≠ 3 then none else (findS Rs.ins repsR (stepR f h) y fuel 0 [rafter f d h]).map (fun n => (n : Int)) := by
  split
  · rename_i c; exact needs_out hd hv h y c
  · exact findR_at hd hv h y hf
end E
end Go.Proofs.YtobjahlmjcnfoaaGreat

namespace Go.Proofs.YtobjahlmjcnfoaaGreat
open Go.RowKit Go.Sort
attribute [local go_sem ↓] Go.wp_at_zero Go.wp_at_succ

structure Sv where
  A1 : Option Addr
  n1 : Nat
  c1 : Nat
  A2 : Option Addr
  n2 : Nat
  c2 : Nat
  bk : Int
  A3 : Option Addr
  n3 : Nat
  c3 : Nat
def Sv.cs (v : Sv) : List Value := [.slice v.A1 v.n1 v.c1, .slice v.A2 v.n2 v.c2, .int .i64 v.bk, .slice v.A3 v.n3 v.c3]
def flatV (vs : List Sv) : List Value := vs.flatMap Sv.cs
def RdV (w : World) (B : Nat) (A : Option Addr) (vs : List Sv) : Prop :=
  ∀ (k : Nat) (v : Sv), vs[k]? = some v → ∃ b o : Nat, A = some ⟨b, o, none⟩ ∧ b < B ∧ w.cell? ⟨b, o + k * 4, none⟩ = some (.slice v.A1 v.n1 v.c1) ∧ w.cell? ⟨b, o + k * 4 + 1, none⟩ = some (.slice v.A2 v.n2 v.c2) ∧ w.cell? ⟨b, o + k * 4 + 2, none⟩ = some (.int .i64 v.bk) ∧ w.cell? ⟨b, o + k * 4 + 3, none⟩ = some (.slice v.A3 v.n3 v.c3)
theorem RdV.below {w w' : World} {B : Nat} {A : Option Addr} {vs : List Sv} (h : RdV w B A vs) (hb : Below B w w') : RdV w' B A vs := fun k p hk => by
  obtain ⟨b, o, e, hB, c0, c1, c2, c3⟩ := h k p hk
  exact ⟨b, o, e, hB, (hb.cell (p := ⟨b, _, none⟩) hB).trans c0, (hb.cell (p := ⟨b, _, none⟩) hB).trans c1, (hb.cell (p := ⟨b, _, none⟩) hB).trans c2, (hb.cell (p := ⟨b, _, none⟩) hB).trans c3⟩
theorem RdV.mono {w : World} {B B' : Nat} {A : Option Addr} {vs : List Sv} (h : RdV w B A vs) (hB : B ≤ B') : RdV w B' A vs := fun k p hk => by
  obtain ⟨b, o, e, h1, r⟩ := h k p hk
  exact ⟨b, o, e, by omega, r⟩
theorem flatV_length (xs : List Sv) : (flatV xs).length = xs.length * 4 := by
  induction xs with
  | nil => rfl
  | cons a r ih =>
    have : flatV (a :: r) = a.cs ++ flatV r := rfl
    rw [this, List.length_append, ih, List.length_cons]
    show 4 + _ = _
    omega
theorem flatV_app (l r : List Sv) : flatV (l ++ r) = flatV l ++ flatV r := by unfold flatV; simp
theorem flatV_one (xs : List Sv) : ∀ u ∈ flatV xs, u.oneCell' = true := by
  intro u hu
  obtain ⟨p, _, hp⟩ := List.mem_flatMap.1 hu
  simp only [Sv.cs, List.mem_cons, List.not_mem_nil, or_false] at hp
  rcases hp with rfl | rfl | rfl | rfl <;> rfl
theorem flatV_at : ∀ (xs : List Sv) (k : Nat) (p : Sv) (i : Nat), xs[k]? = some p → i < 4 → (flatV xs)[k * 4 + i]? = p.cs[i]?
  | a :: r, 0, p, i, h, hi => by
    have e : a = p := Option.some.inj h
    subst e
    show (a.cs ++ flatV r)[0 * 4 + i]? = _
    rw [Nat.zero_mul, Nat.zero_add, List.getElem?_append_left (by show i < 4; exact hi)]
  | a :: r, k + 1, p, i, h, hi => by
    have h' : r[k]? = some p := h
    show (a.cs ++ flatV r)[(k + 1) * 4 + i]? = _
    rw [List.getElem?_append_right (by show 4 ≤ _; omega)]
    have e : (k + 1) * 4 + i - a.cs.length = k * 4 + i := by show (k + 1) * 4 + i - 4 = _; omega
    rw [e]
    exact flatV_at r k p i h' hi
theorem owns_RdV {w : World} {base : Nat} {A : Option Addr} {n c : Nat} {xs : List Sv} (h : w.ownsRow base 53 4 (.slice A n c) n (flatV xs)) (hn : xs.length = n) : RdV w w.heap.size A xs := by
  intro k p hk
  have hkl : k < n := by rw [← hn]; exact (List.getElem?_eq_some_iff.1 hk).1
  obtain ⟨g, cap, e, hbg, hh⟩ := h.form (by omega)
  have e' : A = some ⟨g, 0, none⟩ ∧ c = cap := by
    simp only [Value.slice.injEq] at e
    exact ⟨e.1, e.2.2⟩
  obtain ⟨rfl, rfl⟩ := e'
  have at_ : ∀ i, i < 4 → w.cell? ⟨g, 0 + k * 4 + i, none⟩ = p.cs[i]? := fun i hi => by
    rw [Nat.zero_add, h.cellAt (k * 4 + i) (by have := Nat.mul_le_mul_right 4 (show k + 1 ≤ n by omega); omega)]
    exact flatV_at xs k p i hk hi
  exact ⟨g, 0, rfl, (h.lt g rfl).2, at_ 0 (by omega), at_ 1 (by omega), at_ 2 (by omega), at_ 3 (by omega)⟩
theorem flatV_div {xs : List Sv} {j : Nat} {u : Value} (h : (flatV xs)[j]? = some u) : ∃ x, xs[j / 4]? = some x ∧ x.cs[j % 4]? = some u := by
  have hj : j < xs.length * 4 := by rw [← flatV_length]; exact (List.getElem?_eq_some_iff.1 h).1
  have hk : j / 4 < xs.length := by omega
  refine ⟨xs[j / 4], List.getElem?_eq_getElem hk, ?_⟩
  rw [← flatV_at xs (j / 4) _ (j % 4) (List.getElem?_eq_getElem hk) (by omega), ← h]
  congr 1
  omega
theorem state_info : (Tryz.prog.info? 53).map (fun i => (i.zero, i.size, i.bytes)) = some (some (.agg #[.slice none 0 0, .slice none 0 0, .int .i64 0, .slice none 0 0]), 4, 80) := by kernel_rfl
theorem rdV_one {w : World} {q : Nat} {p : Sv} (hq : w.heap[q]? = some (.cells p.cs.toArray 53 (0, 0))) : RdV w w.heap.size (some ⟨q, 0, Option.none⟩) [p] := by
  intro k y hk
  match k, hk with
  | 0, hk =>
    have hy : p = y := Option.some.inj hk
    subst hy
    exact ⟨_, 0, rfl, blk_lt hq, (blk_cell hq 0).trans rfl, (blk_cell hq 1).trans rfl, (blk_cell hq 2).trans rfl, (blk_cell hq 3).trans rfl⟩
  | k + 1, hk => cases hk
theorem run_app_V {w : World} (ty : TypeId) (base : Nat) (v : Value) (ps : List Sv) (m0 : Nat) (hown : w.ownsRow base 53 4 v m0 (flatV ps)) (hlen : ps.length = m0)
    (q : Nat) (x : Sv) (hq : w.heap[q]? = some (.cells x.cs.toArray 53 (0, 0))) (h0 : m0 ≤ 2000000) (hbase : base ≤ w.heap.size) :
    ∃ A' c' w', (Builtin.append_ #[60, 60] ty #[v, .slice (some ⟨q, 0, none⟩) 1 1]).run Tryz.prog w = .ok (.slice A' (m0 + 1) c') w' ∧ w'.ownsRow base 53 4 (.slice A' (m0 + 1) c') (m0 + 1) (flatV (ps ++ [x])) ∧ w.grownBy w' v.ownBlock ∧ (∀ g, (Value.slice A' (m0 + 1) c').ownBlock = some g → v.ownBlock = some g ∨ w.heap.size ≤ g) := by
  obtain ⟨i, hi, hz0, hz1, hz2⟩ := info_parts state_info
  obtain ⟨v', w', hrun, h2, h3, _, h5⟩ := run_append_own_at (P := Tryz.prog) w base 60 ty 53 i _ 4 80 Tryz.underlying60 hi hz0 hz1 hz2 (by rfl) (by decide) v m0 (flatV ps) hown ⟨q, 0, none⟩ 1 1 (flatV [x]) rfl (by
    intro j u hj
    obtain ⟨y, hy, hu⟩ := flatV_div hj
    have hj4 : j < 4 := by have := (List.getElem?_eq_some_iff.1 hj).1; rw [flatV_length] at this; simpa using this
    have hjd : j / 4 = 0 := by omega
    rw [hjd] at hy
    have e : x = y := Option.some.inj hy
    subst e
    have hjm : j % 4 = j := by omega
    rw [hjm] at hu
    rw [add_plain, Nat.zero_add, blk_cell hq]
    simpa using hu) (flatV_one [x]) (by unfold maxLen; omega) (by omega) hbase
  obtain ⟨A', c', rfl⟩ := own_form h2
  refine ⟨A', c', w', hrun, by rw [flatV_app]; exact h2, h3, fun g hg => ?_⟩
  rcases h5 with e | e
  · exact .inl (e ▸ hg)
  · rw [hg] at e
    exact .inr (by have := Option.some.inj e; omega)
theorem wpList_app_V {w : World} {ops : Array Oper} {rest : List Oper} {o : Oper} {a : Act} {Q : Exit → Act → World → Prop} (hgd : o.guard = none) (s x : Operand)
    (ho : o.op = .call { callee := .builtin .append, args := #[s, x], argTypes := #[60, 60] }) (base : Nat) (v : Value) (ps : List Sv) (m0 : Nat) (hs : a.eval s = v) (hown : w.ownsRow base 53 4 v m0 (flatV ps)) (hlen : ps.length = m0)
    (q : Nat) (y : Sv) (hx : a.eval x = .slice (some ⟨q, 0, none⟩) 1 1) (hq : w.heap[q]? = some (.cells y.cs.toArray 53 (0, 0))) (h0 : m0 ≤ 2000000) (hbase : base ≤ w.heap.size)
    (h : ∀ A' c' w', w'.ownsRow base 53 4 (.slice A' (m0 + 1) c') (m0 + 1) (flatV (ps ++ [y])) → w.grownBy w' v.ownBlock → (∀ g, (Value.slice A' (m0 + 1) c').ownBlock = some g → v.ownBlock = some g ∨ w.heap.size ≤ g) → wpList Tryz.prog ops Q rest (a.put o.dst (.slice A' (m0 + 1) c')) w') :
    wpList Tryz.prog ops Q (o :: rest) a w := by
  refine wpList_plain hgd fun K hK => ?_
  obtain ⟨A', c', w', hr', h2, h3, h4⟩ := run_app_V o.type base v ps m0 hown hlen q y hq h0 hbase
  unfold Oper.wp execOp
  simp only [ho, resolve, invoke, builtin, Sem.run_bind, Sem.run_pure, Result.andThen_ok, List.map_toArray, List.map_cons, List.map_nil, hs, hx, hr']
  exact hK _ _ (h A' c' w' h2 h3 h4)
theorem ownsV_nil (w : World) (B : Nat) : w.ownsRow B 53 4 (.slice Option.none 0 0) 0 (flatV []) := ⟨rfl, .inl ⟨rfl, rfl⟩⟩

def Sv.is (v : Sv) (w : World) (ok : Nat → Prop) (s : E.Rs) : Prop := s.people.length = v.n1 ∧ (v.A1 = none → v.c1 = 0) ∧ s.wilds.length = v.n2 ∧ (v.A2 = none → v.c2 = 0) ∧ s.ins.length = v.n3 ∧ s.back = v.bk ∧
  (∀ W : World, w.heap.size ≤ W.heap.size → (∀ b, b < w.heap.size → ok b → W.heap[b]? = w.heap[b]?) → RdP W W.heap.size v.A1 s.people ∧ RdI W W.heap.size v.A2 s.wilds ∧ RdI W W.heap.size v.A3 s.ins)
theorem Sv.is.to {v : Sv} {w w' : World} {ok ok' : Nat → Prop} {s : E.Rs} (h : v.is w ok s) (hb : w.heap.size ≤ w'.heap.size) (hk : ∀ b, b < w.heap.size → ok b → w'.heap[b]? = w.heap[b]?) (ho : ∀ b, b < w.heap.size → ok b → ok' b) : v.is w' ok' s := by
  obtain ⟨h1, h2, h3, h4, h5, h6, h7⟩ := h
  exact ⟨h1, h2, h3, h4, h5, h6, fun W hW hWb => h7 W (Nat.le_trans hb hW) (fun b hb2 hok => (hWb b (Nat.lt_of_lt_of_le hb2 hb) (ho b hb2 hok)).trans (hk b hb2 hok))⟩
theorem Sv.is.st {v : Sv} {w : World} {ok : Nat → Prop} {s : E.Rs} (h : v.is w ok s) : StW w ok (.agg #[.slice v.A1 v.n1 v.c1, .slice v.A2 v.n2 v.c2, .int .i64 v.bk, .slice v.A3 v.n3 v.c3]) s := by
  obtain ⟨h1, h2, h3, h4, h5, h6, h7⟩ := h
  exact ⟨_, _, _, _, _, _, _, _, _, by rw [h6], h1, h2, h3, h4, h5, h7⟩
theorem st_is {x : Value} {w : World} {ok : Nat → Prop} {s : E.Rs} (h : StW w ok x s) : ∃ v : Sv, x = .agg #[.slice v.A1 v.n1 v.c1, .slice v.A2 v.n2 v.c2, .int .i64 v.bk, .slice v.A3 v.n3 v.c3] ∧ v.is w ok s := by
  obtain ⟨An, nn, cn, A2, n2, c2, A3, n3, c3, rfl, h1, h2, h3, h4, h5, h7⟩ := h
  exact ⟨⟨An, nn, cn, A2, n2, c2, s.back, A3, n3, c3⟩, rfl, h1, h2, h3, h4, h5, rfl, h7⟩
def Hold (w : World) (bad : Option Nat) (vs : List Sv) (ss : List E.Rs) : Prop := vs.length = ss.length ∧ ∀ (k : Nat) (v : Sv) (s : E.Rs), vs[k]? = some v → ss[k]? = some s → v.is w (fun b => some b ≠ bad) s
theorem Hold.to {w w' : World} {bad bad' : Option Nat} {vs : List Sv} {ss : List E.Rs} (h : Hold w bad vs ss) (hg : w.grownBy w' bad) (hb : bad' = bad ∨ ∀ g, bad' = some g → bad = some g ∨ w.heap.size ≤ g) : Hold w' bad' vs ss := by
  refine ⟨h.1, fun k v s h1 h2 => (h.2 k v s h1 h2).to hg.size (fun b hb1 hok => hg.block b hb1 hok) (fun b hb1 hok => ?_)⟩
  rcases hb with rfl | hb
  · exact hok
  · intro e
    rcases hb b e.symm with h3 | h3
    · exact hok h3.symm
    · omega
theorem Hold.nil (w : World) (bad : Option Nat) : Hold w bad [] [] := ⟨rfl, fun k v s h => by simp at h⟩
theorem Hold.app {w : World} {bad : Option Nat} {vs : List Sv} {ss : List E.Rs} {v : Sv} {s : E.Rs} (h : Hold w bad vs ss) (hv : v.is w (fun b => some b ≠ bad) s) : Hold w bad (vs ++ [v]) (ss ++ [s]) := by
  refine ⟨by rw [List.length_append, List.length_append, h.1]; rfl, fun k x t h1 h2 => ?_⟩
  rw [List.getElem?_append] at h1 h2
  rw [h.1] at h1
  split at h1
  · rename_i hlt
    rw [if_pos hlt] at h2
    exact h.2 k x t h1 h2
  · rename_i hlt
    rw [if_neg hlt] at h2
    match hk : k - ss.length, h1, h2 with
    | 0, h1, h2 =>
      have e1 : v = x := Option.some.inj h1
      have e2 : s = t := Option.some.inj h2
      subst e1 e2
      exact hv
    | j + 1, h1, _ => cases h1

set_option maxHeartbeats 1600000 in
theorem sameInts_ref (A1 : Option Addr) (n1 c1 : Nat) (xs : List Int) (A2 : Option Addr) (n2 c2 : Nat) (ys : List Int) (w : World) (hn1 : xs.length = n1) (hr1 : RdI w w.heap.size A1 xs) (hm1 : n1 ≤ 1000000) (hn2 : ys.length = n2) (hr2 : RdI w w.heap.size A2 ys) (hm2 : n2 ≤ 1000000) :
    Calls Tryz.prog 44 #[.slice A1 n1 c1, .slice A2 n2 c2] w fun e w' => e = .returned (.bool (xs == ys)) ∧ Below w.heap.size w w' := by
  have HN1 := hide hn1
  have HR1 := hide hr1
  have HN2 := hide hn2
  have HR2 := hide hr2
  obtain ⟨q, hq⟩ : ∃ q, (xs == ys) = q := ⟨_, rfl⟩
  rw [hq]
  have HQ := hide hq
  clear hn1 hr1 hn2 hr2 hq
  go_enter Tryz.func44, Tryz.ntmps44
  go_wp2_with fail
  go_loopw [5] (fun i wr => ∃ k : Nat, k ≤ n1 ∧ k ≤ n2 ∧ i = .int .i64 k ∧ Hid (∀ j, j < k → xs[j]? = ys[j]?) ∧ Below w.heap.size w wr) (fun i _ => n1 - (intOf i).toNat)
  case atStart => exact ⟨0, by omega, by omega, rfl, hide (fun j hj => by omega), by (repeat' first | exact zbR _ _ | assumption | refine zbD ?_ | refine zbA ?_ ?_ _ | refine zbS ?_ ?_ _ | refine zbT ?_ (by assumption) ?_ | (simp; done) | (simp; omega) | omega)⟩
  case round =>
    obtain ⟨k, hk, hk2, rfl, HZ, hB⟩ := hrel
    have hk0 : (0 : Int) ≤ (k : Int) := by omega
    by_cases hlt : k < n1
    · have hlt' : (k : Int) < (n1 : Int) := by omega
      by_cases hlt2 : k < n2
      · have hlt2' : (k : Int) < (n2 : Int) := by omega
        obtain ⟨x, hx⟩ : ∃ q, xs[k]? = some q := ⟨_, List.getElem?_eq_getElem (by have := HN1.out; omega)⟩
        obtain ⟨y, hy⟩ : ∃ q, ys[k]? = some q := ⟨_, List.getElem?_eq_getElem (by have := HN2.out; omega)⟩
        obtain ⟨b, o, hA, hbB, d0⟩ := (HR1.out.below hB) k x hx
        obtain ⟨b2, o2, hA2, hbB2, e0⟩ := (HR2.out.below hB) k y hy
        subst hA hA2
        have HX := hide hx
        have HY := hide hy
        clear hx hy
        cases h0 : (x != y)
        · have HX0 := hide (show x = y by simpa using h0)
          go_wp2_with fail
          go_quiet (fail)
          go_wp2_with fail
          go_roundw
          case rel => exact ⟨k + 1, by omega, by omega, by go_num, hide (fun j hj => by
            rcases Nat.lt_or_ge j k with h | h
            · exact HZ.out j h
            · have : j = k := by omega
              rw [this, HX.out, HY.out, HX0.out]), below_drewN hB _⟩
          case measure => simp [intOf]; omega
        · have HX0 := hide (show x ≠ y by simpa using h0)
          go_wp2_with fail
          go_quiet (fail)
          go_wp2_with fail
          go_ret
          have hq : q = false := HQ.out.symm.trans (by
            rw [beq_eq_false_iff_ne]
            intro e
            have h1 := HX.out
            rw [e, HY.out] at h1
            exact HX0.out (Option.some.inj h1).symm)
          subst hq
          exact ⟨rfl, below_drewN hB _⟩
      · have hkn : k = n2 := by omega
        subst hkn
        have hne : ((n1 : Int) == (k : Int)) = false := by simp; omega
        go_wp2_with fail
        go_ret
        have hq : q = false := HQ.out.symm.trans (by
          rw [beq_eq_false_iff_ne]
          intro e
          have h1 := HN1.out
          rw [e, HN2.out] at h1
          omega)
        subst hq
        exact ⟨rfl, hB⟩
    · have hkn : k = n1 := by omega
      subst hkn
      cases hc : ((k : Int) == (n2 : Int))
      · have HC := hide (show k ≠ n2 by simp at hc; omega)
        go_wp2_with fail
        go_ret
        have hq : q = false := HQ.out.symm.trans (by
          rw [beq_eq_false_iff_ne]
          intro e
          have h1 := HN1.out
          rw [e, HN2.out] at h1
          exact HC.out h1.symm)
        subst hq
        exact ⟨rfl, hB⟩
      · have HC := hide (show k = n2 by simp at hc; omega)
        go_wp2_with fail
        go_ret
        have hq : q = true := HQ.out.symm.trans (by
          rw [beq_iff_eq]
          refine List.ext_getElem? fun j => ?_
          rcases Nat.lt_or_ge j k with h | h
          · exact HZ.out j h
          · rw [List.getElem?_eq_none (by have := HN1.out; omega), List.getElem?_eq_none (by have := HN2.out; have := HC.out; omega)])
        subst hq
        exact ⟨rfl, hB⟩
end Go.Proofs.YtobjahlmjcnfoaaGreat

namespace Go.Proofs.YtobjahlmjcnfoaaGreat
open Go.RowKit Go.Sort
attribute [local go_sem ↓] Go.wp_at_zero Go.wp_at_succ

def TakenP : Prop := ∀ (A : Option Addr) (n c : Nat) (l d : List E.Nt) (w : World), l.length = n → RdN w w.heap.size A l → E.diffs l = some d →
    Calls Tryz.prog 29 #[.slice A n c] w fun e w' => ∃ A' m c', e = .returned (.slice A' m c') ∧ d.length = m ∧ w'.ownsRow w.heap.size 70 5 (.slice A' m c') m (flatN d) ∧ Below w.heap.size w w'
def OneOk (f : E.Fd) (s : E.Rs) (x : E.Nt) : Prop := s.people.length ≤ 199 ∧ s.wilds.length ≤ 199 ∧ 0 ≤ s.back ∧ s.back ≤ 200 ∧ ((E.rtake f s x).people.map E.Rp.player).Nodup ∧ (∀ p ∈ (E.rtake f s x).people, 0 ≤ p.player) ∧ (E.rtake f s x).people.length ≤ 200 ∧ (E.rtake f s x).ins.length ≤ 400 ∧ (0 ≤ (E.rtake f s x).back ∧ (E.rtake f s x).back ≤ 1000)
def aftF (f : E.Fd) (d : List E.Nt) (h : Int) : E.Rs := (d.takeWhile fun x => decide (x.hour ≤ h)).foldl (E.rone f) E.Rs.new
theorem takeWhile_all {d : List E.Nt} {h : Int} {i : Nat} (hi : ∀ j y, j < i → d[j]? = some y → y.hour ≤ h) (hs : d.length ≤ i ∨ ∃ y, d[i]? = some y ∧ h < y.hour) : d.takeWhile (fun x => decide (x.hour ≤ h)) = d.take i := by
  induction d generalizing i with
  | nil => simp
  | cons a r ih =>
    cases i with
    | zero =>
      rcases hs with c | ⟨y, hy, c⟩
      · simp at c
      · have e : a = y := Option.some.inj hy
        subst e
        rw [List.takeWhile_cons_of_neg (by simp; omega)]
        rfl
    | succ i =>
      have h0 := hi 0 a (by omega) rfl
      rw [List.takeWhile_cons_of_pos (by simp; omega), List.take_succ_cons, ih (i := i) (fun j y hj hy => hi (j + 1) y (by omega) hy) (by
        rcases hs with c | ⟨y, hy, c⟩
        · left; rw [List.length_cons] at c; omega
        · right; exact ⟨y, hy, c⟩)]
set_option maxHeartbeats 6400000 in
set_option maxRecDepth 100000 in
theorem After_ref (hT : TakeP) (hK : TakenP) (f : E.Fd) (A : Option Addr) (n c : Nat) (l d : List E.Nt) (h : Int) (w : World) (hn : l.length = n) (hr : RdN w w.heap.size A l) (hd : E.diffs l = some d) (hm : d.length ≤ 60) (hok : ∀ (i : Nat) (x : E.Nt), d[i]? = some x → OneOk f ((d.take i).foldl (E.rone f) E.Rs.new) x) (hp : 0 ≤ f.places ∧ f.places ≤ 1000) :
    Calls Tryz.prog 19 #[.agg #[.int .i64 f.places, .int .i64 f.wilds, .int .i64 f.guards, .int .i64 f.close, .int .i64 f.freeze], .slice A n c, .int .i64 h] w fun e w' => ∃ v, e = .returned v ∧ StW w' (fun b => w.heap.size ≤ b) v (aftF f d h) ∧ Below w.heap.size w w' := by
  have HN := hide hn
  have HR := hide hr
  have HD := hide hd
  have HM := hide hm
  have HOKS := hide hok
  have HPL := hide hp
  clear hn hr hd hm hok hp
  go_enter Tryz.func19, Tryz.ntmps19
  go_upto_region 2 with fail
  obtain ⟨w0, hw0⟩ : ∃ q, ((w.alloc (.cells #[.int .i64 f.places, .int .i64 f.wilds, .int .i64 f.guards, .int .i64 f.close, .int .i64 f.freeze] 23)).alloc (.cells #[.slice none 0 0, .slice none 0 0, .int .i64 0, .slice none 0 0] 53)).alloc (.cells #[.slice none 0 0, .slice none 0 0, .int .i64 0, .slice none 0 0] 53) = q := ⟨_, rfl⟩
  have HB0 := hide (show Below w.heap.size w w0 by rw [← hw0]; (repeat' first | exact zbR _ _ | assumption | refine zbD ?_ | refine zbA ?_ ?_ _ | refine zbS ?_ ?_ _ | refine zbT ?_ (by assumption) ?_ | (simp; done) | (simp; omega) | omega))
  have HF0 := hide (show w0.heap[w.heap.size]? = some (.cells #[.int .i64 f.places, .int .i64 f.wilds, .int .i64 f.guards, .int .i64 f.close, .int .i64 f.freeze] 23 (0, 0)) by rw [← hw0]; exact (Below.heap_alloc _ _ _ (by first | (simp; done) | (simp; omega) | omega)).trans ((Below.heap_alloc _ _ _ (by first | (simp; done) | (simp; omega) | omega)).trans (World.alloc_heap_new _ _)))
  have HT0 := hide (show w0.heap[w.heap.size + 1]? = some (.cells #[.slice none 0 0, .slice none 0 0, .int .i64 0, .slice none 0 0] 53 (0, 0)) by rw [← hw0]; exact (Below.heap_alloc _ _ _ (by first | (simp; done) | (simp; omega) | omega)).trans ((congrArg _ (by simp)).trans (World.alloc_heap_new _ _)))
  have HA0 := hide (show w0.heap[w.heap.size + 1 + 1]? = some (.cells #[.slice none 0 0, .slice none 0 0, .int .i64 0, .slice none 0 0] 53 (0, 0)) by rw [← hw0]; exact (congrArg _ (by simp)).trans (World.alloc_heap_new _ _))
  rw [hw0]
  clear hw0
  go_upto_region 3 with (go_at_call 29; refine (hK A n c l d w0 HN.out ((HR.out.below HB0.out).mono HB0.out.size) HD.out).mono ?_; rintro e w1 ⟨A1, m, c1, rfl, hlen, hown, hb1⟩; have HL := hide hlen; have HO := hide hown; have HB1 := hide hb1; clear hlen hown hb1)
  have HF1 := hide ((HB1.out.block _ (blk_lt HF0.out)).trans HF0.out)
  have HT1 := hide ((HB1.out.block _ (blk_lt HT0.out)).trans HT0.out)
  have HA1 := hide ((HB1.out.block _ (blk_lt HA0.out)).trans HA0.out)
  have HBW1 := hide (zbT HB0.out HB1.out HB0.out.size)
  clear HF0 HT0 HA0
  go_wp2_with fail
  go_loopw [9] (fun i wr => ∃ (i' : Nat) (An : Option Addr) (nn cn : Nat) (A2 : Option Addr) (n2 c2 : Nat) (bk : Int) (A3 : Option Addr) (n3 c3 : Nat), i' ≤ m ∧ i = .int .i64 i' ∧ Hid (∀ j y, j < i' → d[j]? = some y → y.hour ≤ h) ∧ Hid (StW wr (fun b => w1.heap.size ≤ b) (.agg #[.slice An nn cn, .slice A2 n2 c2, .int .i64 bk, .slice A3 n3 c3]) ((d.take i').foldl (E.rone f) E.Rs.new)) ∧ Hid (wr.heap[w.heap.size + 1 + 1]? = some (.cells #[.slice An nn cn, .slice A2 n2 c2, .int .i64 bk, .slice A3 n3 c3] 53 (0, 0))) ∧ Hid (w1.grownBy wr (some (w.heap.size + 1 + 1)))) (fun i _ => m - (intOf i).toNat)
  case atStart => exact ⟨0, none, 0, 0, none, 0, 0, 0, none, 0, 0, by omega, rfl, hide (fun j y hj => by omega), hide ⟨none, 0, 0, none, 0, 0, none, 0, 0, rfl, rfl, fun _ => rfl, rfl, fun _ => rfl, rfl, fun W _ _ => ⟨RdP.nil _ _ _, fun k p hk => by simp [E.Rs.new] at hk, fun k p hk => by simp [E.Rs.new] at hk⟩⟩, HA1, hide (World.grownBy.refl _ _)⟩
  case round =>
    obtain ⟨i, An, nn, cn, A2, n2, c2, bk, A3, n3, c3, hi, rfl, HJ, HSW, HAR, HGR⟩ := hrel
    have hm4 : m ≤ 60 := by have h1 := HL.out; have h2 := HM.out; omega
    by_cases hin : i < m
    · obtain ⟨x, hx⟩ : ∃ q, d[i]? = some q := ⟨_, List.getElem?_eq_getElem (by have := HL.out; omega)⟩
      have HX := hide hx
      have HOK := hide (HOKS.out i x hx)
      clear hx
      have hi1 : (i : Int) < (m : Int) := by omega
      have hi0 : (0 : Int) ≤ (i : Int) := by omega
      have HDR := hide (owns_RdN (HO.out.kept HGR.out (.inr (row_ne HO.out HA1.out (by decide)))) HL.out)
      obtain ⟨bd, od, hA, hbd, d0, d1, d2, d3, d4⟩ := HDR.out i x HX.out
      subst hA
      by_cases hx : h < x.hour
      · have HTW := hide (takeWhile_all HJ.out (.inr ⟨x, HX.out, hx⟩))
        have HTR := hide ((HGR.out.block _ (blk_lt HT1.out) (fun e => by have := Option.some.inj e; omega)).trans HT1.out)
        have HBW := hide (HBW1.out.trans (grown_below HGR.out HBW1.out.size (fun g hg => by cases hg; omega)))
        have ys0 : wr.cell? ⟨w.heap.size + 1 + 1, 0, none⟩ = some (.slice An nn cn) := (blk_cell HAR.out 0).trans rfl
        have ys1 : wr.cell? ⟨w.heap.size + 1 + 1, 1, none⟩ = some (.slice A2 n2 c2) := (blk_cell HAR.out 1).trans rfl
        have ys2 : wr.cell? ⟨w.heap.size + 1 + 1, 2, none⟩ = some (.int .i64 bk) := (blk_cell HAR.out 2).trans rfl
        have ys3 : wr.cell? ⟨w.heap.size + 1 + 1, 3, none⟩ = some (.slice A3 n3 c3) := (blk_cell HAR.out 3).trans rfl
        have lys := blk_lt HAR.out
        have yt0 : wr.cell? ⟨w.heap.size + 1, 0, none⟩ = some (.slice none 0 0) := (blk_cell HTR.out 0).trans rfl
        have yt1 : wr.cell? ⟨w.heap.size + 1, 1, none⟩ = some (.slice none 0 0) := (blk_cell HTR.out 1).trans rfl
        have yt2 : wr.cell? ⟨w.heap.size + 1, 2, none⟩ = some (.int .i64 0) := (blk_cell HTR.out 2).trans rfl
        have yt3 : wr.cell? ⟨w.heap.size + 1, 3, none⟩ = some (.slice none 0 0) := (blk_cell HTR.out 3).trans rfl
        have lyt := blk_lt HTR.out
        have fz0 := blk_frozen HTR.out 0
        have fz1 := blk_frozen HTR.out 1
        have fz2 := blk_frozen HTR.out 2
        have fz3 := blk_frozen HTR.out 3
        go_wp2_with fail
        obtain ⟨w8, hw8⟩ : ∃ q, (((wr.setCell ⟨w.heap.size + 1, 0, none⟩ (.slice An nn cn)).setCell ⟨w.heap.size + 1, 1, none⟩ (.slice A2 n2 c2)).setCell ⟨w.heap.size + 1, 2, none⟩ (.int .i64 bk)).setCell ⟨w.heap.size + 1, 3, none⟩ (.slice A3 n3 c3) = q := ⟨_, rfl⟩
        have HT8 := hide (show w8.heap[w.heap.size + 1]? = some (.cells #[.slice An nn cn, .slice A2 n2 c2, .int .i64 bk, .slice A3 n3 c3] 53 (0, 0)) by rw [← hw8]; exact blk_set (blk_set (blk_set (blk_set HTR.out 0 _) 1 _) 2 _) 3 _)
        have HG8 := hide (show wr.grownBy w8 (some (w.heap.size + 1)) by rw [← hw8]; exact gr_trans (gr_trans (gr_trans (gr_set _ _ _ _) (gr_set _ _ _ _)) (gr_set _ _ _ _)) (gr_set _ _ _ _))
        rw [hw8]
        clear hw8
        have HB8 := hide (HBW.out.trans (grown_below HG8.out HBW.out.size (fun g hg => by cases hg; omega)))
        have HS8 := hide (show StW w8 (fun b => w.heap.size ≤ b) (.agg #[.slice An nn cn, .slice A2 n2 c2, .int .i64 bk, .slice A3 n3 c3]) (aftF f d h) by
          unfold aftF
          rw [HTW.out]
          exact HSW.out.to HG8.out.size (fun b hb hk => HG8.out.block b hb (fun e => by have h2 := Option.some.inj e; have h3 := blk_lt HT1.out; omega)) (fun b hb hk => Nat.le_trans HBW1.out.size hk))
        have r0 : w8.cell? ⟨w.heap.size + 1, 0, none⟩ = some (.slice An nn cn) := (blk_cell HT8.out 0).trans rfl
        have r1 : w8.cell? ⟨w.heap.size + 1, 1, none⟩ = some (.slice A2 n2 c2) := (blk_cell HT8.out 1).trans rfl
        have r2 : w8.cell? ⟨w.heap.size + 1, 2, none⟩ = some (.int .i64 bk) := (blk_cell HT8.out 2).trans rfl
        have r3 : w8.cell? ⟨w.heap.size + 1, 3, none⟩ = some (.slice A3 n3 c3) := (blk_cell HT8.out 3).trans rfl
        have lr := blk_lt HT8.out
        exact bodyPost_ret (v := .agg #[.slice An nn cn, .slice A2 n2 c2, .int .i64 bk, .slice A3 n3 c3]) (by simp [results, Tryz.results19, go_sem, r0, r1, r2, r3]) rfl ⟨_, rfl, HS8.out, HB8.out⟩
      · have hx' : x.hour ≤ h := by omega
        clear hx
        go_upto_region 7 with fail
        have HFR := hide ((HGR.out.block _ (blk_lt HF1.out) (fun e => by have := Option.some.inj e; omega)).trans HF1.out)
        have hSof : ∀ w', Below wr.heap.size wr w' → Below wr.heap.size wr w' ∧ w'.cell? ⟨w.heap.size, 0, none⟩ = some (.int .i64 f.places) ∧ w'.cell? ⟨w.heap.size, 1, none⟩ = some (.int .i64 f.wilds) ∧ w'.cell? ⟨w.heap.size, 2, none⟩ = some (.int .i64 f.guards) ∧ w'.cell? ⟨w.heap.size, 3, none⟩ = some (.int .i64 f.close) ∧ w'.cell? ⟨w.heap.size, 4, none⟩ = some (.int .i64 f.freeze) ∧ w'.cell? ⟨w.heap.size + 1 + 1, 0, none⟩ = some (.slice An nn cn) ∧ w'.frozen? ⟨w.heap.size + 1 + 1, 0, none⟩ = false ∧ w'.cell? ⟨w.heap.size + 1 + 1, 1, none⟩ = some (.slice A2 n2 c2) ∧ w'.frozen? ⟨w.heap.size + 1 + 1, 1, none⟩ = false ∧ w'.cell? ⟨w.heap.size + 1 + 1, 2, none⟩ = some (.int .i64 bk) ∧ w'.frozen? ⟨w.heap.size + 1 + 1, 2, none⟩ = false ∧ w'.cell? ⟨w.heap.size + 1 + 1, 3, none⟩ = some (.slice A3 n3 c3) ∧ w'.frozen? ⟨w.heap.size + 1 + 1, 3, none⟩ = false ∧ w'.cell? ⟨bd, od + i * 5, none⟩ = some (.int .i64 x.id) ∧ w'.cell? ⟨bd, od + i * 5 + 1, none⟩ = some (.int .i64 x.hour) ∧ w'.cell? ⟨bd, od + i * 5 + 2, none⟩ = some (.int .i64 x.kind) ∧ w'.cell? ⟨bd, od + i * 5 + 3, none⟩ = some (.int .i64 x.player) ∧ w'.cell? ⟨bd, od + i * 5 + 4, none⟩ = some (.int .i64 x.rank) ∧ bd < w'.heap.size ∧ w.heap.size < w'.heap.size ∧ w.heap.size + 1 + 1 < w'.heap.size := fun w' hb => by
          have hF := (hb.block _ (blk_lt HFR.out)).trans HFR.out; have hA := (hb.block _ (blk_lt HAR.out)).trans HAR.out; exact ⟨hb, (blk_cell hF 0).trans rfl, (blk_cell hF 1).trans rfl, (blk_cell hF 2).trans rfl, (blk_cell hF 3).trans rfl, (blk_cell hF 4).trans rfl, (blk_cell hA 0).trans rfl, blk_frozen hA 0, (blk_cell hA 1).trans rfl, blk_frozen hA 1, (blk_cell hA 2).trans rfl, blk_frozen hA 2, (blk_cell hA 3).trans rfl, blk_frozen hA 3, (hb.cell (p := ⟨bd, _, none⟩) hbd).trans d0, (hb.cell (p := ⟨bd, _, none⟩) hbd).trans d1, (hb.cell (p := ⟨bd, _, none⟩) hbd).trans d2, (hb.cell (p := ⟨bd, _, none⟩) hbd).trans d3, (hb.cell (p := ⟨bd, _, none⟩) hbd).trans d4, Nat.lt_of_lt_of_le hbd hb.size, blk_lt hF, blk_lt hA⟩
        have hS : (fun w' => Below wr.heap.size wr w' ∧ w'.cell? ⟨w.heap.size, 0, none⟩ = some (.int .i64 f.places) ∧ w'.cell? ⟨w.heap.size, 1, none⟩ = some (.int .i64 f.wilds) ∧ w'.cell? ⟨w.heap.size, 2, none⟩ = some (.int .i64 f.guards) ∧ w'.cell? ⟨w.heap.size, 3, none⟩ = some (.int .i64 f.close) ∧ w'.cell? ⟨w.heap.size, 4, none⟩ = some (.int .i64 f.freeze) ∧ w'.cell? ⟨w.heap.size + 1 + 1, 0, none⟩ = some (.slice An nn cn) ∧ w'.frozen? ⟨w.heap.size + 1 + 1, 0, none⟩ = false ∧ w'.cell? ⟨w.heap.size + 1 + 1, 1, none⟩ = some (.slice A2 n2 c2) ∧ w'.frozen? ⟨w.heap.size + 1 + 1, 1, none⟩ = false ∧ w'.cell? ⟨w.heap.size + 1 + 1, 2, none⟩ = some (.int .i64 bk) ∧ w'.frozen? ⟨w.heap.size + 1 + 1, 2, none⟩ = false ∧ w'.cell? ⟨w.heap.size + 1 + 1, 3, none⟩ = some (.slice A3 n3 c3) ∧ w'.frozen? ⟨w.heap.size + 1 + 1, 3, none⟩ = false ∧ w'.cell? ⟨bd, od + i * 5, none⟩ = some (.int .i64 x.id) ∧ w'.cell? ⟨bd, od + i * 5 + 1, none⟩ = some (.int .i64 x.hour) ∧ w'.cell? ⟨bd, od + i * 5 + 2, none⟩ = some (.int .i64 x.kind) ∧ w'.cell? ⟨bd, od + i * 5 + 3, none⟩ = some (.int .i64 x.player) ∧ w'.cell? ⟨bd, od + i * 5 + 4, none⟩ = some (.int .i64 x.rank) ∧ bd < w'.heap.size ∧ w.heap.size < w'.heap.size ∧ w.heap.size + 1 + 1 < w'.heap.size) wr := hSof _ (zbR _ _)
        (try dsimp only at hS)
        refine wp_region_T_drew (S := (fun w' => Below wr.heap.size wr w' ∧ w'.cell? ⟨w.heap.size, 0, none⟩ = some (.int .i64 f.places) ∧ w'.cell? ⟨w.heap.size, 1, none⟩ = some (.int .i64 f.wilds) ∧ w'.cell? ⟨w.heap.size, 2, none⟩ = some (.int .i64 f.guards) ∧ w'.cell? ⟨w.heap.size, 3, none⟩ = some (.int .i64 f.close) ∧ w'.cell? ⟨w.heap.size, 4, none⟩ = some (.int .i64 f.freeze) ∧ w'.cell? ⟨w.heap.size + 1 + 1, 0, none⟩ = some (.slice An nn cn) ∧ w'.frozen? ⟨w.heap.size + 1 + 1, 0, none⟩ = false ∧ w'.cell? ⟨w.heap.size + 1 + 1, 1, none⟩ = some (.slice A2 n2 c2) ∧ w'.frozen? ⟨w.heap.size + 1 + 1, 1, none⟩ = false ∧ w'.cell? ⟨w.heap.size + 1 + 1, 2, none⟩ = some (.int .i64 bk) ∧ w'.frozen? ⟨w.heap.size + 1 + 1, 2, none⟩ = false ∧ w'.cell? ⟨w.heap.size + 1 + 1, 3, none⟩ = some (.slice A3 n3 c3) ∧ w'.frozen? ⟨w.heap.size + 1 + 1, 3, none⟩ = false ∧ w'.cell? ⟨bd, od + i * 5, none⟩ = some (.int .i64 x.id) ∧ w'.cell? ⟨bd, od + i * 5 + 1, none⟩ = some (.int .i64 x.hour) ∧ w'.cell? ⟨bd, od + i * 5 + 2, none⟩ = some (.int .i64 x.kind) ∧ w'.cell? ⟨bd, od + i * 5 + 3, none⟩ = some (.int .i64 x.player) ∧ w'.cell? ⟨bd, od + i * 5 + 4, none⟩ = some (.int .i64 x.rank) ∧ bd < w'.heap.size ∧ w.heap.size < w'.heap.size ∧ w.heap.size + 1 + 1 < w'.heap.size)) 7 (by kernel_rfl) ?_ (fun hD0 => ?_)
        · (try dsimp only); first | assumption | exact hSof _ (zbD (zbR _ _))
        refine takeT (v := ?_) 0 rfl (by kernel_rfl) (by kernel_rfl) (by kernel_rfl) (by kernel_rfl) (fun _ _ _ h => h) (Or.inl ⟨by rfl, ?_⟩) (by assumption) ?_; rotate_left
        · (intro w hSw; (try dsimp only at hSw); go_simp; try with_reducible rfl)
        try simp only [Act.put, zl, z0, z1]
        refine takeT (v := ?_) 1 rfl (by kernel_rfl) (by kernel_rfl) (by kernel_rfl) (by kernel_rfl) (fun _ _ _ h => h) (Or.inl ⟨by rfl, ?_⟩) (by assumption) ?_; rotate_left
        · (intro w hSw; (try dsimp only at hSw); go_simp; try with_reducible rfl)
        try simp only [Act.put, zl, z0, z1]
        refine takeT (v := ?_) 2 rfl (by kernel_rfl) (by kernel_rfl) (by kernel_rfl) (by kernel_rfl) (fun _ _ _ h => h) (Or.inl ⟨by rfl, ?_⟩) (by assumption) ?_; rotate_left
        · (intro w hSw; (try dsimp only at hSw); go_simp; try with_reducible rfl)
        try simp only [Act.put, zl, z0, z1]
        refine takeT (v := ?_) 3 rfl (by kernel_rfl) (by kernel_rfl) (by kernel_rfl) (by kernel_rfl) (fun _ _ _ h => h) (Or.inl ⟨by rfl, ?_⟩) (by assumption) ?_; rotate_left
        · (intro w hSw; (try dsimp only at hSw); go_simp; try with_reducible rfl)
        try simp only [Act.put, zl, z0, z1]
        refine takeT (v := ?_) 4 rfl (by kernel_rfl) (by kernel_rfl) (by kernel_rfl) (by kernel_rfl) (fun _ _ _ h => h) (Or.inl ⟨by rfl, ?_⟩) (by assumption) ?_; rotate_left
        · (intro w hSw; (try dsimp only at hSw); go_simp; try with_reducible rfl)
        try simp only [Act.put, zl, z0, z1]
        refine takeT (v := ?_) 5 rfl (by kernel_rfl) (by kernel_rfl) (by kernel_rfl) (by kernel_rfl) (fun _ _ _ h => h) (Or.inl ⟨by rfl, ?_⟩) (by assumption) ?_; rotate_left
        · (intro w hSw; (try dsimp only at hSw); go_simp; try with_reducible rfl)
        try simp only [Act.put, zl, z0, z1]
        refine wpAnyT_ready (rs := [6]) (by kernel_rfl) (by simp) ?_; refine consT 6 rfl (fun K hK => ?_) AllReadyT.nil
        (go_simp; go_at_call 40; refine (one_ref hT f (.agg #[.slice An nn cn, .slice A2 n2 c2, .int .i64 bk, .slice A3 n3 c3]) ((d.take i).foldl (E.rone f) E.Rs.new) x (fun b => w1.heap.size ≤ b) _ (HSW.out.to hD0.1.size (fun b hb _ => hD0.1.block b hb) (fun b _ hk => hk)) HOK.out.1 HOK.out.2.1 HOK.out.2.2.1 HOK.out.2.2.2.1 HOK.out.2.2.2.2.1 HOK.out.2.2.2.2.2.1 HOK.out.2.2.2.2.2.2.1 HOK.out.2.2.2.2.2.2.2.1 HOK.out.2.2.2.2.2.2.2.2 HPL.out).mono ?_; rintro e w9 ⟨v1, rfl, hst, hb9⟩; have hSn := hSof _ (zbT hD0.1 hb9 hD0.1.size); have HB9 := hide (zbT hD0.1 hb9 hD0.1.size); have HZ9 := hide hD0.1.size; obtain ⟨An', nn', cn', A2', n2', c2', A3', n3', c3', rfl, hst2⟩ := hst; have HST := hide hst2; clear hst2 hb9; (try dsimp only at hSn))
        refine hK.out _ _ ?_ (fun hD1 => ?_)
        · (try dsimp only); first | assumption | exact hSof _ (zbD (zbR _ _))
        clear hK K hD0; try simp only [Act.put, zl, z0, z1]
        refine wpAnyT_ready (rs := [7]) (by kernel_rfl) (by simp) ?_
        refine lastT rfl (fun K hK => ?_)
        (try dsimp only at hD1)
        go_simp
        refine hK.out _ _ ?_
        clear hK K
        try simp only [Act.put, zl, z0, z1]
        refine wpAnyT_done (by kernel_rfl) ?_ _
        (try dsimp only [Act.put, List.getElem_toArray, List.getElem_cons_succ, List.getElem_cons_zero])
        (try simp only [zl, z0, z1])
        clear hSn hS hSof d0 d1 d2 d3 d4
        have HA9 := hide ((HB9.out.block _ (blk_lt HAR.out)).trans HAR.out)
        obtain ⟨w10, hw10⟩ : ∃ q, (((w9.setCell ⟨w.heap.size + 1 + 1, 0, none⟩ (.slice An' nn' cn')).setCell ⟨w.heap.size + 1 + 1, 1, none⟩ (.slice A2' n2' c2')).setCell ⟨w.heap.size + 1 + 1, 2, none⟩ (.int .i64 (E.rone f ((d.take i).foldl (E.rone f) E.Rs.new) x).back)).setCell ⟨w.heap.size + 1 + 1, 3, none⟩ (.slice A3' n3' c3') = q := ⟨_, rfl⟩
        have HA10 := hide (show w10.heap[w.heap.size + 1 + 1]? = some (.cells #[.slice An' nn' cn', .slice A2' n2' c2', .int .i64 (E.rone f ((d.take i).foldl (E.rone f) E.Rs.new) x).back, .slice A3' n3' c3'] 53 (0, 0)) by rw [← hw10]; exact blk_set (blk_set (blk_set (blk_set HA9.out 0 _) 1 _) 2 _) 3 _)
        have HG10 := hide (show w9.grownBy w10 (some (w.heap.size + 1 + 1)) by rw [← hw10]; exact gr_trans (gr_trans (gr_trans (gr_set _ _ _ _) (gr_set _ _ _ _)) (gr_set _ _ _ _)) (gr_set _ _ _ _))
        rw [hw10]
        clear hw10
        have HFS := hide (show (d.take (i + 1)).foldl (E.rone f) E.Rs.new = E.rone f ((d.take i).foldl (E.rone f) E.Rs.new) x by rw [List.take_add_one, HX.out, List.foldl_append]; rfl)
        have HS9 := hide (show StW w10 (fun b => w1.heap.size ≤ b) (.agg #[.slice An' nn' cn', .slice A2' n2' c2', .int .i64 (E.rone f ((d.take i).foldl (E.rone f) E.Rs.new) x).back, .slice A3' n3' c3']) ((d.take (i + 1)).foldl (E.rone f) E.Rs.new) by
          rw [HFS.out]
          refine StW.to (w := w9) ⟨An', nn', cn', A2', n2', c2', A3', n3', c3', rfl, HST.out⟩ HG10.out.size (fun b hb hk => ?_) (fun b hb hk => ?_)
          · have h1 : w1.heap.size ≤ b := hk.elim id (fun h => Nat.le_trans HGR.out.size (Nat.le_trans HZ9.out h))
            exact HG10.out.block b hb (fun e => by have h2 := Option.some.inj e; have h3 := blk_lt HA1.out; omega)
          · exact hk.elim id (fun h => Nat.le_trans HGR.out.size (Nat.le_trans HZ9.out h)))
        have HGN := hide (gr_trans (gr_trans HGR.out (gr_wide (gr_of HB9.out))) HG10.out)
        go_wp2_with fail
        go_roundw
        case rel => exact ⟨i + 1, An', nn', cn', A2', n2', c2', _, A3', n3', c3', by omega, by go_num, hide (fun j y hj hy => by
            by_cases e : j = i
            · subst e
              rw [HX.out] at hy
              rw [← Option.some.inj hy]
              exact hx'
            · exact HJ.out j y (by omega) hy), HS9, HA10, HGN⟩
        case measure => simp [intOf]; omega
    · have him : m = i := by omega
      subst him
      have HTW := hide (takeWhile_all HJ.out (.inl (Nat.le_of_eq HL.out)))
      have HTR := hide ((HGR.out.block _ (blk_lt HT1.out) (fun e => by have := Option.some.inj e; omega)).trans HT1.out)
      have HBW := hide (HBW1.out.trans (grown_below HGR.out HBW1.out.size (fun g hg => by cases hg; omega)))
      have ys0 : wr.cell? ⟨w.heap.size + 1 + 1, 0, none⟩ = some (.slice An nn cn) := (blk_cell HAR.out 0).trans rfl
      have ys1 : wr.cell? ⟨w.heap.size + 1 + 1, 1, none⟩ = some (.slice A2 n2 c2) := (blk_cell HAR.out 1).trans rfl
      have ys2 : wr.cell? ⟨w.heap.size + 1 + 1, 2, none⟩ = some (.int .i64 bk) := (blk_cell HAR.out 2).trans rfl
      have ys3 : wr.cell? ⟨w.heap.size + 1 + 1, 3, none⟩ = some (.slice A3 n3 c3) := (blk_cell HAR.out 3).trans rfl
      have lys := blk_lt HAR.out
      have yt0 : wr.cell? ⟨w.heap.size + 1, 0, none⟩ = some (.slice none 0 0) := (blk_cell HTR.out 0).trans rfl
      have yt1 : wr.cell? ⟨w.heap.size + 1, 1, none⟩ = some (.slice none 0 0) := (blk_cell HTR.out 1).trans rfl
      have yt2 : wr.cell? ⟨w.heap.size + 1, 2, none⟩ = some (.int .i64 0) := (blk_cell HTR.out 2).trans rfl
      have yt3 : wr.cell? ⟨w.heap.size + 1, 3, none⟩ = some (.slice none 0 0) := (blk_cell HTR.out 3).trans rfl
      have lyt := blk_lt HTR.out
      have fz0 := blk_frozen HTR.out 0
      have fz1 := blk_frozen HTR.out 1
      have fz2 := blk_frozen HTR.out 2
      have fz3 := blk_frozen HTR.out 3
      go_wp2_with fail
      obtain ⟨w8, hw8⟩ : ∃ q, (((wr.setCell ⟨w.heap.size + 1, 0, none⟩ (.slice An nn cn)).setCell ⟨w.heap.size + 1, 1, none⟩ (.slice A2 n2 c2)).setCell ⟨w.heap.size + 1, 2, none⟩ (.int .i64 bk)).setCell ⟨w.heap.size + 1, 3, none⟩ (.slice A3 n3 c3) = q := ⟨_, rfl⟩
      have HT8 := hide (show w8.heap[w.heap.size + 1]? = some (.cells #[.slice An nn cn, .slice A2 n2 c2, .int .i64 bk, .slice A3 n3 c3] 53 (0, 0)) by rw [← hw8]; exact blk_set (blk_set (blk_set (blk_set HTR.out 0 _) 1 _) 2 _) 3 _)
      have HG8 := hide (show wr.grownBy w8 (some (w.heap.size + 1)) by rw [← hw8]; exact gr_trans (gr_trans (gr_trans (gr_set _ _ _ _) (gr_set _ _ _ _)) (gr_set _ _ _ _)) (gr_set _ _ _ _))
      rw [hw8]
      clear hw8
      have HB8 := hide (HBW.out.trans (grown_below HG8.out HBW.out.size (fun g hg => by cases hg; omega)))
      have HS8 := hide (show StW w8 (fun b => w.heap.size ≤ b) (.agg #[.slice An nn cn, .slice A2 n2 c2, .int .i64 bk, .slice A3 n3 c3]) (aftF f d h) by
        unfold aftF
        rw [HTW.out]
        exact HSW.out.to HG8.out.size (fun b hb hk => HG8.out.block b hb (fun e => by have h2 := Option.some.inj e; have h3 := blk_lt HT1.out; omega)) (fun b hb hk => Nat.le_trans HBW1.out.size hk))
      have r0 : w8.cell? ⟨w.heap.size + 1, 0, none⟩ = some (.slice An nn cn) := (blk_cell HT8.out 0).trans rfl
      have r1 : w8.cell? ⟨w.heap.size + 1, 1, none⟩ = some (.slice A2 n2 c2) := (blk_cell HT8.out 1).trans rfl
      have r2 : w8.cell? ⟨w.heap.size + 1, 2, none⟩ = some (.int .i64 bk) := (blk_cell HT8.out 2).trans rfl
      have r3 : w8.cell? ⟨w.heap.size + 1, 3, none⟩ = some (.slice A3 n3 c3) := (blk_cell HT8.out 3).trans rfl
      have lr := blk_lt HT8.out
      exact bodyPost_ret (v := .agg #[.slice An nn cn, .slice A2 n2 c2, .int .i64 bk, .slice A3 n3 c3]) (by simp [results, Tryz.results19, go_sem, r0, r1, r2, r3]) rfl ⟨_, rfl, HS8.out, HB8.out⟩
end Go.Proofs.YtobjahlmjcnfoaaGreat

namespace Go.Proofs.YtobjahlmjcnfoaaGreat
open Go.RowKit Go.Sort
attribute [local go_sem ↓] Go.wp_at_zero Go.wp_at_succ

set_option maxHeartbeats 6400000 in
set_option maxRecDepth 100000 in
theorem Quit_ref (hT : TakeP) (f : E.Fd) (x : Sv) (s : E.Rs) (h k : Int) (ok : Nat → Prop) (w : World) (hx : x.is w ok s) (ho : OneOk f s (E.quitN h k)) (hp : 0 ≤ f.places ∧ f.places ≤ 1000) :
    Calls Tryz.prog 27 #[.agg #[.int .i64 f.places, .int .i64 f.wilds, .int .i64 f.guards, .int .i64 f.close, .int .i64 f.freeze], .agg #[.slice x.A1 x.n1 x.c1, .slice x.A2 x.n2 x.c2, .int .i64 x.bk, .slice x.A3 x.n3 x.c3], .int .i64 h, .int .i64 k] w fun e w' => ∃ v : Sv, e = .returned (.agg #[.slice v.A1 v.n1 v.c1, .slice v.A2 v.n2 v.c2, .int .i64 v.bk, .slice v.A3 v.n3 v.c3]) ∧ v.is w' (fun b => ok b ∨ w.heap.size ≤ b) (E.stepR f h s k) ∧ Below w.heap.size w w' := by
  have HX := hide (show x.is w (fun b => ok b ∧ b < w.heap.size) s from hx.to (Nat.le_refl _) (fun _ _ _ => rfl) (fun b hb hk => ⟨hk, hb⟩))
  have HO := hide ho
  have HP := hide hp
  clear hx ho hp
  go_enter Tryz.func27, Tryz.ntmps27
  go_upto_region 1 with fail
  obtain ⟨w0, hw0⟩ : ∃ q, ((w.alloc (.cells #[.int .i64 f.places, .int .i64 f.wilds, .int .i64 f.guards, .int .i64 f.close, .int .i64 f.freeze] 23)).alloc (.cells #[.slice x.A1 x.n1 x.c1, .slice x.A2 x.n2 x.c2, .int .i64 x.bk, .slice x.A3 x.n3 x.c3] 53)).alloc (.cells #[.slice none 0 0, .slice none 0 0, .int .i64 0, .slice none 0 0] 53) = q := ⟨_, rfl⟩
  have HB0 := hide (show Below w.heap.size w w0 by rw [← hw0]; (repeat' first | exact zbR _ _ | assumption | refine zbD ?_ | refine zbA ?_ ?_ _ | refine zbS ?_ ?_ _ | refine zbT ?_ (by assumption) ?_ | (simp; done) | (simp; omega) | omega))
  have HF0 := hide (show w0.heap[w.heap.size]? = some (.cells #[.int .i64 f.places, .int .i64 f.wilds, .int .i64 f.guards, .int .i64 f.close, .int .i64 f.freeze] 23 (0, 0)) by rw [← hw0]; exact (Below.heap_alloc _ _ _ (by first | (simp; done) | (simp; omega) | omega)).trans ((Below.heap_alloc _ _ _ (by first | (simp; done) | (simp; omega) | omega)).trans (World.alloc_heap_new _ _)))
  have HA0 := hide (show w0.heap[w.heap.size + 1]? = some (.cells #[.slice x.A1 x.n1 x.c1, .slice x.A2 x.n2 x.c2, .int .i64 x.bk, .slice x.A3 x.n3 x.c3] 53 (0, 0)) by rw [← hw0]; exact (Below.heap_alloc _ _ _ (by first | (simp; done) | (simp; omega) | omega)).trans ((congrArg _ (by simp)).trans (World.alloc_heap_new _ _)))
  have HT0 := hide (show w0.heap[w.heap.size + 1 + 1]? = some (.cells #[.slice none 0 0, .slice none 0 0, .int .i64 0, .slice none 0 0] 53 (0, 0)) by rw [← hw0]; exact (congrArg _ (by simp)).trans (World.alloc_heap_new _ _))
  rw [hw0]
  clear hw0
  have HX0 := hide (show x.is w0 (fun b => ok b ∧ b < w.heap.size) s from HX.out.to HB0.out.size (fun b hb _ => HB0.out.block b hb) (fun b hb hk => hk))
  have yf0 : w0.cell? ⟨w.heap.size, 0, none⟩ = some (.int .i64 f.places) := (blk_cell HF0.out 0).trans rfl
  have yf1 : w0.cell? ⟨w.heap.size, 1, none⟩ = some (.int .i64 f.wilds) := (blk_cell HF0.out 1).trans rfl
  have yf2 : w0.cell? ⟨w.heap.size, 2, none⟩ = some (.int .i64 f.guards) := (blk_cell HF0.out 2).trans rfl
  have yf3 : w0.cell? ⟨w.heap.size, 3, none⟩ = some (.int .i64 f.close) := (blk_cell HF0.out 3).trans rfl
  have yf4 : w0.cell? ⟨w.heap.size, 4, none⟩ = some (.int .i64 f.freeze) := (blk_cell HF0.out 4).trans rfl
  have lyf := blk_lt HF0.out
  have ya0 : w0.cell? ⟨w.heap.size + 1, 0, none⟩ = some (.slice x.A1 x.n1 x.c1) := (blk_cell HA0.out 0).trans rfl
  have ya1 : w0.cell? ⟨w.heap.size + 1, 1, none⟩ = some (.slice x.A2 x.n2 x.c2) := (blk_cell HA0.out 1).trans rfl
  have ya2 : w0.cell? ⟨w.heap.size + 1, 2, none⟩ = some (.int .i64 x.bk) := (blk_cell HA0.out 2).trans rfl
  have ya3 : w0.cell? ⟨w.heap.size + 1, 3, none⟩ = some (.slice x.A3 x.n3 x.c3) := (blk_cell HA0.out 3).trans rfl
  have lya := blk_lt HA0.out
  have lyt := blk_lt HT0.out
  go_wp2_with (go_at_call 40; refine (one_ref hT f _ s (E.quitN h k) (fun b => ok b ∧ b < w.heap.size) w0 HX0.out.st HO.out.1 HO.out.2.1 HO.out.2.2.1 HO.out.2.2.2.1 HO.out.2.2.2.2.1 HO.out.2.2.2.2.2.1 HO.out.2.2.2.2.2.2.1 HO.out.2.2.2.2.2.2.2.1 HO.out.2.2.2.2.2.2.2.2 HP.out).mono ?_; rintro e w1 ⟨v1, rfl, hst, hb1⟩; obtain ⟨v, rfl, hv⟩ := st_is hst; have HV := hide hv; have HB1 := hide hb1; clear hst hv hb1; have HT1 := hide ((HB1.out.block _ (blk_lt HT0.out)).trans HT0.out); have z0 : w1.cell? ⟨w.heap.size + 1 + 1, 0, none⟩ = some (.slice none 0 0) := (blk_cell HT1.out 0).trans rfl; have z1 : w1.cell? ⟨w.heap.size + 1 + 1, 1, none⟩ = some (.slice none 0 0) := (blk_cell HT1.out 1).trans rfl; have z2 : w1.cell? ⟨w.heap.size + 1 + 1, 2, none⟩ = some (.int .i64 0) := (blk_cell HT1.out 2).trans rfl; have z3 : w1.cell? ⟨w.heap.size + 1 + 1, 3, none⟩ = some (.slice none 0 0) := (blk_cell HT1.out 3).trans rfl; have lz := blk_lt HT1.out; have fc0 := blk_frozen HT1.out 0; have fc1 := blk_frozen HT1.out 1; have fc2 := blk_frozen HT1.out 2; have fc3 := blk_frozen HT1.out 3)
  obtain ⟨w2, hw2⟩ : ∃ q, (((w1.setCell ⟨w.heap.size + 1 + 1, 0, none⟩ (.slice v.A1 v.n1 v.c1)).setCell ⟨w.heap.size + 1 + 1, 1, none⟩ (.slice v.A2 v.n2 v.c2)).setCell ⟨w.heap.size + 1 + 1, 2, none⟩ (.int .i64 v.bk)).setCell ⟨w.heap.size + 1 + 1, 3, none⟩ (.slice v.A3 v.n3 v.c3) = q := ⟨_, rfl⟩
  have HT2 := hide (show w2.heap[w.heap.size + 1 + 1]? = some (.cells #[.slice v.A1 v.n1 v.c1, .slice v.A2 v.n2 v.c2, .int .i64 v.bk, .slice v.A3 v.n3 v.c3] 53 (0, 0)) by rw [← hw2]; exact blk_set (blk_set (blk_set (blk_set HT1.out 0 _) 1 _) 2 _) 3 _)
  have HG2 := hide (show w1.grownBy w2 (some (w.heap.size + 1 + 1)) by rw [← hw2]; exact gr_trans (gr_trans (gr_trans (gr_set _ _ _ _) (gr_set _ _ _ _)) (gr_set _ _ _ _)) (gr_set _ _ _ _))
  rw [hw2]
  clear hw2
  have HBW1 := hide (zbT HB0.out HB1.out HB0.out.size)
  have HB2 := hide (HBW1.out.trans (grown_below HG2.out HBW1.out.size (fun g hg => by cases hg; omega)))
  have HVF := hide (show v.is w2 (fun b => ok b ∨ w.heap.size ≤ b) (E.stepR f h s k) from HV.out.to HG2.out.size (fun b hb hk => HG2.out.block b hb (fun e => by have h1 := Option.some.inj e; have h2 := blk_lt HT0.out; rcases hk with h3 | h3 <;> omega)) (fun b hb hk => by rcases hk with h3 | h3; exact .inl h3.1; exact .inr (Nat.le_trans HB0.out.size h3)))
  have r0 : w2.cell? ⟨w.heap.size + 1 + 1, 0, none⟩ = some (.slice v.A1 v.n1 v.c1) := (blk_cell HT2.out 0).trans rfl
  have r1 : w2.cell? ⟨w.heap.size + 1 + 1, 1, none⟩ = some (.slice v.A2 v.n2 v.c2) := (blk_cell HT2.out 1).trans rfl
  have r2 : w2.cell? ⟨w.heap.size + 1 + 1, 2, none⟩ = some (.int .i64 v.bk) := (blk_cell HT2.out 2).trans rfl
  have r3 : w2.cell? ⟨w.heap.size + 1 + 1, 3, none⟩ = some (.slice v.A3 v.n3 v.c3) := (blk_cell HT2.out 3).trans rfl
  have lr := blk_lt HT2.out
  exact bodyPost_ret (v := .agg #[.slice v.A1 v.n1 v.c1, .slice v.A2 v.n2 v.c2, .int .i64 v.bk, .slice v.A3 v.n3 v.c3]) (by simp [results, Tryz.results27, go_sem, r0, r1, r2, r3]) rfl ⟨v, rfl, HVF.out, HB2.out⟩

theorem addS_yes {ss : List E.Rs} {s t : E.Rs} (h : t ∈ ss) (e : t.ins = s.ins) : E.addS E.Rs.ins ss s = ss := by
  unfold E.addS
  rw [if_pos (List.any_eq_true.2 ⟨t, h, by simp [e]⟩)]
theorem addS_no {ss : List E.Rs} {s : E.Rs} (h : ∀ j t, j < ss.length → ss[j]? = some t → t.ins ≠ s.ins) : E.addS E.Rs.ins ss s = ss ++ [s] := by
  unfold E.addS
  rw [if_neg (fun c => by
    obtain ⟨t, h1, h2⟩ := List.any_eq_true.1 c
    obtain ⟨j, hj⟩ := List.mem_iff_getElem?.1 h1
    exact h j t (List.getElem?_eq_some_iff.1 hj).1 hj (by simpa using h2))]
def AddPost (base : Nat) (A : Option Addr) (m c : Nat) (ss : List E.Rs) (s : E.Rs) (w : World) (e : Ending) (w' : World) : Prop := ∃ (A' : Option Addr) (m' c' : Nat) (vs' : List Sv), e = .returned (.slice A' m' c') ∧ vs'.length = m' ∧ w'.ownsRow base 53 4 (.slice A' m' c') m' (flatV vs') ∧ Hold w' (Value.slice A' m' c').ownBlock vs' (E.addS E.Rs.ins ss s) ∧ w.grownBy w' (Value.slice A m c).ownBlock ∧ (∀ g, (Value.slice A' m' c').ownBlock = some g → (Value.slice A m c).ownBlock = some g ∨ w.heap.size ≤ g)
set_option maxHeartbeats 6400000 in
set_option maxRecDepth 100000 in
theorem added_ref (base : Nat) (A : Option Addr) (m c : Nat) (vs : List Sv) (ss : List E.Rs) (x : Sv) (s : E.Rs) (w : World) (hown : w.ownsRow base 53 4 (.slice A m c) m (flatV vs)) (hlen : vs.length = m) (hs : Hold w (Value.slice A m c).ownBlock vs ss) (hx : x.is w (fun b => some b ≠ (Value.slice A m c).ownBlock) s) (hm : m ≤ 2000000) (hin : ∀ t ∈ ss, t.ins.length ≤ 1000000) (hsi : s.ins.length ≤ 1000000) (hbase : base ≤ w.heap.size) :
    Calls Tryz.prog 26 #[.slice A m c, .agg #[.slice x.A1 x.n1 x.c1, .slice x.A2 x.n2 x.c2, .int .i64 x.bk, .slice x.A3 x.n3 x.c3]] w (AddPost base A m c ss s w) := by
  have HO := hide hown
  have HL := hide hlen
  have HS := hide hs
  have HX := hide hx
  have HIN := hide hin
  have HSI := hide hsi
  have HBA := hide hbase
  clear hown hlen hs hx hin hsi hbase
  go_enter Tryz.func26, Tryz.ntmps26
  go_upto_region 1 with fail
  obtain ⟨w0, hw0⟩ : ∃ q, w.alloc (.cells #[.slice x.A1 x.n1 x.c1, .slice x.A2 x.n2 x.c2, .int .i64 x.bk, .slice x.A3 x.n3 x.c3] 53) = q := ⟨_, rfl⟩
  have HB0 := hide (show Below w.heap.size w w0 by rw [← hw0]; (repeat' first | exact zbR _ _ | assumption | refine zbD ?_ | refine zbA ?_ ?_ _ | refine zbS ?_ ?_ _ | refine zbT ?_ (by assumption) ?_ | (simp; done) | (simp; omega) | omega))
  have HA0 := hide (show w0.heap[w.heap.size]? = some (.cells #[.slice x.A1 x.n1 x.c1, .slice x.A2 x.n2 x.c2, .int .i64 x.bk, .slice x.A3 x.n3 x.c3] 53 (0, 0)) by rw [← hw0]; exact World.alloc_heap_new _ _)
  rw [hw0]
  clear hw0
  go_wp2_with fail
  go_loopw [5] (fun i wr => ∃ k : Nat, k ≤ m ∧ i = .int .i64 k ∧ Hid (∀ j t, j < k → ss[j]? = some t → t.ins ≠ s.ins) ∧ Hid (Below w0.heap.size w0 wr)) (fun i _ => m - (intOf i).toNat)
  case atStart => exact ⟨0, by omega, rfl, hide (fun j t hj => by omega), hide (Below.refl _ _)⟩
  case round =>
    obtain ⟨k, hk, rfl, HZ, HBR⟩ := hrel
    have hk0 : (0 : Int) ≤ (k : Int) := by omega
    have HBW := hide (zbT HB0.out HBR.out HB0.out.size)
    have HGW := hide (show w.grownBy wr (Value.slice A m c).ownBlock from gr_wide (gr_of HBW.out))
    have HOR := hide (HO.out.kept (gr_of HBW.out) (Classical.em _))
    have HAR := hide ((HBR.out.block _ (blk_lt HA0.out)).trans HA0.out)
    have HXR := hide (show x.is wr (fun b => some b ≠ (Value.slice A m c).ownBlock) s from HX.out.to HBW.out.size (fun b hb _ => HBW.out.block b hb) (fun b hb hk => hk))
    by_cases hlt : k < m
    · obtain ⟨v, hv⟩ : ∃ q, vs[k]? = some q := ⟨_, List.getElem?_eq_getElem (by have := HL.out; omega)⟩
      obtain ⟨t, ht⟩ : ∃ q, ss[k]? = some q := ⟨_, List.getElem?_eq_getElem (by have := HL.out; have := HS.out.1; omega)⟩
      have HT := hide ht
      have hvt := HS.out.2 k v t hv ht
      have HVT := hide (show v.is wr (fun b => some b ≠ (Value.slice A m c).ownBlock) t from hvt.to HBW.out.size (fun b hb _ => HBW.out.block b hb) (fun b hb hk => hk))
      have HTL := hide (HIN.out t (List.mem_of_getElem? ht))
      have HRV := hide (owns_RdV HOR.out HL.out)
      have hrv := HRV.out k v hv
      obtain ⟨b, o, hA, hbB, d0, d1, d2, d3⟩ := hrv
      subst hA
      clear hvt ht hv
      have hlt' : (k : Int) < (m : Int) := by omega
      have hSof : ∀ w', Below wr.heap.size wr w' → Below wr.heap.size wr w' ∧ w'.cell? ⟨b, o + k * 4 + 3, none⟩ = some (.slice v.A3 v.n3 v.c3) ∧ w'.cell? ⟨w.heap.size, 3, none⟩ = some (.slice x.A3 x.n3 x.c3) ∧ b < w'.heap.size ∧ w.heap.size < w'.heap.size := fun w' hb => by
        have hF := (hb.block _ (blk_lt HAR.out)).trans HAR.out
        exact ⟨hb, (hb.cell (p := ⟨b, _, none⟩) hbB).trans d3, (blk_cell hF 3).trans rfl, Nat.lt_of_lt_of_le hbB hb.size, blk_lt hF⟩
      have hS : (fun w' => Below wr.heap.size wr w' ∧ w'.cell? ⟨b, o + k * 4 + 3, none⟩ = some (.slice v.A3 v.n3 v.c3) ∧ w'.cell? ⟨w.heap.size, 3, none⟩ = some (.slice x.A3 x.n3 x.c3) ∧ b < w'.heap.size ∧ w.heap.size < w'.heap.size) wr := hSof _ (zbR _ _)
      (try dsimp only at hS)
      have HVC := fun w' (hb : Below wr.heap.size wr w') => hide (show x.is w' (fun b' => some b' ≠ (Value.slice (some ⟨b, o, none⟩) m c).ownBlock) s ∧ v.is w' (fun b' => some b' ≠ (Value.slice (some ⟨b, o, none⟩) m c).ownBlock) t from ⟨HXR.out.to hb.size (fun b hb2 _ => hb.block b hb2) (fun b hb hk => hk), HVT.out.to hb.size (fun b hb2 _ => hb.block b hb2) (fun b hb hk => hk)⟩)
      obtain ⟨bq, hbq⟩ : ∃ q, (t.ins == s.ins) = q := ⟨_, rfl⟩
      have HBQ := hide hbq
      clear hbq
      go_upto_region 4 with fail
      refine wp_region_held_drew (S := (fun w' => Below wr.heap.size wr w' ∧ w'.cell? ⟨b, o + k * 4 + 3, none⟩ = some (.slice v.A3 v.n3 v.c3) ∧ w'.cell? ⟨w.heap.size, 3, none⟩ = some (.slice x.A3 x.n3 x.c3) ∧ b < w'.heap.size ∧ w.heap.size < w'.heap.size)) (by kernel_rfl) ?_ (fun hD0 => ?_)
      · (try dsimp only); first | assumption | exact hSof _ (zbD (zbR _ _))
      refine tW ?_ 0 rfl (by kernel_rfl) (fun _ _ _ h => h) (by rfl) (by assumption) ?_ ?_; rotate_left; (focus (intro w hSw; (try dsimp only at hSw); go_simp; try with_reducible rfl)); try simp only [Act.put, zl, z0, z1]
      refine tW ?_ 1 rfl (by kernel_rfl) (fun _ _ _ h => h) (by rfl) (by assumption) ?_ ?_; rotate_left; (focus (intro w hSw; (try dsimp only at hSw); go_simp; try with_reducible rfl)); try simp only [Act.put, zl, z0, z1]
      refine tW ?_ 2 rfl (by kernel_rfl) (fun _ _ _ h => h) (by rfl) (by assumption) ?_ ?_; rotate_left; (focus (intro w hSw; (try dsimp only at hSw); go_simp; try with_reducible rfl)); try simp only [Act.put, zl, z0, z1]
      refine tW ?_ 3 rfl (by kernel_rfl) (fun _ _ _ h => h) (by rfl) (by assumption) ?_ ?_; rotate_left; (focus (intro w hSw; (try dsimp only at hSw); go_simp; try with_reducible rfl)); try simp only [Act.put, zl, z0, z1]
      refine tW ?_ 4 rfl (by kernel_rfl) (fun _ _ _ h => h) (by rfl) (by assumption) ?_ ?_; rotate_left; (focus (intro w hSw; (try dsimp only at hSw); go_simp; try with_reducible rfl)); try simp only [Act.put, zl, z0, z1]
      refine tW ?_ 5 rfl (by kernel_rfl) (fun _ _ _ h => h) (by rfl) (by assumption) ?_ ?_; rotate_left; (focus (intro w hSw; (try dsimp only at hSw); go_simp; try with_reducible rfl)); try simp only [Act.put, zl, z0, z1]
      refine tW ?_ 6 rfl (by kernel_rfl) (fun _ _ _ h => h) (by rfl) (by assumption) ?_ ?_; rotate_left; (focus (intro w hSw; (try dsimp only at hSw); go_simp; try with_reducible rfl)); try simp only [Act.put, zl, z0, z1]
      refine wpAnyH_ready (rs := [7]) (by kernel_rfl) (by simp) ?_; refine consL 7 rfl (fun K hK => ?_) AllReadyH.nil
      (go_simp; go_at_call 44; refine (sameInts_ref v.A3 v.n3 v.c3 t.ins x.A3 x.n3 x.c3 s.ins _ (HVC _ hD0.1).out.2.2.2.2.2.1 ((HVC _ hD0.1).out.2.2.2.2.2.2.2 _ (Nat.le_refl _) (fun _ _ _ => rfl)).2.2 (by have h1 := HVT.out.2.2.2.2.1; have h2 := HTL.out; omega) (HVC _ hD0.1).out.1.2.2.2.2.1 ((HVC _ hD0.1).out.1.2.2.2.2.2.2 _ (Nat.le_refl _) (fun _ _ _ => rfl)).2.2 (by have h1 := HXR.out.2.2.2.2.1; have h2 := HSI.out; omega)).mono ?_; rintro e w' ⟨rfl, hb⟩; rw [HBQ.out]; have hSn := hSof _ (zbT hD0.1 hb hD0.1.size); clear hb; (try dsimp only at hSn))
      refine hK.out _ _ ?_ (fun hD1 => ?_)
      · (try dsimp only); first | assumption | exact hSof _ (zbD (zbR _ _))
      clear hK K hD0; try simp only [Act.put, zl, z0, z1]
      refine wpAnyH_done (by kernel_rfl) ?_ _
      (try dsimp only [Act.put, List.getElem_toArray, List.getElem_cons_succ, List.getElem_cons_zero])
      (try simp only [zl, z0, z1])
      have HB9 := hide hSn.1
      clear hSn hS hSof HVC d0 d1 d2 d3
      cases bq
      · have HNE := hide (show t.ins ≠ s.ins from beq_eq_false_iff_ne.1 HBQ.out)
        go_wp2_with fail
        go_roundw
        case rel => exact ⟨k + 1, by omega, by go_num, hide (fun j t' hj ht' => by
            by_cases e : j = k
            · subst e
              rw [HT.out] at ht'
              rw [← Option.some.inj ht']
              exact HNE.out
            · exact HZ.out j t' (by omega) ht'), hide (zbT HBR.out HB9.out HBR.out.size)⟩
        case measure => simp [intOf]; omega
      · have HEQ := hide (show t.ins = s.ins from beq_iff_eq.1 HBQ.out)
        have HB10 := hide (zbT HBW.out HB9.out HBW.out.size)
        go_wp2_with fail
        go_ret
        rw [show AddPost base (some ⟨b, o, none⟩) m c ss s w = AddPost base (some ⟨b, o, none⟩) m c ss s w from rfl]
        refine ⟨_, m, c, vs, rfl, HL.out, HO.out.kept (gr_of HB10.out) (Classical.em _), ?_, gr_wide (gr_of HB10.out), fun g hg => .inl hg⟩
        rw [addS_yes (List.mem_of_getElem? HT.out) HEQ.out]
        exact HS.out.to (gr_wide (gr_of HB10.out)) (.inl rfl)
    · have hkn : k = m := by omega
      subst hkn
      have yx0 : wr.cell? ⟨w.heap.size, 0, none⟩ = some (.slice x.A1 x.n1 x.c1) := (blk_cell HAR.out 0).trans rfl
      have yx1 : wr.cell? ⟨w.heap.size, 1, none⟩ = some (.slice x.A2 x.n2 x.c2) := (blk_cell HAR.out 1).trans rfl
      have yx2 : wr.cell? ⟨w.heap.size, 2, none⟩ = some (.int .i64 x.bk) := (blk_cell HAR.out 2).trans rfl
      have yx3 : wr.cell? ⟨w.heap.size, 3, none⟩ = some (.slice x.A3 x.n3 x.c3) := (blk_cell HAR.out 3).trans rfl
      have lxr := blk_lt HAR.out
      go_wp2_with (at_builtin; refine wpList_app_V rfl (.tmp 21) (.tmp 23) rfl base (.slice A k c) vs k rfl (HOR.out.alloc _) HL.out _ x rfl (World.alloc_heap_new _ _) hm (by have := HBA.out; have := HBW.out.size; simp; omega) ?_; intro A3 c3 w9 hown2 hgrow hloc; have HO2 := hide hown2; have HG9 := hide hgrow; have HLC := hide hloc; clear hown2 hgrow hloc)
      have HGA := hide (show wr.grownBy (wr.alloc (.cells #[.slice x.A1 x.n1 x.c1, .slice x.A2 x.n2 x.c2, .int .i64 x.bk, .slice x.A3 x.n3 x.c3] 53)) (Value.slice A k c).ownBlock from World.grownBy_alloc _ _ _)
      have HGF := hide (gr_trans HGW.out (gr_trans HGA.out HG9.out))
      have HLF := hide (show ∀ g, (Value.slice A3 (k + 1) c3).ownBlock = some g → (Value.slice A k c).ownBlock = some g ∨ w.heap.size ≤ g from fun g hg => (HLC.out g hg).imp id (fun h => by have := HBW.out.size; simp at h; omega))
      go_ret
      refine ⟨A3, k + 1, c3, vs ++ [x], rfl, by rw [List.length_append, HL.out]; rfl, HO2.out, ?_, HGF.out, HLF.out⟩
      rw [addS_no (fun j t hj ht => HZ.out j t (by have h1 := HS.out.1; have h2 := HL.out; omega) ht)]
      exact (HS.out.app HX.out).to HGF.out (.inr HLF.out)
end Go.Proofs.YtobjahlmjcnfoaaGreat

namespace Go.Proofs.YtobjahlmjcnfoaaGreat
open Go.RowKit Go.Sort
attribute [local go_sem ↓] Go.wp_at_zero Go.wp_at_succ

def whereL (m c o : List Int) (k : Int) : Int × Int :=
  if 0 ≤ E.idx m k then (1, E.idx m k + 1) else if 0 ≤ E.idx c k then (2, E.idx c k + 1) else if 0 ≤ E.idx o k then (3, E.idx o k + 1) else (0, 0)
theorem idx_ge (l : List Int) (k : Int) : -1 ≤ E.idx l k := by
  unfold E.idx
  split <;> omega
set_option maxHeartbeats 6400000 in
theorem stand_ref (A1 : Option Addr) (n1 c1 : Nat) (m : List Int) (A2 : Option Addr) (n2 c2 : Nat) (c : List Int) (A3 : Option Addr) (n3 c3 : Nat) (o : List Int) (pl k : Int) (w : World) (h1 : m.length = n1) (r1 : RdI w w.heap.size A1 m) (m1 : n1 ≤ 900) (h2 : c.length = n2) (r2 : RdI w w.heap.size A2 c) (m2 : n2 ≤ 900) (h3 : o.length = n3) (r3 : RdI w w.heap.size A3 o) (m3 : n3 ≤ 900) :
    Calls Tryz.prog 23 #[.agg #[.slice A1 n1 c1, .slice A2 n2 c2, .slice A3 n3 c3, .int .i64 pl], .int .i64 k] w fun e w' => e = .returned (.tuple #[.int .i64 (whereL m c o k).1, .int .i64 (whereL m c o k).2]) ∧ Below w.heap.size w w' := by
  have H1 := hide h1
  have R1 := hide r1
  have H2 := hide h2
  have R2 := hide r2
  have H3 := hide h3
  have R3 := hide r3
  clear h1 r1 h2 r2 h3 r3
  obtain ⟨i1, hi1⟩ : ∃ q, E.idx m k = q := ⟨_, rfl⟩
  obtain ⟨i2, hi2⟩ : ∃ q, E.idx c k = q := ⟨_, rfl⟩
  obtain ⟨i3, hi3⟩ : ∃ q, E.idx o k = q := ⟨_, rfl⟩
  unfold whereL
  rw [hi1, hi2, hi3]
  obtain ⟨rr, hrr⟩ : ∃ q, (if 0 ≤ i1 then ((1 : Int), i1 + 1) else if 0 ≤ i2 then (2, i2 + 1) else if 0 ≤ i3 then (3, i3 + 1) else (0, 0)) = q := ⟨_, rfl⟩
  rw [hrr]
  have HRR := hide hrr
  clear hrr
  have g1 := idx_ge m k
  have g2 := idx_ge c k
  have g3 := idx_ge o k
  rw [hi1] at g1
  rw [hi2] at g2
  rw [hi3] at g3
  have I1 := hide hi1
  have I2 := hide hi2
  have I3 := hide hi3
  clear hi1 hi2 hi3
  go_enter Tryz.func23, Tryz.ntmps23
  go_upto_region 1 with fail
  obtain ⟨w0, hw0⟩ : ∃ q, w.alloc (.cells #[.slice A1 n1 c1, .slice A2 n2 c2, .slice A3 n3 c3, .int .i64 pl] 38) = q := ⟨_, rfl⟩
  have HB0 := hide (show Below w.heap.size w w0 by rw [← hw0]; (repeat' first | exact zbR _ _ | assumption | refine zbD ?_ | refine zbA ?_ ?_ _ | refine zbS ?_ ?_ _ | refine zbT ?_ (by assumption) ?_ | (simp; done) | (simp; omega) | omega))
  have HE0 := hide (show w0.heap[w.heap.size]? = some (.cells #[.slice A1 n1 c1, .slice A2 n2 c2, .slice A3 n3 c3, .int .i64 pl] 38 (0, 0)) by rw [← hw0]; exact World.alloc_heap_new _ _)
  rw [hw0]
  clear hw0
  have x0 : w0.cell? ⟨w.heap.size, 0, none⟩ = some (.slice A1 n1 c1) := (blk_cell HE0.out 0).trans rfl
  have x1 : w0.cell? ⟨w.heap.size, 1, none⟩ = some (.slice A2 n2 c2) := (blk_cell HE0.out 1).trans rfl
  have x2 : w0.cell? ⟨w.heap.size, 2, none⟩ = some (.slice A3 n3 c3) := (blk_cell HE0.out 2).trans rfl
  have lx := blk_lt HE0.out
  by_cases q1 : 0 ≤ i1
  · have e1 : 0 < i1 + 1 := by omega
    skip
    go_wp2_with (go_at_call 43; with_reducible refine (place_any A1 n1 c1 m k _ H1.out ((R1.out.below HB0.out).mono HB0.out.size) (by omega)).mono ?_; rintro e w' ⟨rfl, rfl⟩; rw [I1.out])
    exact bodyPost_ret (v := .tuple #[.int .i64 1, .int .i64 (i1 + 1)]) (by simp [results, Tryz.results23, go_sem]) rfl ⟨by rw [← HRR.out, if_pos q1], HB0.out⟩
  · have e1 : i1 = -1 := by omega
    skip
    subst e1
    by_cases q2 : 0 ≤ i2
    · have e2 : 0 < i2 + 1 := by omega
      skip
      go_wp2_with (first | (go_at_call 43; with_reducible refine (place_any A1 n1 c1 m k _ H1.out ((R1.out.below HB0.out).mono HB0.out.size) (by omega)).mono ?_; rintro e w' ⟨rfl, rfl⟩; rw [I1.out]) | (go_at_call 43; with_reducible refine (place_any A2 n2 c2 c k _ H2.out ((R2.out.below HB0.out).mono HB0.out.size) (by omega)).mono ?_; rintro e w' ⟨rfl, rfl⟩; rw [I2.out]))
      exact bodyPost_ret (v := .tuple #[.int .i64 2, .int .i64 (i2 + 1)]) (by simp [results, Tryz.results23, go_sem]) rfl ⟨by rw [← HRR.out, if_neg (by omega), if_pos q2], HB0.out⟩
    · have e2 : i2 = -1 := by omega
      skip
      subst e2
      by_cases q3 : 0 ≤ i3
      · have e3 : 0 < i3 + 1 := by omega
        skip
        go_wp2_with (first | (go_at_call 43; with_reducible refine (place_any A1 n1 c1 m k _ H1.out ((R1.out.below HB0.out).mono HB0.out.size) (by omega)).mono ?_; rintro e w' ⟨rfl, rfl⟩; rw [I1.out]) | (go_at_call 43; with_reducible refine (place_any A2 n2 c2 c k _ H2.out ((R2.out.below HB0.out).mono HB0.out.size) (by omega)).mono ?_; rintro e w' ⟨rfl, rfl⟩; rw [I2.out]) | (go_at_call 43; with_reducible refine (place_any A3 n3 c3 o k _ H3.out ((R3.out.below HB0.out).mono HB0.out.size) (by omega)).mono ?_; rintro e w' ⟨rfl, rfl⟩; rw [I3.out]))
        exact bodyPost_ret (v := .tuple #[.int .i64 3, .int .i64 (i3 + 1)]) (by simp [results, Tryz.results23, go_sem]) rfl ⟨by rw [← HRR.out, if_neg (by omega), if_neg (by omega), if_pos q3], HB0.out⟩
      · have e3 : i3 = -1 := by omega
        skip
        subst e3
        go_wp2_with (first | (go_at_call 43; with_reducible refine (place_any A1 n1 c1 m k _ H1.out ((R1.out.below HB0.out).mono HB0.out.size) (by omega)).mono ?_; rintro e w' ⟨rfl, rfl⟩; rw [I1.out]) | (go_at_call 43; with_reducible refine (place_any A2 n2 c2 c k _ H2.out ((R2.out.below HB0.out).mono HB0.out.size) (by omega)).mono ?_; rintro e w' ⟨rfl, rfl⟩; rw [I2.out]) | (go_at_call 43; with_reducible refine (place_any A3 n3 c3 o k _ H3.out ((R3.out.below HB0.out).mono HB0.out.size) (by omega)).mono ?_; rintro e w' ⟨rfl, rfl⟩; rw [I3.out]))
        exact bodyPost_ret (v := .tuple #[.int .i64 0, .int .i64 (0)]) (by simp [results, Tryz.results23, go_sem]) rfl ⟨by rw [← HRR.out, if_neg (by omega), if_neg (by omega), if_neg (by omega)], HB0.out⟩
set_option maxHeartbeats 6400000 in
theorem check_ref (f : E.Fd) (A : Option Addr) (n c : Nat) (l : List E.Nt) (h p : Int) (w : World) (hn : l.length = n) (hr : RdN w w.heap.size A l) (hm : n ≤ 1000000) :
    Calls Tryz.prog 18 #[.agg #[.int .i64 f.places, .int .i64 f.wilds, .int .i64 f.guards, .int .i64 f.close, .int .i64 f.freeze], .slice A n c, .int .i64 h, .int .i64 p] w fun e w' => e = .returned (.int .i64 (E.errE f l h p)) ∧ Below w.heap.size w w' := by
  have HN := hide hn
  have HR := hide hr
  have HM := hide hm
  clear hn hr hm
  obtain ⟨e0, he0⟩ : ∃ q, E.checkE f l = q := ⟨_, rfl⟩
  obtain ⟨r0, hr0⟩ : ∃ q, E.errE f l h p = q := ⟨_, rfl⟩
  have HE0 := hide he0
  have HR0 := hide hr0
  rw [hr0]
  clear he0 hr0
  go_enter Tryz.func18, Tryz.ntmps18
  go_upto_region 1 with fail
  obtain ⟨w0, hw0⟩ : ∃ q, w.alloc (.cells #[.int .i64 f.places, .int .i64 f.wilds, .int .i64 f.guards, .int .i64 f.close, .int .i64 f.freeze] 23) = q := ⟨_, rfl⟩
  have HB0 := hide (show Below w.heap.size w w0 by rw [← hw0]; (repeat' first | exact zbR _ _ | assumption | refine zbD ?_ | refine zbA ?_ ?_ _ | refine zbS ?_ ?_ _ | refine zbT ?_ (by assumption) ?_ | (simp; done) | (simp; omega) | omega))
  have HF0 := hide (show w0.heap[w.heap.size]? = some (.cells #[.int .i64 f.places, .int .i64 f.wilds, .int .i64 f.guards, .int .i64 f.close, .int .i64 f.freeze] 23 (0, 0)) by rw [← hw0]; exact World.alloc_heap_new _ _)
  rw [hw0]
  clear hw0
  have x0 : w0.cell? ⟨w.heap.size, 0, none⟩ = some (.int .i64 f.places) := (blk_cell HF0.out 0).trans rfl; have x1 : w0.cell? ⟨w.heap.size, 1, none⟩ = some (.int .i64 f.wilds) := (blk_cell HF0.out 1).trans rfl; have x2 : w0.cell? ⟨w.heap.size, 2, none⟩ = some (.int .i64 f.guards) := (blk_cell HF0.out 2).trans rfl; have x3 : w0.cell? ⟨w.heap.size, 3, none⟩ = some (.int .i64 f.close) := (blk_cell HF0.out 3).trans rfl; have x4 : w0.cell? ⟨w.heap.size, 4, none⟩ = some (.int .i64 f.freeze) := (blk_cell HF0.out 4).trans rfl
  have lx := blk_lt HF0.out
  go_upto_region 2 with (go_at_call 38; with_reducible refine (refCheck_any f A n c l w0 HN.out ((HR.out.below HB0.out).mono HB0.out.size) HM.out).mono ?_; rintro e w1 ⟨rfl, hb1⟩; rw [HE0.out]; have HB1 := hide (HB0.out.trans (hb1.mono HB0.out.size)); clear hb1)
  clear x0 x1 x2 x3 x4 lx
  by_cases q0 : e0 = 0
  · subst q0
    obtain ⟨a1, ha1⟩ : ∃ q, E.within h 0 9999 = q := ⟨_, rfl⟩
    obtain ⟨a2, ha2⟩ : ∃ q, E.within p 0 999 = q := ⟨_, rfl⟩
    have A1 := hide ha1
    have A2 := hide ha2
    clear ha1 ha2
    have HV := hide (show r0 = if a1 && a2 then 0 else 1 by rw [← HR0.out, ← A1.out, ← A2.out]; unfold E.errE; rw [HE0.out, if_neg (by decide)]; simp only [Bool.and_eq_true])
    cases a1
    · go_wp2_with (go_at_call 39; with_reducible refine (refWithin_any h 0 9999 _).mono ?_; rintro e w' ⟨rfl, rfl⟩; rw [A1.out])
      go_ret
      exact ⟨by rw [HV.out]; rfl, HB1.out⟩
    · cases a2
      · go_wp2_with (first | (go_at_call 39; with_reducible refine (refWithin_any h 0 9999 _).mono ?_; rintro e w' ⟨rfl, rfl⟩; rw [A1.out]) | (go_at_call 39; with_reducible refine (refWithin_any p 0 999 _).mono ?_; rintro e w' ⟨rfl, rfl⟩; rw [A2.out]))
        go_ret
        exact ⟨by rw [HV.out]; rfl, HB1.out⟩
      · go_wp2_with (first | (go_at_call 39; with_reducible refine (refWithin_any h 0 9999 _).mono ?_; rintro e w' ⟨rfl, rfl⟩; rw [A1.out]) | (go_at_call 39; with_reducible refine (refWithin_any p 0 999 _).mono ?_; rintro e w' ⟨rfl, rfl⟩; rw [A2.out]))
        go_ret
        exact ⟨by rw [HV.out]; rfl, HB1.out⟩
  · have HV := hide (show r0 = e0 by rw [← HR0.out]; unfold E.errE; rw [HE0.out, if_pos q0])
    go_wp2_with fail
    go_ret
    exact ⟨by rw [HV.out]; rfl, HB1.out⟩
end Go.Proofs.YtobjahlmjcnfoaaGreat

namespace Go.Proofs.YtobjahlmjcnfoaaGreat
open Go.RowKit Go.Sort
attribute [local go_sem ↓] Go.wp_at_zero Go.wp_at_succ

def AfterP (f : E.Fd) (l : List E.Nt) (h : Int) (s : E.Rs) : Prop := ∀ (A : Option Addr) (n c : Nat) (w : World), l.length = n → RdN w w.heap.size A l →
    Calls Tryz.prog 19 #[.agg #[.int .i64 f.places, .int .i64 f.wilds, .int .i64 f.guards, .int .i64 f.close, .int .i64 f.freeze], .slice A n c, .int .i64 h] w fun e w' => ∃ v, e = .returned v ∧ StW w' (fun b => w.heap.size ≤ b) v s ∧ Below w.heap.size w w'
end Go.Proofs.YtobjahlmjcnfoaaGreat

namespace Go.Proofs.YtobjahlmjcnfoaaGreat
open Go.RowKit Go.Sort
attribute [local go_sem ↓] Go.wp_at_zero Go.wp_at_succ

def OptV (e0 : Int) (o : Option Int) : Value := if e0 = 0 then (match o with | some q => .tuple #[.int .i64 q, .int .i64 0] | none => .tuple #[.int .i64 0, .int .i64 3]) else .tuple #[.int .i64 0, .int .i64 e0]
theorem rev_hit {l : List E.Rp} {q : E.Rp → Bool} {k : Nat} {p : E.Rp} (h : l[k]? = some p) (hq : q p = true) (hn : ∀ (j : Nat) (x : E.Rp), k < j → l[j]? = some x → q x = false) : l.reverse.find? q = some p := by
  obtain ⟨h1, h2⟩ := List.getElem?_eq_some_iff.1 h
  have e : l = l.take k ++ p :: l.drop (k + 1) := by
    conv => lhs; rw [← List.take_append_drop k l, List.drop_eq_getElem_cons h1, h2]
  rw [e, List.reverse_append, List.reverse_cons, List.append_assoc, List.find?_append]
  have hno : (l.drop (k + 1)).reverse.find? q = none := by
    rw [List.find?_eq_none]
    intro x hx
    rw [List.mem_reverse] at hx
    obtain ⟨j, hj⟩ := List.mem_iff_getElem?.1 hx
    rw [List.getElem?_drop] at hj
    rw [hn (k + 1 + j) x (by omega) hj]
    decide
  rw [hno]
  show ([p] ++ (l.take k).reverse).find? q = some p
  rw [List.singleton_append, List.find?_cons_of_pos hq]
theorem rev_miss {l : List E.Rp} {q : E.Rp → Bool} (hn : ∀ (j : Nat) (x : E.Rp), l[j]? = some x → q x = false) : l.reverse.find? q = none := by
  rw [List.find?_eq_none]
  intro x hx
  rw [List.mem_reverse] at hx
  obtain ⟨j, hj⟩ := List.mem_iff_getElem?.1 hx
  rw [hn j x hj]
  decide
set_option maxHeartbeats 6400000 in
set_option maxRecDepth 100000 in
theorem Cut_ref (f : E.Fd) (A : Option Addr) (n c : Nat) (l : List E.Nt) (h : Int) (s : E.Rs) (w : World) (hn : l.length = n) (hr : RdN w w.heap.size A l) (hm : n ≤ 1000000) (hA : E.errE f l h 0 = 0 → AfterP f l h s) (hs : E.errE f l h 0 = 0 → s.people.length ≤ 200 ∧ s.ins.length ≤ 400) :
    Calls Tryz.prog 7 #[.agg #[.int .i64 f.places, .int .i64 f.wilds, .int .i64 f.guards, .int .i64 f.close, .int .i64 f.freeze], .slice A n c, .int .i64 h] w fun e w' => e = .returned (OptV (E.errE f l h 0) (E.cutR s)) ∧ Below w.heap.size w w' := by
  have HN := hide hn
  have HR := hide hr
  have HM := hide hm
  clear hn hr hm
  obtain ⟨e0, he0⟩ : ∃ q, E.errE f l h 0 = q := ⟨_, rfl⟩
  have HE0 := hide he0
  rw [he0] at hA hs ⊢
  clear he0
  obtain ⟨vv, hvv⟩ : ∃ q : Value, OptV e0 (E.cutR s) = q := ⟨_, rfl⟩
  have HVV := hide hvv
  rw [hvv]
  clear hvv
  go_enter Tryz.func7, Tryz.ntmps7
  go_upto_region 1 with fail
  obtain ⟨w0, hw0⟩ : ∃ q, w.alloc (.cells #[.int .i64 f.places, .int .i64 f.wilds, .int .i64 f.guards, .int .i64 f.close, .int .i64 f.freeze] 23) = q := ⟨_, rfl⟩
  have HB0 := hide (show Below w.heap.size w w0 by rw [← hw0]; (repeat' first | exact zbR _ _ | assumption | refine zbD ?_ | refine zbA ?_ ?_ _ | refine zbS ?_ ?_ _ | refine zbT ?_ (by assumption) ?_ | (simp; done) | (simp; omega) | omega))
  have HF0 := hide (show w0.heap[w.heap.size]? = some (.cells #[.int .i64 f.places, .int .i64 f.wilds, .int .i64 f.guards, .int .i64 f.close, .int .i64 f.freeze] 23 (0, 0)) by rw [← hw0]; exact World.alloc_heap_new _ _)
  rw [hw0]
  clear hw0
  have yf0 : w0.cell? ⟨w.heap.size, 0, none⟩ = some (.int .i64 f.places) := (blk_cell HF0.out 0).trans rfl
  have yf1 : w0.cell? ⟨w.heap.size, 1, none⟩ = some (.int .i64 f.wilds) := (blk_cell HF0.out 1).trans rfl
  have yf2 : w0.cell? ⟨w.heap.size, 2, none⟩ = some (.int .i64 f.guards) := (blk_cell HF0.out 2).trans rfl
  have yf3 : w0.cell? ⟨w.heap.size, 3, none⟩ = some (.int .i64 f.close) := (blk_cell HF0.out 3).trans rfl
  have yf4 : w0.cell? ⟨w.heap.size, 4, none⟩ = some (.int .i64 f.freeze) := (blk_cell HF0.out 4).trans rfl
  have lyf := blk_lt HF0.out
  go_upto_region 2 with (go_at_call 18; with_reducible refine (check_ref f A n c l h 0 w0 HN.out ((HR.out.below HB0.out).mono HB0.out.size) HM.out).mono ?_; rintro e w1 ⟨rfl, hb1⟩; rw [HE0.out]; have HB1 := hide hb1; clear hb1)
  clear yf0 yf1 yf2 yf3 yf4 lyf
  have HF1 := hide ((HB1.out.block _ (blk_lt HF0.out)).trans HF0.out)
  have HBW1 := hide (zbT HB0.out HB1.out HB0.out.size)
  clear HF0
  by_cases q0 : e0 = 0
  · subst q0
    have hA := hA rfl
    have HSB := hide (hs rfl)
    clear hs
    have yf0 : w1.cell? ⟨w.heap.size, 0, none⟩ = some (.int .i64 f.places) := (blk_cell HF1.out 0).trans rfl
    have yf1 : w1.cell? ⟨w.heap.size, 1, none⟩ = some (.int .i64 f.wilds) := (blk_cell HF1.out 1).trans rfl
    have yf2 : w1.cell? ⟨w.heap.size, 2, none⟩ = some (.int .i64 f.guards) := (blk_cell HF1.out 2).trans rfl
    have yf3 : w1.cell? ⟨w.heap.size, 3, none⟩ = some (.int .i64 f.close) := (blk_cell HF1.out 3).trans rfl
    have yf4 : w1.cell? ⟨w.heap.size, 4, none⟩ = some (.int .i64 f.freeze) := (blk_cell HF1.out 4).trans rfl
    have lyf := blk_lt HF1.out
    go_upto_region 5 with (go_at_call 19; refine (hA A n c w1 HN.out ((HR.out.below HBW1.out).mono HBW1.out.size)).mono ?_; rintro e w5 ⟨v5, rfl, hst, hb5⟩; obtain ⟨An, nn, cn, A2, n2, c2, A3, n3, c3, rfl, t1, t2, t3, t4, t5, t6⟩ := hst; have HN3 := hide t5; have HRI := hide t6; have HNN := hide t1; have HB5 := hide hb5; clear hb5 t1 t2 t3 t4 t5 t6)
    clear yf0 yf1 yf2 yf3 yf4 lyf
    obtain ⟨q5, hq5⟩ : ∃ q, w5.heap.size = q := ⟨_, rfl⟩
    obtain ⟨w55, hw55⟩ : ∃ q, w5.alloc (.cells #[.slice An nn cn, .slice A2 n2 c2, .int .i64 s.back, .slice A3 n3 c3] 53) = q := ⟨_, rfl⟩
    have HB55 := hide (show Below w5.heap.size w5 w55 by rw [← hw55]; (repeat' first | exact zbR _ _ | assumption | refine zbD ?_ | refine zbA ?_ ?_ _ | refine zbS ?_ ?_ _ | refine zbT ?_ (by assumption) ?_ | (simp; done) | (simp; omega) | omega))
    have HS55 := hide (show w55.heap[q5]? = some (.cells #[.slice An nn cn, .slice A2 n2 c2, .int .i64 s.back, .slice A3 n3 c3] 53 (0, 0)) by rw [← hw55, ← hq5]; exact World.alloc_heap_new _ _)
    rw [hw55, hq5]
    clear hw55 hq5
    have HRP := hide ((HRI.out w55 HB55.out.size (fun b hb _ => HB55.out.block b hb)).1)
    have ys0 : w55.cell? ⟨q5, 0, none⟩ = some (.slice An nn cn) := (blk_cell HS55.out 0).trans rfl
    have ys1 : w55.cell? ⟨q5, 1, none⟩ = some (.slice A2 n2 c2) := (blk_cell HS55.out 1).trans rfl
    have ys2 : w55.cell? ⟨q5, 2, none⟩ = some (.int .i64 s.back) := (blk_cell HS55.out 2).trans rfl
    have ys3 : w55.cell? ⟨q5, 3, none⟩ = some (.slice A3 n3 c3) := (blk_cell HS55.out 3).trans rfl
    have lys := blk_lt HS55.out
    go_upto_region 6 with (go_at_call 20; refine (orderP_holds An nn cn s.people A2 n2 c2 s.back A3 n3 c3 w55 HNN.out HRP.out (by have h1 := HNN.out; have h2 := HSB.out.1; omega)).mono ?_; rintro e w6 ⟨A6, m, c6, rfl, hl6, ho6, hb6⟩; have HL6 := hide hl6; have HO6 := hide ho6; have HB6 := hide hb6; clear hl6 ho6 hb6)
    clear ys0 ys1 ys2 ys3 lys
    have HS6 := hide ((HB6.out.block _ (blk_lt HS55.out)).trans HS55.out)
    have HM6 := hide (show m ≤ 200 by have h1 := ordF_length s.people; have h2 := HL6.out; have h3 := HSB.out.1; omega)
    have HZ6 := hide (Nat.le_trans HB55.out.size HB6.out.size)
    have HK6 := hide (show ∀ b, b < w5.heap.size → w6.heap[b]? = w5.heap[b]? from fun b hb => (HB6.out.block b (Nat.lt_of_lt_of_le hb HB55.out.size)).trans (HB55.out.block b hb))
    have HBW6 := hide (zbT (zbT (zbT HBW1.out HB5.out HBW1.out.size) HB55.out (Nat.le_trans HBW1.out.size HB5.out.size)) HB6.out (Nat.le_trans HBW1.out.size (Nat.le_trans HB5.out.size HB55.out.size)))
    have hwm : IntKind.i64.wrap ((m : Int) - 1) = (m : Int) - 1 := IntWalk.i64_in _ (by have := HM6.out; omega)
    go_wp2_with fail
    go_loopw [11] (fun i wr => ∃ k : Nat, k ≤ m ∧ i = .int .i64 ((k : Int) - 1) ∧ Hid (∀ (j : Nat) (x : E.Rp), k ≤ j → (ordF s.people)[j]? = some x → (!x.grd && s.ins.contains x.player) = false) ∧ Hid (Below w6.heap.size w6 wr)) (fun i _ => (intOf i + 1).toNat)
    case atStart => exact ⟨m, Nat.le_refl _, rfl, hide (fun j x hj hx => by have h1 := (List.getElem?_eq_some_iff.1 hx).1; have h2 := HL6.out; omega), hide (Below.refl _ _)⟩
    case round =>
      clear hwm
      obtain ⟨k, hk, rfl, HZ, HBR⟩ := hrel
      cases k with
      | zero =>
        rw [show ((0 : Nat) : Int) - 1 = -1 from rfl]
        go_wp2_with fail
        refine bodyPost_ret (v := .tuple #[.int .i64 0, .int .i64 3]) (by simp [results, Tryz.results7, go_sem]) rfl ⟨?_, zbT HBW6.out HBR.out HBW6.out.size⟩
        rw [← HVV.out, show E.cutR s = none from by unfold E.cutR; rw [show s.order = ordF s.people from rfl, rev_miss (fun j x hx => HZ.out j x (Nat.zero_le _) hx)]; rfl]
        rfl
      | succ k =>
        rw [show ((k + 1 : Nat) : Int) - 1 = (k : Int) by omega]
        have hk0 : (0 : Int) ≤ (k : Int) := by omega
        have hk1 : (k : Int) < (m : Int) := by omega
        have hkw : IntKind.i64.wrap ((k : Int) - 1) = (k : Int) - 1 := IntWalk.i64_in _ (by have := HM6.out; omega)
        obtain ⟨p, hp⟩ : ∃ q, (ordF s.people)[k]? = some q := ⟨_, List.getElem?_eq_getElem (by have := HL6.out; omega)⟩
        have HPK := hide hp
        clear hp
        go_upto_region 9 with fail
        obtain ⟨cb, hcb⟩ : ∃ q, s.ins.contains p.player = q := ⟨_, rfl⟩
        have HCB := hide hcb
        clear hcb
        obtain ⟨gb, hgb⟩ : ∃ q, p.grd = q := ⟨_, rfl⟩
        have HG := hide hgb
        clear hgb
        cases gb
        · cases cb
          · have HQN := hide (show (!p.grd && s.ins.contains p.player) = false by rw [HG.out, HCB.out]; rfl)
            obtain ⟨V, hV⟩ : ∃ V, (wr).drew = V := ⟨_, rfl⟩
            have HBV := hide (show Below w6.heap.size w6 V by rw [← hV]; exact zbD HBR.out)
            have HSV := hide ((HBV.out.block _ (blk_lt HS6.out)).trans HS6.out)
            have vs3 : V.cell? ⟨q5, 3, none⟩ = some (.slice A3 n3 c3) := (blk_cell HSV.out 3).trans rfl
            have lvs := blk_lt HSV.out
            have HPV := hide ((owns_RdP (owns_below HO6.out HBV.out) HL6.out))
            obtain ⟨bq, oq, hAq, lbv, q0, q1, q2, q3, q4, q5', q6⟩ := HPV.out k p HPK.out
            subst hAq
            have HIV := hide ((HRI.out V (Nat.le_trans HZ6.out HBV.out.size) (fun b hb _ => (HBV.out.block b (Nat.lt_of_lt_of_le hb HZ6.out)).trans (HK6.out b hb))).2.2)
            rw [HG.out] at q2
            clear q1 q3 q4 q5' q6
            refine wp_region_still_lit (by kernel_rfl) (by kernel_rfl) ?_
            change wpStill _ _ (wr).drew (fun a' => Exit.then _ _ Exit.normal a' (wr).drew) _ _
            rw [hV]
            clear hV
            iterate 14 (with_reducible refine stTake (v := ?_) (by kernel_rfl) ?_ ?_; rotate_left; (focus (go_simp; (try with_reducible rfl))); (try simp only [Act.put, zl, List.set_cons_zero, List.set_cons_succ]))
            with_reducible refine stCall (v := .bool false) (f := 21) (args := #[.slice A3 n3 c3, .int .i64 p.player]) (by kernel_rfl) (by go_simp) ((In_any A3 n3 c3 s.ins p.player V HN3.out HIV.out (by have h1 := HN3.out; have h2 := HSB.out.2; omega)).mono (fun e w h => ⟨h.1.trans (by rw [HCB.out]), h.2.symm⟩)) ?_
            (try simp only [Act.put, zl, List.set_cons_zero, List.set_cons_succ])
            with_reducible refine stTake (v := ?_) (by kernel_rfl) ?_ ?_; rotate_left; (focus (go_simp; (try with_reducible rfl))); (try simp only [Act.put, zl, List.set_cons_zero, List.set_cons_succ])
            refine wpStill_nil ?_
            clear vs3 lvs q0 q2
            go_wp2_with fail
            go_roundw
            case rel => exact ⟨k, by omega, rfl, hide (fun j x hj hx => by
                by_cases e : j = k
                · subst e
                  rw [HPK.out] at hx
                  rw [← Option.some.inj hx]
                  exact HQN.out
                · exact HZ.out j x (by omega) hx), HBV⟩
            case measure => simp [intOf] <;> omega
          · have HQY := hide (show (!p.grd && s.ins.contains p.player) = true by rw [HG.out, HCB.out]; rfl)
            obtain ⟨V, hV⟩ : ∃ V, (wr).drew = V := ⟨_, rfl⟩
            have HBV := hide (show Below w6.heap.size w6 V by rw [← hV]; exact zbD HBR.out)
            have HSV := hide ((HBV.out.block _ (blk_lt HS6.out)).trans HS6.out)
            have vs3 : V.cell? ⟨q5, 3, none⟩ = some (.slice A3 n3 c3) := (blk_cell HSV.out 3).trans rfl
            have lvs := blk_lt HSV.out
            have HPV := hide ((owns_RdP (owns_below HO6.out HBV.out) HL6.out))
            obtain ⟨bq, oq, hAq, lbv, q0, q1, q2, q3, q4, q5', q6⟩ := HPV.out k p HPK.out
            subst hAq
            have HIV := hide ((HRI.out V (Nat.le_trans HZ6.out HBV.out.size) (fun b hb _ => (HBV.out.block b (Nat.lt_of_lt_of_le hb HZ6.out)).trans (HK6.out b hb))).2.2)
            rw [HG.out] at q2
            clear q1 q3 q4 q5' q6
            refine wp_region_still_lit (by kernel_rfl) (by kernel_rfl) ?_
            change wpStill _ _ (wr).drew (fun a' => Exit.then _ _ Exit.normal a' (wr).drew) _ _
            rw [hV]
            clear hV
            iterate 14 (with_reducible refine stTake (v := ?_) (by kernel_rfl) ?_ ?_; rotate_left; (focus (go_simp; (try with_reducible rfl))); (try simp only [Act.put, zl, List.set_cons_zero, List.set_cons_succ]))
            with_reducible refine stCall (v := .bool true) (f := 21) (args := #[.slice A3 n3 c3, .int .i64 p.player]) (by kernel_rfl) (by go_simp) ((In_any A3 n3 c3 s.ins p.player V HN3.out HIV.out (by have h1 := HN3.out; have h2 := HSB.out.2; omega)).mono (fun e w h => ⟨h.1.trans (by rw [HCB.out]), h.2.symm⟩)) ?_
            (try simp only [Act.put, zl, List.set_cons_zero, List.set_cons_succ])
            with_reducible refine stTake (v := ?_) (by kernel_rfl) ?_ ?_; rotate_left; (focus (go_simp; (try with_reducible rfl))); (try simp only [Act.put, zl, List.set_cons_zero, List.set_cons_succ])
            refine wpStill_nil ?_
            clear vs3 lvs q0 q2
            obtain ⟨bq, oq, hAq, lbv, q0, q1, q2, q3, q4, q5', q6⟩ := HPV.out k p HPK.out
            clear q0 q2 q3 q4 q5' q6
            simp only [Option.some.injEq, Addr.mk.injEq, and_true] at hAq
            obtain ⟨rfl, rfl⟩ := hAq
            go_wp2_with fail
            refine bodyPost_ret (v := .tuple #[.int .i64 p.rank, .int .i64 0]) (by simp [results, Tryz.results7, go_sem]) rfl ⟨?_, zbT HBW6.out HBV.out HBW6.out.size⟩
            rw [← HVV.out, show E.cutR s = some p.rank from by unfold E.cutR; rw [show s.order = ordF s.people from rfl, rev_hit HPK.out HQY.out (fun j x hj hx => HZ.out j x (by omega) hx)]; rfl]
            rfl
        · have HQN := hide (show (!p.grd && s.ins.contains p.player) = false by rw [HG.out]; rfl)
          obtain ⟨V, hV⟩ : ∃ V, (wr).drew = V := ⟨_, rfl⟩
          have HBV := hide (show Below w6.heap.size w6 V by rw [← hV]; exact zbD HBR.out)
          have HSV := hide ((HBV.out.block _ (blk_lt HS6.out)).trans HS6.out)
          have vs3 : V.cell? ⟨q5, 3, none⟩ = some (.slice A3 n3 c3) := (blk_cell HSV.out 3).trans rfl
          have lvs := blk_lt HSV.out
          have HPV := hide ((owns_RdP (owns_below HO6.out HBV.out) HL6.out))
          obtain ⟨bq, oq, hAq, lbv, q0, q1, q2, q3, q4, q5', q6⟩ := HPV.out k p HPK.out
          subst hAq
          have HIV := hide ((HRI.out V (Nat.le_trans HZ6.out HBV.out.size) (fun b hb _ => (HBV.out.block b (Nat.lt_of_lt_of_le hb HZ6.out)).trans (HK6.out b hb))).2.2)
          rw [HG.out] at q2
          clear q1 q3 q4 q5' q6
          refine wp_region_still_lit (by kernel_rfl) (by kernel_rfl) ?_
          change wpStill _ _ (wr).drew (fun a' => Exit.then _ _ Exit.normal a' (wr).drew) _ _
          rw [hV]
          clear hV
          iterate 7 (with_reducible refine stTake (v := ?_) (by kernel_rfl) ?_ ?_; rotate_left; (focus (go_simp; (try with_reducible rfl))); (try simp only [Act.put, zl, List.set_cons_zero, List.set_cons_succ]))
          iterate 8 (with_reducible refine stSkip (by kernel_rfl) ?_; (try simp only [Act.put, zl, List.set_cons_zero, List.set_cons_succ]))
          with_reducible refine stTake (v := ?_) (by kernel_rfl) ?_ ?_; rotate_left; (focus (go_simp; (try with_reducible rfl))); (try simp only [Act.put, zl, List.set_cons_zero, List.set_cons_succ])
          refine wpStill_nil ?_
          clear vs3 lvs q0 q2
          go_wp2_with fail
          go_roundw
          case rel => exact ⟨k, by omega, rfl, hide (fun j x hj hx => by
              by_cases e : j = k
              · subst e
                rw [HPK.out] at hx
                rw [← Option.some.inj hx]
                exact HQN.out
              · exact HZ.out j x (by omega) hx), HBV⟩
          case measure => simp [intOf] <;> omega
  · go_wp2_with fail
    refine bodyPost_ret (v := .tuple #[.int .i64 0, .int .i64 e0]) (by simp [results, Tryz.results7, go_sem]) rfl ⟨?_, HBW1.out⟩
    rw [← HVV.out]
    unfold OptV
    rw [if_neg q0]
end Go.Proofs.YtobjahlmjcnfoaaGreat

namespace Go.Proofs.YtobjahlmjcnfoaaGreat
namespace E

def tbef (x y : Nt) : Bool := decide (x.hour < y.hour) || (decide (x.hour = y.hour) && decide (x.id < y.id))
def tins (out : List Nt) (x : Nt) : List Nt := if out.contains x then out else out.take (out.findIdx (tbef x)) ++ x :: out.drop (out.findIdx (tbef x))
theorem tins_mem (out : List Nt) (x y : Nt) : y ∈ tins out x ↔ y ∈ out ∨ y = x := by
  unfold tins
  split
  · rename_i h
    have h' : x ∈ out := by simpa using h
    constructor
    · exact .inl
    · rintro (h1 | rfl)
      · exact h1
      · exact h'
  · rw [List.mem_append, List.mem_cons]
    have e : y ∈ out ↔ y ∈ out.take (out.findIdx (tbef x)) ∨ y ∈ out.drop (out.findIdx (tbef x)) := by
      rw [← List.mem_append, List.take_append_drop]
    rw [e]
    constructor
    · rintro (h | h | h)
      · exact .inl (.inl h)
      · exact .inr h
      · exact .inl (.inr h)
    · rintro ((h | h) | h)
      · exact .inl h
      · exact .inr (.inr h)
      · exact .inr (.inl h)
theorem take_tbef (p : Nt → Bool) : ∀ (l : List Nt), ∀ y ∈ l.take (l.findIdx p), p y = false
  | [], y, h => by simp at h
  | a :: r, y, h => by
    rw [List.findIdx_cons] at h
    cases ha : p a with
    | true => rw [ha] at h; simp at h
    | false =>
      rw [ha] at h
      simp only [cond_false, List.take_succ_cons, List.mem_cons] at h
      rcases h with rfl | h
      · exact ha
      · exact take_tbef p r y h
theorem drop_tbef (x : Nt) : ∀ (l : List Nt), l.Pairwise (fun x y => leN x y = true) → ∀ y ∈ l.drop (l.findIdx (tbef x)), tbef x y = true
  | [], _, y, h => by simp at h
  | a :: r, hs, y, h => by
    rw [List.findIdx_cons] at h
    obtain ⟨h1, h2⟩ := List.pairwise_cons.1 hs
    cases ha : tbef x a with
    | true =>
      rw [ha] at h
      simp only [cond_true, List.drop_zero, List.mem_cons] at h
      rcases h with rfl | h
      · exact ha
      · have h3 := (leN_iff _ _).1 (h1 y h)
        unfold tbef at ha ⊢
        simp only [Bool.or_eq_true, Bool.and_eq_true, decide_eq_true_eq] at ha ⊢
        omega
    | false =>
      rw [ha] at h
      exact drop_tbef x r h2 y h
theorem tins_taken {out : List Nt} {x : Nt} (h : Taken out) (hx : validNotice x = true) (hid : ∀ y ∈ out, y.id = x.id → y = x) : Taken (tins out x) := by
  unfold tins
  split
  · exact h
  · rename_i hc
    have hc' : x ∉ out := by simpa using hc
    have hne : ∀ y ∈ out, y.id ≠ x.id := fun y hy e => hc' (hid y hy e ▸ hy)
    have hsub : ∀ (n : Nat) (y : Nt), y ∈ out.take n → y ∈ out := fun n y hy => List.mem_of_mem_take hy
    have hsub2 : ∀ (n : Nat) (y : Nt), y ∈ out.drop n → y ∈ out := fun n y hy => List.mem_of_mem_drop hy
    have hsplit := List.take_append_drop (out.findIdx (tbef x)) out
    have ids := h.ids
    have sorted := h.sorted
    rw [← hsplit, List.pairwise_append] at ids sorted
    refine ⟨?_, ?_, fun y hy => ?_⟩
    · rw [List.pairwise_append, List.pairwise_cons]
      refine ⟨ids.1, ⟨fun y hy e => hne y (hsub2 _ y hy) e.symm, ids.2.1⟩, fun a ha b hb => ?_⟩
      rcases List.mem_cons.1 hb with rfl | hb
      · exact hne a (hsub _ a ha)
      · exact ids.2.2 a ha b hb
    · rw [List.pairwise_append, List.pairwise_cons]
      refine ⟨sorted.1, ⟨fun y hy => ?_, sorted.2.1⟩, fun a ha b hb => ?_⟩
      · have := drop_tbef x out h.sorted y hy
        unfold tbef at this
        simp only [Bool.or_eq_true, Bool.and_eq_true, decide_eq_true_eq] at this
        rw [leN_iff]; omega
      · rcases List.mem_cons.1 hb with rfl | hb
        · have := take_tbef _ out a ha
          unfold tbef at this
          simp only [Bool.or_eq_false_iff, Bool.and_eq_false_iff, decide_eq_false_iff_not] at this
          rw [leN_iff]; omega
        · exact sorted.2.2 a ha b hb
    · rcases List.mem_append.1 hy with h1 | h1
      · exact h.valid y (hsub _ y h1)
      · rcases List.mem_cons.1 h1 with rfl | h1
        · exact hx
        · exact h.valid y (hsub2 _ y h1)
theorem tins_length (out : List Nt) (x : Nt) : (tins out x).length ≤ out.length + 1 := by
  unfold tins
  split
  · omega
  · rw [List.length_append, List.length_cons, List.length_take, List.length_drop]; omega
theorem tfold_length : ∀ (l out : List Nt), (l.foldl tins out).length ≤ out.length + l.length
  | [], out => by simp
  | a :: r, out => by
    rw [List.foldl_cons, List.length_cons]
    have h1 := tfold_length r (tins out a)
    have h2 := tins_length out a
    omega
theorem tfold {l : List Nt} : ∀ (out : List Nt), Taken out → (∀ x ∈ l, validNotice x = true) → (∀ x, x ∈ out ∨ x ∈ l → ∀ y, y ∈ out ∨ y ∈ l → y.id = x.id → y = x) → Taken (l.foldl tins out) ∧ ∀ y, y ∈ l.foldl tins out ↔ y ∈ out ∨ y ∈ l := by
  induction l with
  | nil => intro out h _ _; exact ⟨h, fun y => by simp⟩
  | cons a r ih =>
    intro out h hv hid
    rw [List.foldl_cons]
    have h1 := tins_taken h (hv a (List.mem_cons_self ..)) (fun y hy e => hid a (.inr (List.mem_cons_self ..)) y (.inl hy) e)
    have hsame : ∀ x, x ∈ tins out a ∨ x ∈ r → x ∈ out ∨ x ∈ a :: r := fun x hx => by
      rcases hx with hx | hx
      · rcases (tins_mem out a x).1 hx with h2 | rfl
        · exact .inl h2
        · exact .inr (List.mem_cons_self ..)
      · exact .inr (List.mem_cons_of_mem _ hx)
    obtain ⟨h2, h3⟩ := ih (tins out a) h1 (fun x hx => hv x (List.mem_cons_of_mem _ hx)) (fun x hx y hy e => hid x (hsame x hx) y (hsame y hy) e)
    refine ⟨h2, fun y => ?_⟩
    rw [h3, tins_mem, List.mem_cons]
    constructor
    · rintro ((h | h) | h)
      · exact .inl h
      · exact .inr (.inl h)
      · exact .inr (.inr h)
    · rintro (h | h | h)
      · exact .inl (.inl h)
      · exact .inl (.inr h)
      · exact .inr h
theorem taken_same {l d : List Nt} (hd : diffs l = some d) : l.foldl tins [] = d := by
  obtain ⟨_, ht, hm⟩ := diffs_spec hd
  obtain ⟨h1, h2⟩ := tfold (l := l) [] ⟨List.Pairwise.nil, List.Pairwise.nil, fun x hx => by cases hx⟩ (fun x hx => ht.valid x ((hm x).2 hx)) (fun x hx y hy e => ids_inj ht.ids y ((hm y).2 (by simpa using hy)) x ((hm x).2 (by simpa using hx)) e)
  exact taken_eq h1 ht (fun y => by rw [h2, hm]; simp)

theorem takeWhile_filter {H : Int} : ∀ {d : List Nt}, d.Pairwise (fun a b => a.hour ≤ b.hour) → d.takeWhile (fun x => decide (x.hour ≤ H)) = d.filter (fun x => decide (x.hour ≤ H))
  | [], _ => rfl
  | a :: r, hs => by
    obtain ⟨h1, h2⟩ := List.pairwise_cons.1 hs
    by_cases c : a.hour ≤ H
    · rw [List.takeWhile_cons_of_pos (by simpa using c), List.filter_cons_of_pos (by simpa using c), takeWhile_filter h2]
    · rw [List.takeWhile_cons_of_neg (by simpa using c), List.filter_cons_of_neg (by simpa using c)]
      symm
      rw [List.filter_eq_nil_iff]
      intro y hy
      have := h1 y hy
      simp only [decide_eq_true_eq]
      omega
theorem aft_same (f : Fd) {d : List Nt} (h : Taken d) (H : Int) : aftF f d H = rafter f d H := by
  unfold aftF rafter
  rw [takeWhile_filter (taken_hours h)]

structure RBd (k : Nat) (r : Rs) : Prop where
  people : r.people.length ≤ k
  wilds : r.wilds.length ≤ k
  back0 : 0 ≤ r.back
  back : r.back ≤ (k : Int)
  num : ∀ p ∈ r.people, 0 ≤ p.player
theorem with_length (r : Rs) (k : Int) : (r.with_ k).length ≤ r.people.length + 1 := by
  unfold Rs.with_
  split
  · omega
  · rw [List.length_append]; simp
theorem rtake_bd {f : Fd} {r : Rs} {k : Nat} (h : RBd k r) (x : Nt) (hx : 0 ≤ x.player) : RBd (k + 1) (rtake f r x) := by
  obtain ⟨h1, h2, h3, h4, h5⟩ := h
  have hw := with_length r x.player
  have hwn : ∀ p ∈ r.with_ x.player, 0 ≤ p.player := by
    intro p hp
    unfold Rs.with_ at hp
    split at hp
    · exact h5 p hp
    · rcases List.mem_append.1 hp with h6 | h6
      · exact h5 p h6
      · simp only [List.mem_singleton] at h6; rw [h6]; exact hx
  have hget : 0 ≤ ((r.with_ x.player).getD (idxR (r.with_ x.player) x.player) (Rp.new x.player)).player := by
    rw [List.getD_eq_getElem?_getD]
    cases e : (r.with_ x.player)[idxR (r.with_ x.player) x.player]? with
    | none => exact hx
    | some p => exact hwn p (List.mem_of_getElem? e)
  have hset : ∀ (q : Rp), 0 ≤ q.player → ∀ p ∈ (r.with_ x.player).set (idxR (r.with_ x.player) x.player) q, 0 ≤ p.player := by
    intro q hq p hp
    rcases List.mem_or_eq_of_mem_set hp with h6 | h6
    · exact hwn p h6
    · rw [h6]; exact hq
  have key : ∀ (c : Prop) [Decidable c], 0 ≤ (if c then r.back + 1 else r.back) ∧ (if c then r.back + 1 else r.back) ≤ ((k + 1 : Nat) : Int) := by
    intro c _
    by_cases hc : c
    · rw [if_pos hc]; push_cast; omega
    · rw [if_neg hc]; push_cast; omega
  have same : RBd (k + 1) r := ⟨by omega, by omega, h3, by push_cast; omega, h5⟩
  unfold rtake
  dsimp only
  split
  · split
    · exact same
    · refine ⟨?_, by show r.wilds.length ≤ _; omega, h3, by show r.back ≤ _; push_cast; omega, fun p hp => ?_⟩
      · show ((r.with_ x.player).eraseIdx _ ++ [_]).length ≤ _
        rw [List.length_append, List.length_eraseIdx]
        have hlt := (idxR_lt (with_mem r x.player)).1
        rw [if_pos hlt]
        simp; omega
      · rcases List.mem_append.1 hp with h6 | h6
        · exact hwn p (List.mem_of_mem_eraseIdx h6)
        · simp only [List.mem_singleton] at h6; rw [h6]; exact hget
  · split
    · split
      · exact same
      · refine ⟨?_, ?_, h3, by show r.back ≤ _; push_cast; omega, hset _ hget⟩
        · show ((r.with_ x.player).set _ _).length ≤ _
          rw [List.length_set]; omega
        · show (r.wilds ++ [x.player]).length ≤ _
          rw [List.length_append]; simp; omega
    · split
      · refine ⟨?_, ?_, ?_, ?_, hset _ hget⟩
        · show ((r.with_ x.player).set _ _).length ≤ _
          rw [List.length_set]; omega
        · show (r.wilds.filter _).length ≤ _
          exact Nat.le_trans (List.length_filter_le _ _) (by omega)
        · exact (key _).1
        · exact (key _).2
      · split
        · refine ⟨?_, by show r.wilds.length ≤ _; omega, h3, by show r.back ≤ _; push_cast; omega, hset _ hget⟩
          show ((r.with_ x.player).set _ _).length ≤ _
          rw [List.length_set]; omega
        · refine ⟨?_, by show r.wilds.length ≤ _; omega, h3, by show r.back ≤ _; push_cast; omega, hset _ hget⟩
          show ((r.with_ x.player).set _ _).length ≤ _
          rw [List.length_set]; omega
theorem rone_bd {f : Fd} {r : Rs} {k : Nat} (h : RBd k r) (x : Nt) (hx : 0 ≤ x.player) : RBd (k + 1) (rone f r x) := by
  have h1 := rtake_bd (f := f) h x hx
  unfold rone
  dsimp only
  split <;> exact ⟨h1.people, h1.wilds, h1.back0, h1.back, h1.num⟩
theorem rfold_bd {f : Fd} : ∀ (l : List Nt) (r : Rs) (k : Nat), RBd k r → (∀ x ∈ l, 0 ≤ x.player) → RBd (k + l.length) (l.foldl (rone f) r)
  | [], _, _, h, _ => h
  | x :: l, r, k, h, hv => by
    have h1 := rfold_bd (f := f) l (rone f r x) (k + 1) (rone_bd h x (hv x (List.mem_cons_self ..))) (fun y hy => hv y (List.mem_cons_of_mem _ hy))
    rw [List.foldl_cons, List.length_cons, show k + (l.length + 1) = k + 1 + l.length from by omega]
    exact h1
end E
theorem one_ok {f : E.Fd} {l d : List E.Nt} (hd : E.diffs l = some d) (hv : E.validField f = true) : ∀ (i : Nat) (x : E.Nt), d[i]? = some x → OneOk f ((d.take i).foldl (E.rone f) E.Rs.new) x := by
  intro i x hx
  obtain ⟨_, ht, _⟩ := E.diffs_spec hd
  have hdl := E.diffs_len hd
  have hmem : x ∈ d := List.mem_of_getElem? hx
  have hxp := E.valid_player (ht.valid x hmem)
  have hsub : ∀ y ∈ d.take i, y ∈ d := fun y hy => List.mem_of_mem_take hy
  have hlen : (d.take i).length ≤ 60 := Nat.le_trans (List.length_take_le' i d) hdl
  have hside := E.rfold_side (d.take i) E.Rs.new (E.St.new f) (E.side_new f) (E.new_ok f) (Int.le_refl _) (E.plc_new hv) (fun p hp => by cases hp) (fun y hy => ht.valid y (hsub y hy)) ((E.taken_hours ht).sublist (List.take_sublist _ _)) (.inl rfl) (by
    have h1 : (E.St.new f).known.length = 0 := rfl
    omega)
  have hplc := E.plc_fold (d.take i) (E.St.new f) (E.new_ok f) (Int.le_refl _) (E.plc_new hv) (fun y hy => E.valid_player (ht.valid y (hsub y hy)))
  have hb := E.rfold_bd (f := f) (d.take i) E.Rs.new 0 ⟨by simp [E.Rs.new], by simp [E.Rs.new], Int.le_refl _, Int.le_refl _, fun p hp => by cases hp⟩ (fun y hy => (E.valid_player (ht.valid y (hsub y hy))).1)
  have hf := E.valid_places hv
  have hb2 := E.fold_bd (d.take i) (E.St.new f) 0 ⟨by show f.places ≤ _; omega, by simp [E.St.new], by simp [E.St.new], Int.le_refl _, by show 0 ≤ f.places; omega, Int.le_refl _⟩
  have hb1 := E.rtake_bd (f := f) hb x hxp.1
  have hT := E.said_side hside.1 hplc.cards x
  generalize (d.take i).foldl (E.rone f) E.Rs.new = r at *
  generalize (d.take i).foldl E.St.take (E.St.new f) = s at *
  have a1 := hb.people
  have a2 := hb.wilds
  have a3 := hb.back
  have a4 := hb1.people
  have a5 := hb1.back
  have a6 := hb2.main
  have a7 : (E.rtake f r x).ins = s.main := by rw [E.rtake_ins, hside.1.ins]
  refine ⟨by omega, by omega, hb.back0, by omega, hT.nd, hb1.num, by omega, by rw [a7]; omega, hb1.back0, by omega⟩
end Go.Proofs.YtobjahlmjcnfoaaGreat
