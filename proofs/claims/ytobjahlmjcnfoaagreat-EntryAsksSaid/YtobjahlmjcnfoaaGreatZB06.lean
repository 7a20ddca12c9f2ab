/-
  Part of a claim's texts: contracts of the program's functions and the plain functions that they compute, in build order.
-/
import Derived.Deep.MidRow
import Derived.Test.YtobjahlmjcnfoaaGreatProg
import Derived.StillTail
import Derived.Deep.Cut
import Derived.Deep.CutRange
import Derived.Test.YtobjahlmjcnfoaaGreatZB02
import Derived.Test.YtobjahlmjcnfoaaGreatZB05
namespace Go.Proofs.YtobjahlmjcnfoaaGreat
namespace E

theorem filter_map_player (l : List Rp) (q : Int → Bool) : (l.filter fun p => q p.player).map Rp.player = (l.map Rp.player).filter q := by
  rw [List.filter_map]; rfl
theorem rguards_of {f : Fd} {r : Rs} {s : St} (h : Side f r s) (hmem : ∀ p ∈ r.order, p ∈ r.people) (hnd : (r.order.map Rp.player).Nodup) {m : List Int} (hm : m.Nodup) (hin : ∀ k ∈ m, k ∈ r.order.map Rp.player) : rguards r.order m = s.guardsOf m := by
  have e1 : rguards r.order m = ((((r.order.map Rp.player).filter fun k => (s.pl k).grd && m.contains k).length : Nat) : Int) := by
    unfold rguards
    rw [← filter_map_player, List.length_map]
    congr 2
    exact List.filter_congr fun p hp => by rw [(h.pl p (hmem p hp)).2.1]
  have e2 : ∀ m : List Int, s.guardsOf m = ((m.filter fun k => (s.pl k).grd).length : Int) := by
    intro m
    induction m with
    | nil => rfl
    | cons a t ih =>
      have e : s.guardsOf (a :: t) = one (s.pl a).grd + s.guardsOf t := by simp [St.guardsOf]
      rw [e, ih, List.filter_cons]
      cases (s.pl a).grd <;> simp [one] <;> omega
  rw [e1, e2 m]
  congr 1
  refine List.Perm.length_eq ((List.perm_ext_iff_of_nodup (hnd.filter _) (hm.filter _)).2 fun k => ?_)
  rw [List.mem_filter, List.mem_filter, Bool.and_eq_true, List.contains_eq_mem, decide_eq_true_eq]
  exact ⟨fun ⟨_, c1, c2⟩ => ⟨c2, c1⟩, fun ⟨c1, c2⟩ => ⟨hin k c1, c2, c1⟩⟩
theorem side_ins {f : Fd} {r : Rs} {s : St} (h : Side f r s) {m : List Int} : Side f { r with ins := m } { s with main := m } :=
  ⟨h.nd, h.pl, h.no, h.turns, h.below, h.wilds, rfl, h.places, h.fw, h.fg, h.fc, h.fz⟩
theorem rtake_back {f : Fd} {r : Rs} (x : Nt) (hx : ¬ f.freeze < x.hour) : (rtake f r x).back = r.back := by
  unfold rtake
  dsimp only
  repeat' split
  all_goals first
    | rfl
    | (rename_i hh; exact absurd hh.2 hx)
theorem rtake_ins {f : Fd} {r : Rs} (x : Nt) : (rtake f r x).ins = r.ins := by
  unfold rtake
  dsimp only
  repeat' split
  all_goals rfl

theorem rone_side {f : Fd} {r : Rs} {s : St} (h : Side f r s) (hs : StOk s) (hT : 0 ≤ s.turns) (hc : CardsOk s) (hmn : s.main.Nodup) (hr : ∀ p ∈ r.people, 0 ≤ p.rank) (x : Nt) (hx : 0 ≤ x.player ∧ x.player ≤ 999) (hx2 : 0 ≤ x.rank) (hb : ¬ f.freeze < x.hour → r.back = 0) (hlen : s.known.length ≤ 199) :
    Side f (rone f r x) (s.take x) ∧ (∀ p ∈ (rone f r x).people, 0 ≤ p.rank) ∧ (¬ f.freeze < x.hour → (rone f r x).back = 0) := by
  have hu := said_side h hc x
  have hok := said_ok hs x hx hT
  have hru := rtake_rank hr x hx2 (f := f)
  have hor := order_side hu hok.1 hru
  have hmem : ∀ p ∈ (rtake f r x).order, p ∈ (rtake f r x).people := fun p hp => (hor.2.1 p hp).1
  have hlate : late s.f x.hour = decide (f.freeze < x.hour) := by unfold late; rw [h.fz]
  have hmain := said_main s x
  have hins := rtake_ins (f := f) (r := r) x
  obtain ⟨u, eu⟩ : ∃ u, rtake f r x = u := ⟨_, rfl⟩
  obtain ⟨v, ev⟩ : ∃ v, s.said x = v := ⟨_, rfl⟩
  have htk : s.take x = v.settle (decide (f.freeze < x.hour)) := by rw [← hlate, ← ev]; rfl
  have hback := rtake_back (f := f) (r := r) x
  have hkl := known_said s x
  have hro : rone f r x = if f.freeze < x.hour then { u with ins := rlater f u.back u.order 200 (u.ins.filter fun k => u.order.any fun p => p.player == k) } else { u with ins := rfill f u.order [] 0 } := by rw [← eu]; rfl
  rw [eu] at hu hru hor hmem hins hback
  rw [ev] at hu hok hor hmain hkl
  rw [htk, hro]
  by_cases c : f.freeze < x.hour
  · rw [if_pos c, decide_eq_true c]
    refine ⟨?_, hru, fun c' => absurd c c'⟩
    have hm0 : (u.ins.filter fun k => u.order.any fun p => p.player == k) = v.main.filter fun k => true && (v.pl k).entry := by
      rw [hu.ins]
      refine List.filter_congr fun k hk => ?_
      rw [Bool.true_and, Bool.eq_iff_iff, List.any_eq_true]
      have hkk := hok.1.main k hk
      constructor
      · rintro ⟨p, hp, e⟩
        have : k ∈ v.order := by rw [← hor.1]; exact List.mem_map.2 ⟨p, hp, beq_iff_eq.1 e⟩
        exact (order_mem.1 this).2
      · intro e
        have : k ∈ u.order.map Rp.player := by rw [hor.1]; exact order_mem.2 ⟨hkk, e⟩
        obtain ⟨p, hp, e2⟩ := List.mem_map.1 this
        exact ⟨p, hp, by simp [e2]⟩
    have hmnd : (v.main.filter fun k => true && (v.pl k).entry).Nodup := List.Nodup.sublist List.filter_sublist (by rw [hmain]; exact hmn)
    have hmin : ∀ k ∈ (v.main.filter fun k => true && (v.pl k).entry), k ∈ u.order.map Rp.player := fun k hk => by
      obtain ⟨k1, k2⟩ := List.mem_filter.1 hk
      rw [hor.1]
      exact order_mem.2 ⟨hok.1.main k k1, by simpa using k2⟩
    have hol : u.order.length ≤ 200 := by
      have h1 : (u.order.map Rp.player).length = v.order.length := by rw [hor.1]
      rw [List.length_map] at h1
      have h2 : v.order.length ≤ v.known.length := by unfold St.order; rw [List.length_mergeSort]; exact List.length_filter_le _ _
      omega
    have hf := rlater_fill (s := v) u.back hu.places hu.fg u.order hor.2.2 (fun p hp => ⟨(hu.pl p (hmem p hp)).2.1, (hu.pl p (hmem p hp)).2.2.2.2.1⟩) u.order [] 200 (v.main.filter fun k => true && (v.pl k).entry) (rguards u.order (v.main.filter fun k => true && (v.pl k).entry)) rfl hol rfl (fun p hp => by cases hp)
    have hset : (v.settle true) = { v with main := rlater f u.back u.order 200 (u.ins.filter fun k => u.order.any fun p => p.player == k) } := by
      rw [hm0, hf, rguards_of hu hmem hor.2.2 hmnd hmin]
      unfold St.settle
      dsimp only
      congr 1
      rw [filter_map_player u.order (fun k => !(v.main.filter fun k => true && (v.pl k).entry).contains k), hor.1]
      rfl
    rw [hset]
    exact side_ins hu
  · rw [if_neg c, decide_eq_false c]
    refine ⟨?_, hru, fun _ => (hback c).trans (hb c)⟩
    have hb0 : u.back = 0 := (hback c).trans (hb c)
    have hset : (v.settle false) = { v with main := rfill f u.order [] 0 } := by
      rw [rfill_side (s := v) (by have := hu.places; omega) hu.fg u.order [] 0 (fun p hp => (hu.pl p (hmem p hp)).2.1), hor.1]
      have h1 := settle_early v
      have h2 : v.settle false = { v with main := (v.settle false).main } := rfl
      rw [h2, h1]
      rfl
    rw [hset]
    exact side_ins hu

theorem side_new (f : Fd) : Side f Rs.new (St.new f) :=
  ⟨List.nodup_nil, (fun p hp => by cases hp), fun k _ => ⟨rfl, rfl, rfl, rfl, rfl, rfl⟩, List.Pairwise.nil, (fun p hp => by cases hp), rfl, rfl, (by show f.places = f.places + 0; omega), rfl, rfl, rfl, rfl⟩
theorem rfold_side {f : Fd} : ∀ (l : List Nt) (r : Rs) (s : St), Side f r s → StOk s → 0 ≤ s.turns → Plc s → (∀ p ∈ r.people, 0 ≤ p.rank) → (∀ x ∈ l, validNotice x = true) → l.Pairwise (fun a b => a.hour ≤ b.hour) → (r.back = 0 ∨ ∀ x ∈ l, f.freeze < x.hour) → s.known.length + l.length ≤ 199 →
    Side f (l.foldl (rone f) r) (l.foldl St.take s) ∧ (∀ p ∈ (l.foldl (rone f) r).people, 0 ≤ p.rank)
  | [], _, _, h, _, _, _, hr, _, _, _, _ => ⟨h, hr⟩
  | x :: l, r, s, h, hs, hT, hp, hr, hv, hw, hb, hk => by
    have hxv := hv x (List.mem_cons_self ..)
    have hx := valid_player hxv
    have hx2 : 0 ≤ x.rank := by
      have hv2 := hxv
      unfold validNotice within at hv2
      simp only [Bool.and_eq_true, decide_eq_true_eq] at hv2
      have hlo : 0 ≤ lowOf x.kind := by unfold lowOf; repeat' split
                                        all_goals decide
      omega
    obtain ⟨w1, w2⟩ := List.pairwise_cons.1 hw
    rw [List.length_cons] at hk
    obtain ⟨h1, h2, h3⟩ := rone_side h hs hT hp.cards hp.mnd hr x hx hx2 (fun c => by
      rcases hb with c2 | c2
      · exact c2
      · exact absurd (c2 x (List.mem_cons_self ..)) c) (by omega)
    have hok := E.take_ok hs x hx hT
    refine rfold_side l _ _ h1 hok.1 hok.2 (plc_take hs hT hp x hx) h2 (fun y hy => hv y (List.mem_cons_of_mem _ hy)) w2 ?_ ?_
    · by_cases c : f.freeze < x.hour
      · exact .inr fun y hy => Int.lt_of_lt_of_le c (w1 y hy)
      · exact .inl (h3 c)
    · have h4 : (s.take x).known.length ≤ s.known.length + 1 := known_said s x
      omega
def rafter (f : Fd) (d : List Nt) (H : Int) : Rs := (d.filter fun x => decide (x.hour ≤ H)).foldl (rone f) Rs.new
theorem after_side {f : Fd} {l d : List Nt} (hd : diffs l = some d) (hv : validField f = true) (H : Int) : Side f (rafter f d H) (atL f H d) ∧ (∀ p ∈ (rafter f d H).people, 0 ≤ p.rank) := by
  obtain ⟨hl, ht, hm⟩ := diffs_spec hd
  have hdl := diffs_len hd
  refine rfold_side _ Rs.new (St.new f) (side_new f) (new_ok f) (Int.le_refl _) (plc_new hv) (fun p hp => by cases hp) (fun x hx => ht.valid x (List.mem_filter.1 hx).1) (List.Pairwise.sublist List.filter_sublist (taken_hours ht)) (.inl rfl) ?_
  have h1 : (St.new f).known.length = 0 := rfl
  have h2 := List.length_filter_le (fun x => decide (x.hour ≤ H)) d
  omega
theorem out_side {f : Fd} {r : Rs} {s : St} (h : Side f r s) (ok : StOk s) (hr : ∀ p ∈ r.people, 0 ≤ p.rank) : (r.order.filter fun p => !r.ins.contains p.player).map Rp.player = s.alts := by
  rw [filter_map_player r.order (fun k => !r.ins.contains k), (order_side h ok hr).1, h.ins]
  rfl
end E
end Go.Proofs.YtobjahlmjcnfoaaGreat

namespace Go.Proofs.YtobjahlmjcnfoaaGreat
open Go.RowKit Go.Sort
attribute [local go_sem ↓] Go.wp_at_zero Go.wp_at_succ

theorem flatN_div {xs : List E.Nt} {j : Nat} {u : Value} (h : (flatN xs)[j]? = some u) : ∃ x, xs[j / 5]? = some x ∧ (nc x)[j % 5]? = some u := by
  have hj : j < xs.length * 5 := by rw [← flatN_length]; exact (List.getElem?_eq_some_iff.1 h).1
  have hk : j / 5 < xs.length := by omega
  refine ⟨xs[j / 5], List.getElem?_eq_getElem hk, ?_⟩
  rw [← flatN_at xs (j / 5) _ (j % 5) (List.getElem?_eq_getElem hk) (by omega), ← h]
  congr 1
  omega
theorem RdN.cellAt {w : World} {B : Nat} {ad : Addr} {xs : List E.Nt} (h : RdN w B (some ad) xs) {j : Nat} {u : Value} (hj : (flatN xs)[j]? = some u) : w.cell? (ad.add j) = some u := by
  obtain ⟨x, hx, hu⟩ := flatN_div hj
  obtain ⟨b, o, e, _, c0, c1, c2, c3, c4⟩ := h (j / 5) x hx
  have e' := Option.some.inj e
  subst e'
  rw [add_plain]
  have hm : j % 5 < 5 := by omega
  have hd : o + j = o + j / 5 * 5 + j % 5 := by omega
  rw [hd]
  unfold nc at hu
  match hq : j % 5, hm with
  | 0, _ => rw [hq] at hu; rw [← Option.some.inj hu]; exact c0
  | 1, _ => rw [hq] at hu; rw [← Option.some.inj hu]; exact c1
  | 2, _ => rw [hq] at hu; rw [← Option.some.inj hu]; exact c2
  | 3, _ => rw [hq] at hu; rw [← Option.some.inj hu]; exact c3
  | 4, _ => rw [hq] at hu; rw [← Option.some.inj hu]; exact c4
theorem run_app_Ns {w : World} (ty : TypeId) (base : Nat) (v : Value) (ps : List E.Nt) (m0 : Nat) (hown : w.ownsRow base 70 5 v m0 (flatN ps)) (hlen : ps.length = m0)
    (A : Option Addr) (n c : Nat) (xs : List E.Nt) (hn : xs.length = n) (hr : RdN w w.heap.size A xs) (hA : A = none → c = 0) (h0 : m0 ≤ 1000) (h1 : n ≤ 1000) (hbase : base ≤ w.heap.size) :
    ∃ A' c' w', (Builtin.append_ #[24, 24] ty #[v, .slice A n c]).run Tryz.prog w = .ok (.slice A' (m0 + n) c') w' ∧ w'.ownsRow base 70 5 (.slice A' (m0 + n) c') (m0 + n) (flatN (ps ++ xs)) ∧ w.grownBy w' v.ownBlock := by
  obtain ⟨i, hi, hz0, hz1, hz2⟩ := info_parts nt_info
  rcases A with _ | ad
  · have hx0 : xs = [] := by
      match xs, hr with
      | [], _ => rfl
      | x :: r, hr => obtain ⟨_, _, e, _⟩ := hr 0 x rfl; cases e
    subst hx0
    have hn0 : n = 0 := by simpa using hn.symm
    subst hn0
    have hc0 := hA rfl
    subst hc0
    obtain ⟨A', c', rfl⟩ := own_form hown
    have hrun := run_append_owned_none (P := Tryz.prog) (w := w) base 24 ty 70 i 5 Tryz.underlying24 hi (.slice A' m0 c') m0 (flatN ps) hown
    exact ⟨A', c', w, hrun, by simpa using hown, World.grownBy.refl w _⟩
  · obtain ⟨v', w', hrun, h2, h3, _, _⟩ := run_append_own_at (P := Tryz.prog) w base 24 ty 70 i _ 5 40 Tryz.underlying24 hi hz0 hz1 hz2 (by rfl) (by decide) v m0 (flatN ps) hown ad n c (flatN xs) (by rw [flatN_length, hn]) (by
      intro j u hj
      exact hr.cellAt hj) (flatN_one xs) (by unfold maxLen; omega) (by omega) hbase
    obtain ⟨A', c', rfl⟩ := own_form h2
    exact ⟨A', c', w', hrun, by rw [flatN_app]; exact h2, h3⟩
theorem wpList_app_Ns {w : World} {ops : Array Oper} {rest : List Oper} {o : Oper} {a : Act} {Q : Exit → Act → World → Prop} (hgd : o.guard = none) (s x : Operand)
    (ho : o.op = .call { callee := .builtin .append, args := #[s, x], argTypes := #[24, 24] }) (base : Nat) (v : Value) (ps : List E.Nt) (m0 : Nat) (hs : a.eval s = v) (hown : w.ownsRow base 70 5 v m0 (flatN ps)) (hlen : ps.length = m0)
    (A : Option Addr) (n c : Nat) (xs : List E.Nt) (hx : a.eval x = .slice A n c) (hn : xs.length = n) (hr : RdN w w.heap.size A xs) (hA : A = none → c = 0) (h0 : m0 ≤ 1000) (h1 : n ≤ 1000) (hbase : base ≤ w.heap.size) (N : Nat) (hN : m0 + n = N)
    (h : ∀ A' c' w', w'.ownsRow base 70 5 (.slice A' N c') N (flatN (ps ++ xs)) → w.grownBy w' v.ownBlock → wpList Tryz.prog ops Q rest (a.put o.dst (.slice A' N c')) w') :
    wpList Tryz.prog ops Q (o :: rest) a w := by
  subst hN
  refine wpList_plain hgd fun K hK => ?_
  obtain ⟨A', c', w', hr', h2, h3⟩ := run_app_Ns o.type base v ps m0 hown hlen A n c xs hn hr hA h0 h1 hbase
  unfold Oper.wp execOp
  simp only [ho, resolve, invoke, builtin, Sem.run_bind, Sem.run_pure, Result.andThen_ok, List.map_toArray, List.map_cons, List.map_nil, hs, hx, hr']
  exact hK _ _ (h A' c' w' h2 h3)
theorem ownsN_empty {w : World} {q B : Nat} (hq : w.heap[q]? = some (.cells #[] 70 (0, 0))) (h : B ≤ q) : w.ownsRow B 70 5 (.slice (some ⟨q, 0, Option.none⟩) 0 0) 0 (flatN []) :=
  ⟨rfl, .inr ⟨q, 0, #[], rfl, h, hq, Nat.le_refl _, Nat.zero_le _, rfl, rfl⟩⟩
theorem ownsN_nil (w : World) (B : Nat) : w.ownsRow B 70 5 (.slice Option.none 0 0) 0 (flatN []) := ⟨rfl, .inl ⟨rfl, rfl⟩⟩

def set5 (L : List Value) (o : Nat) (y : E.Nt) : List Value := ((((L.set o (.int .i64 y.id)).set (o + 1) (.int .i64 y.hour)).set (o + 2) (.int .i64 y.kind)).set (o + 3) (.int .i64 y.player)).set (o + 4) (.int .i64 y.rank)
theorem set5_flat : ∀ (xs : List E.Nt) (k : Nat) (y : E.Nt), set5 (flatN xs) (k * 5) y = flatN (xs.set k y)
  | [], k, y => by simp [flatN, set5]
  | x :: r, 0, y => by
    show set5 (nc x ++ flatN r) 0 y = nc y ++ flatN r
    rfl
  | x :: r, k + 1, y => by
    have ih := set5_flat r k y
    have e : (k + 1) * 5 = k * 5 + 5 := by omega
    rw [e]
    show set5 (nc x ++ flatN r) (k * 5 + 5) y = nc x ++ flatN (r.set k y)
    rw [← ih]
    rfl
theorem set5_take (L : List Value) (o n : Nat) (y : E.Nt) : (set5 L o y).take n = set5 (L.take n) o y := by
  unfold set5
  simp only [List.take_set]
theorem heap_set5 {w : World} {g : Nat} {cur : Array Value} {t : TypeId} (h : w.heap[g]? = some (.cells cur t (0, 0))) (o : Nat) (y : E.Nt) : ∃ cur', (w.setCells g o (nc y)).heap[g]? = some (.cells cur' t (0, 0)) ∧ cur'.toList = set5 cur.toList o y := by
  have h1 := blk_set h o (.int .i64 y.id)
  have h2 := blk_set h1 (o + 1) (.int .i64 y.hour)
  have h3 := blk_set h2 (o + 2) (.int .i64 y.kind)
  have h4 := blk_set h3 (o + 3) (.int .i64 y.player)
  have h5 := blk_set h4 (o + 4) (.int .i64 y.rank)
  refine ⟨_, h5, ?_⟩
  simp only [Array.toList_setIfInBounds]
  rfl
theorem grown_set5 (w : World) (g o : Nat) (y : E.Nt) : w.grownBy (w.setCells g o (nc y)) (some g) := by
  have e : w.setCells g o (nc y) = ((((w.setCell ⟨g, o, Option.none⟩ (.int .i64 y.id)).setCell ⟨g, o + 1, Option.none⟩ (.int .i64 y.hour)).setCell ⟨g, o + 2, Option.none⟩ (.int .i64 y.kind)).setCell ⟨g, o + 3, Option.none⟩ (.int .i64 y.player)).setCell ⟨g, o + 4, Option.none⟩ (.int .i64 y.rank) := rfl
  rw [e]
  exact gr_trans (gr_trans (gr_trans (gr_trans (gr_set _ _ _ _) (gr_set _ _ _ _)) (gr_set _ _ _ _)) (gr_set _ _ _ _)) (gr_set _ _ _ _)
theorem own_set5 {w : World} {base g N c : Nat} {ms : List E.Nt} (h : w.ownsRow base 70 5 (.slice (some ⟨g, 0, Option.none⟩) N c) N (flatN ms)) (hlen : ms.length = N) (k : Nat) (y : E.Nt) : (w.setCells g (k * 5) (nc y)).ownsRow base 70 5 (.slice (some ⟨g, 0, Option.none⟩) N c) N (flatN (ms.set k y)) := by
  obtain ⟨h1, ⟨h2, _⟩ | ⟨g', cap, cur, e, hb, hblk, hc1, hc2, hsz, htk⟩⟩ := h
  · cases h2
  · simp only [Value.slice.injEq, Option.some.injEq, Addr.mk.injEq] at e
    obtain ⟨⟨rfl, _⟩, _, rfl⟩ := e
    obtain ⟨cur', hb', hl'⟩ := heap_set5 hblk (k * 5) y
    refine ⟨by rw [flatN_length, List.length_set, hlen], .inr ⟨g, c, cur', rfl, hb, hb', hc1, hc2, ?_, ?_⟩⟩
    · have : cur'.size = cur.size := by
        rw [← Array.length_toList, hl', ← Array.length_toList]
        unfold set5
        simp only [List.length_set]
      rw [this, hsz]
    · rw [hl', set5_take, htk, set5_flat]
theorem own_there {w : World} {base g N c : Nat} {ms : List E.Nt} (h : w.ownsRow base 70 5 (.slice (some ⟨g, 0, Option.none⟩) N c) N (flatN ms)) {k : Nat} (hk : k < N) : w.there g (k * 5) 5 := by
  obtain ⟨h1, ⟨h2, _⟩ | ⟨g', cap, cur, e, hb, hblk, hc1, hc2, hsz, htk⟩⟩ := h
  · cases h2
  · simp only [Value.slice.injEq, Option.some.injEq, Addr.mk.injEq] at e
    obtain ⟨⟨rfl, _⟩, _, rfl⟩ := e
    intro j hj
    refine ⟨?_, blk_frozen hblk _⟩
    rw [blk_cell hblk]
    have : k * 5 + j < cur.size := by rw [hsz]; have := Nat.mul_le_mul_right 5 (show k + 1 ≤ c by omega); omega
    rw [Array.getElem?_eq_getElem this]
    rfl
theorem nc_one (y : E.Nt) : (nc y).toArray.all (·.oneCell') = true := all_oneCell_toArray (fun v hv => by
  simp only [nc, List.mem_cons, List.not_mem_nil, or_false] at hv
  rcases hv with rfl | rfl | rfl | rfl | rfl <;> rfl)
theorem ntSize : (Tryz.prog.info? 70).map (·.size) = some 5 := by kernel_rfl

end Go.Proofs.YtobjahlmjcnfoaaGreat

namespace Go.Proofs.YtobjahlmjcnfoaaGreat
open Go.RowKit

namespace E
structure PlcAll (f : Fd) (h : Int) (l : List Nt) (M C O B : List Int) (P : Int) : Prop where
  open_ : 0 ≤ P
  wilds : (C.length : Int) ≤ f.wilds
  nodup : (M ++ C ++ O).Nodup
  guards : cntG f h l M ≤ f.guards
  sum : (M.length : Int) + P = f.places + (if f.freeze < h then ((B.filter (fun k => !C.contains k)).length : Int) else 0)
structure PlcOne (f : Fd) (h : Int) (l : List Nt) (M C : List Int) (i : Nat) (k : Int) (s1 s2 : Int) : Prop where
  stand : StandVal f l h k = .tuple #[.int .i64 s1, .int .i64 s2, .int .i64 0]
  quit : ∀ x ∈ l, ¬ (x.player = k ∧ x.kind = 4 ∧ x.hour ≤ h)
  ent : s1 ≠ 2 → (entF f h k l).hour ≤ 9999
end E
end Go.Proofs.YtobjahlmjcnfoaaGreat

namespace Go.Proofs.YtobjahlmjcnfoaaGreat
open Go.RowKit

namespace E
end E

theorem step_store_mid {P : Program} {w : World} {ops : Array Oper} {o : Oper} {a : Act} {K : Act → World → Prop} {Q : Exit → Act → World → Prop} {E : Prop} (hgd : o.guard = none) (ty : TypeId) (x y : Operand) (ho : o.op = .store ty x y)
    (b off : Nat) (cells : Array Value) (hx : a.eval x = .pointer (some ⟨b, off, none⟩)) (hy : a.eval y = .agg cells) (ht : w.there b off cells.size) (hi : (P.info? ty).map (·.size) = some cells.size) (h1 : cells.all (·.oneCell') = true)
    (h : K (a.put o.dst undef) (w.setCells b off cells.toList)) : if Region.wanted o (yielded ops a.tmps) = true then Oper.wp P o a w K Q else E := by
  have hw : Region.wanted o (yielded ops a.tmps) = true := by simp [Region.wanted, hgd]
  rw [if_pos hw]
  exact wp_store_mid ty x y ho b off cells hx hy ht hi h1 h
theorem own_form5 {w : World} {base N c : Nat} {A : Option Addr} {ms : List E.Nt} (h : w.ownsRow base 70 5 (.slice A N c) N (flatN ms)) (hN : 0 < N) : ∃ g, A = some ⟨g, 0, none⟩ := by
  obtain ⟨g, e, _⟩ := own_slice h hN
  exact ⟨g, e⟩
end Go.Proofs.YtobjahlmjcnfoaaGreat

namespace Go.Proofs.YtobjahlmjcnfoaaGreat
open Go.RowKit Go.Sort
attribute [local go_sem ↓] Go.wp_at_zero Go.wp_at_succ

def pc (p : E.Rp) : List Value := [.int .i64 p.player, .int .i64 p.rank, .bool p.grd, .bool p.ent, .bool p.quit, .bool p.sgn, .bool p.card]
def flatP (xs : List E.Rp) : List Value := xs.flatMap pc
def RdP (w : World) (B : Nat) (A : Option Addr) (xs : List E.Rp) : Prop :=
  ∀ (k : Nat) (p : E.Rp), xs[k]? = some p → ∃ b o : Nat, A = some ⟨b, o, none⟩ ∧ b < B ∧ w.cell? ⟨b, o + k * 7, none⟩ = some (.int .i64 p.player) ∧ w.cell? ⟨b, o + k * 7 + 1, none⟩ = some (.int .i64 p.rank) ∧ w.cell? ⟨b, o + k * 7 + 2, none⟩ = some (.bool p.grd) ∧ w.cell? ⟨b, o + k * 7 + 3, none⟩ = some (.bool p.ent) ∧ w.cell? ⟨b, o + k * 7 + 4, none⟩ = some (.bool p.quit) ∧ w.cell? ⟨b, o + k * 7 + 5, none⟩ = some (.bool p.sgn) ∧ w.cell? ⟨b, o + k * 7 + 6, none⟩ = some (.bool p.card)
theorem RdP.below {w w' : World} {B : Nat} {A : Option Addr} {xs : List E.Rp} (h : RdP w B A xs) (hb : Below B w w') : RdP w' B A xs := fun k p hk => by
  obtain ⟨b, o, e, hB, c0, c1, c2, c3, c4, c5, c6⟩ := h k p hk
  exact ⟨b, o, e, hB, (hb.cell (p := ⟨b, _, none⟩) hB).trans c0, (hb.cell (p := ⟨b, _, none⟩) hB).trans c1, (hb.cell (p := ⟨b, _, none⟩) hB).trans c2, (hb.cell (p := ⟨b, _, none⟩) hB).trans c3, (hb.cell (p := ⟨b, _, none⟩) hB).trans c4, (hb.cell (p := ⟨b, _, none⟩) hB).trans c5, (hb.cell (p := ⟨b, _, none⟩) hB).trans c6⟩
theorem RdP.mono {w : World} {B B' : Nat} {A : Option Addr} {xs : List E.Rp} (h : RdP w B A xs) (hB : B ≤ B') : RdP w B' A xs := fun k p hk => by
  obtain ⟨b, o, e, h1, r⟩ := h k p hk
  exact ⟨b, o, e, by omega, r⟩
theorem RdP.nil (w : World) (B : Nat) (A : Option Addr) : RdP w B A [] := fun k p h => by simp at h
theorem flatP_length (xs : List E.Rp) : (flatP xs).length = xs.length * 7 := by
  induction xs with
  | nil => rfl
  | cons a r ih =>
    have : flatP (a :: r) = pc a ++ flatP r := rfl
    rw [this, List.length_append, ih, List.length_cons]
    show 7 + _ = _
    omega
theorem flatP_app (l r : List E.Rp) : flatP (l ++ r) = flatP l ++ flatP r := by unfold flatP; simp
theorem flatP_one (xs : List E.Rp) : ∀ u ∈ flatP xs, u.oneCell' = true := by
  intro u hu
  obtain ⟨p, _, hp⟩ := List.mem_flatMap.1 hu
  simp only [pc, List.mem_cons, List.not_mem_nil, or_false] at hp
  rcases hp with rfl | rfl | rfl | rfl | rfl | rfl | rfl <;> rfl
theorem flatP_at : ∀ (xs : List E.Rp) (k : Nat) (p : E.Rp) (i : Nat), xs[k]? = some p → i < 7 → (flatP xs)[k * 7 + i]? = (pc p)[i]?
  | a :: r, 0, p, i, h, hi => by
    have e : a = p := Option.some.inj h
    subst e
    show (pc a ++ flatP r)[0 * 7 + i]? = _
    rw [Nat.zero_mul, Nat.zero_add, List.getElem?_append_left (by show i < 7; exact hi)]
  | a :: r, k + 1, p, i, h, hi => by
    have h' : r[k]? = some p := h
    show (pc a ++ flatP r)[(k + 1) * 7 + i]? = _
    rw [List.getElem?_append_right (by show 7 ≤ _; omega)]
    have e : (k + 1) * 7 + i - (pc a).length = k * 7 + i := by show (k + 1) * 7 + i - 7 = _; omega
    rw [e]
    exact flatP_at r k p i h' hi
theorem owns_RdP {w : World} {base : Nat} {A : Option Addr} {n c : Nat} {xs : List E.Rp} (h : w.ownsRow base 57 7 (.slice A n c) n (flatP xs)) (hn : xs.length = n) : RdP w w.heap.size A xs := by
  intro k p hk
  have hkl : k < n := by rw [← hn]; exact (List.getElem?_eq_some_iff.1 hk).1
  obtain ⟨g, cap, e, hbg, hh⟩ := h.form (by omega)
  have e' : A = some ⟨g, 0, none⟩ ∧ c = cap := by
    simp only [Value.slice.injEq] at e
    exact ⟨e.1, e.2.2⟩
  obtain ⟨rfl, rfl⟩ := e'
  have at_ : ∀ i, i < 7 → w.cell? ⟨g, 0 + k * 7 + i, none⟩ = (pc p)[i]? := fun i hi => by
    rw [Nat.zero_add, h.cellAt (k * 7 + i) (by have := Nat.mul_le_mul_right 7 (show k + 1 ≤ n by omega); omega)]
    exact flatP_at xs k p i hk hi
  exact ⟨g, 0, rfl, (h.lt g rfl).2, at_ 0 (by omega), at_ 1 (by omega), at_ 2 (by omega), at_ 3 (by omega), at_ 4 (by omega), at_ 5 (by omega), at_ 6 (by omega)⟩

set_option maxHeartbeats 1600000 in
theorem In_any (A : Option Addr) (n c : Nat) (xs : List Int) (y : Int) (w : World) (hn : xs.length = n) (hr : RdI w w.heap.size A xs) (hm : n ≤ 1000000) :
    Calls Tryz.prog 21 #[.slice A n c, .int .i64 y] w fun e w' => e = .returned (.bool (xs.contains y)) ∧ w = w' := by
  have HN := hide hn
  have HR := hide hr
  obtain ⟨q, hq⟩ : ∃ q, xs.contains y = q := ⟨_, rfl⟩
  rw [hq]
  have HQ := hide hq
  clear hn hr hq
  go_enter Tryz.func21, Tryz.ntmps21
  go_wp2_with fail
  go_loop [5] (fun i => ∃ k : Nat, k ≤ n ∧ i = .int .i64 k ∧ Hid (∀ j, j < k → xs[j]? ≠ some y)) (fun i => n - (intOf i).toNat)
  case atStart => exact ⟨0, by omega, rfl, hide (fun j hj => by omega)⟩
  case round =>
    obtain ⟨k, hk, rfl, HZ⟩ := hrel
    by_cases hlt : k < n
    · obtain ⟨x, hx⟩ : ∃ q, xs[k]? = some q := ⟨_, List.getElem?_eq_getElem (by have := HN.out; omega)⟩
      obtain ⟨b, o, hA, hbB, c0⟩ := HR.out k x hx
      subst hA
      have HX := hide hx
      clear hx
      have hlt' : (k : Int) < (n : Int) := by omega
      have hk0 : (0 : Int) ≤ (k : Int) := by omega
      cases h0 : (x == y)
      · have HX0 := hide (show x ≠ y by simpa using h0)
        go_wp2_with fail
        go_round
        case rel => exact ⟨k + 1, by omega, by go_num, hide (fun j hj => by
          rcases Nat.lt_or_ge j k with h | h
          · exact HZ.out j h
          · have : j = k := by omega
            rw [this, HX.out]
            intro e
            exact HX0.out (Option.some.inj e))⟩
        case measure => simp [intOf]; omega
      · have HX0 := hide (show x = y by simpa using h0)
        go_wp2_with fail
        go_ret
        have hq : q = true := HQ.out.symm.trans (by rw [List.contains_eq_mem, decide_eq_true_eq, ← HX0.out]; exact List.mem_of_getElem? HX.out)
        subst hq
        exact ⟨rfl, rfl⟩
    · have hkn : k = n := by omega
      subst hkn
      go_wp2_with fail
      go_ret
      have hq : q = false := HQ.out.symm.trans (by
        rw [List.contains_eq_mem, decide_eq_false_iff_not]
        intro hmem
        obtain ⟨j, hj⟩ := List.mem_iff_getElem?.1 hmem
        exact HZ.out j (by have := (List.getElem?_eq_some_iff.1 hj).1; have := HN.out; omega) hj)
      subst hq
      exact ⟨rfl, rfl⟩


theorem idx_hit {xs : List Int} {y : Int} {k : Nat} (h : ∀ j, j < k → xs[j]? ≠ some y) (hk : xs[k]? = some y) : E.idx xs y = (k : Int) := by
  unfold E.idx
  have : xs.findIdx? (· == y) = some k := by
    rw [List.findIdx?_eq_some_iff_getElem]
    obtain ⟨h1, h2⟩ := List.getElem?_eq_some_iff.1 hk
    refine ⟨h1, by simp [h2], fun j hj => ?_⟩
    simp only [beq_iff_eq]
    intro e
    exact h j hj (by rw [List.getElem?_eq_getElem (by omega), e])
  rw [this]
theorem idx_miss {xs : List Int} {y : Int} (h : ∀ j, j < xs.length → xs[j]? ≠ some y) : E.idx xs y = -1 := E.idx_no fun hm => by
  obtain ⟨j, hj⟩ := List.mem_iff_getElem?.1 hm
  exact h j (List.getElem?_eq_some_iff.1 hj).1 hj
set_option maxHeartbeats 1600000 in
theorem place_any (A : Option Addr) (n c : Nat) (xs : List Int) (y : Int) (w : World) (hn : xs.length = n) (hr : RdI w w.heap.size A xs) (hm : n ≤ 1000000) :
    Calls Tryz.prog 43 #[.slice A n c, .int .i64 y] w fun e w' => e = .returned (.int .i64 (E.idx xs y + 1)) ∧ w = w' := by
  have HN := hide hn
  have HR := hide hr
  clear hn hr
  go_enter Tryz.func43, Tryz.ntmps43
  go_wp2_with fail
  go_loop [5] (fun i => ∃ k : Nat, k ≤ n ∧ i = .int .i64 k ∧ Hid (∀ j, j < k → xs[j]? ≠ some y)) (fun i => n - (intOf i).toNat)
  case atStart => exact ⟨0, by omega, rfl, hide (fun j hj => by omega)⟩
  case round =>
    obtain ⟨k, hk, rfl, HZ⟩ := hrel
    by_cases hlt : k < n
    · obtain ⟨x, hx⟩ : ∃ q, xs[k]? = some q := ⟨_, List.getElem?_eq_getElem (by have := HN.out; omega)⟩
      obtain ⟨b, o, hA, hbB, c0⟩ := HR.out k x hx
      subst hA
      have HX := hide hx
      clear hx
      have hlt' : (k : Int) < (n : Int) := by omega
      have hk0 : (0 : Int) ≤ (k : Int) := by omega
      cases h0 : (x == y)
      · have HX0 := hide (show x ≠ y by simpa using h0)
        go_wp2_with fail
        go_round
        case rel => exact ⟨k + 1, by omega, by go_num, hide (fun j hj => by
          rcases Nat.lt_or_ge j k with h | h
          · exact HZ.out j h
          · have : j = k := by omega
            rw [this, HX.out]
            intro e
            exact HX0.out (Option.some.inj e))⟩
        case measure => simp [intOf]; omega
      · have HX0 := hide (show x = y by simpa using h0)
        go_wp2_with fail
        go_ret
        exact ⟨(show _ = Ending.returned (.int .i64 ((k : Int) + 1)) from rfl).trans (by rw [idx_hit HZ.out (by rw [HX.out, HX0.out])]), rfl⟩
    · have hkn : k = n := by omega
      subst hkn
      go_wp2_with fail
      go_ret
      exact ⟨by rw [idx_miss (fun j hj => HZ.out j (by have := HN.out; omega))]; rfl, rfl⟩

set_option maxHeartbeats 1600000 in
theorem without_any (A : Option Addr) (n c : Nat) (xs : List Int) (y : Int) (w : World) (hn : xs.length = n) (hr : RdI w w.heap.size A xs) (hm : n ≤ 900) :
    Calls Tryz.prog 75 #[.slice A n c, .int .i64 y] w fun e w' => ∃ A' c', e = .returned (.slice A' (xs.filter fun k => k != y).length c') ∧ w'.ownsRow w.heap.size 3 1 (.slice A' (xs.filter fun k => k != y).length c') (xs.filter fun k => k != y).length (flatI (xs.filter fun k => k != y)) ∧ Below w.heap.size w w' := by
  have HN := hide hn
  have HR := hide hr
  clear hn hr
  go_enter Tryz.func75, Tryz.ntmps75
  go_wp2_with fail
  go_loopw [5, 6] (fun bf i wr => ∃ (k : Nat) (A2 : Option Addr) (m c2 : Nat), k ≤ n ∧ bf = .slice A2 m c2 ∧ i = .int .i64 k ∧ Hid (m = ((xs.take k).filter fun k => k != y).length) ∧ Hid (wr.ownsRow w.heap.size 3 1 (.slice A2 m c2) m (flatI ((xs.take k).filter fun k => k != y))) ∧ Hid (Below w.heap.size w wr)) (fun _ i _ => n - (intOf i).toNat)
  case atStart => exact ⟨0, none, 0, 0, by omega, rfl, rfl, hide rfl, hide ⟨rfl, .inl ⟨rfl, rfl⟩⟩, hide (Below.refl _ _)⟩
  case round =>
    obtain ⟨k, A2, m, c2, hk, rfl, rfl, HM, HO, HB⟩ := hrel
    by_cases hlt : k < n
    · obtain ⟨x, hx⟩ : ∃ q, xs[k]? = some q := ⟨_, List.getElem?_eq_getElem (by have := HN.out; omega)⟩
      obtain ⟨b, o, hA, hbB, c0⟩ := (HR.out.below HB.out) k x hx
      subst hA
      have htk : xs.take (k + 1) = xs.take k ++ [x] := by rw [List.take_add_one, hx]; rfl
      have HTK := hide htk
      have HX := hide hx
      have hm9 : m ≤ 900 := by have h1 := List.length_filter_le (fun k => k != y) (xs.take k); have h2 := HM.out; rw [List.length_take] at h1; omega
      have hlw : b < wr.heap.size := Nat.lt_of_lt_of_le hbB HB.out.size
      clear hx htk
      have hlt' : (k : Int) < (n : Int) := by omega
      have hk0 : (0 : Int) ≤ (k : Int) := by omega
      cases h0 : (x != y)
      · have HX0 := hide h0
        go_wp2_with fail
        go_roundw
        case rel => exact ⟨k + 1, A2, m, c2, by omega, rfl, by go_num, hide (by rw [HTK.out, List.filter_append, List.filter_cons_of_neg (by rw [HX0.out]; decide), List.length_append, HM.out]; rfl), hide (by rw [HTK.out, List.filter_append, List.filter_cons_of_neg (by rw [HX0.out]; decide), List.filter_nil, List.append_nil]; exact HO.out), HB⟩
        case measure => simp [intOf]; omega
      · have HX0 := hide h0
        go_wp2_with (at_builtin; refine wpList_app_at rfl (.tmp 19) (.tmp 24) rfl w.heap.size (.slice A2 m c2) ((xs.take k).filter fun k => k != y) m rfl (HO.out.alloc _) (some ⟨_, 0, none⟩) 1 1 [x] rfl rfl (rdI_one (World.alloc_heap_new _ _)) (fun e => by cases e) (by omega) (by omega) (by have := HB.out.size; simp; omega) ?_; intro A3 c3 w9 hown2 hgrow; have HO2 := hide hown2; have HB9 := hide ((zbA HB.out HB.out.size _).trans (grown_below (B := w.heap.size) hgrow (by have := HB.out.size; simp; omega) (fun g hg => (HO.out.lt g hg).1))); clear hown2 hgrow)
        go_roundw
        case rel => exact ⟨k + 1, A3, m + 1, c3, by omega, rfl, by go_num, hide (by rw [HTK.out, List.filter_append, List.filter_cons_of_pos (by rw [HX0.out]), List.length_append, HM.out]; rfl), hide (by rw [HTK.out, List.filter_append, List.filter_cons_of_pos (by rw [HX0.out]), List.filter_nil]; exact HO2.out), HB9⟩
        case measure => simp [intOf]; omega
    · have hkn : k = n := by omega
      subst hkn
      have htk : xs.take k = xs := List.take_of_length_le (by have := HN.out; omega)
      have hmm := HM.out
      rw [htk] at hmm
      subst hmm
      have HO2 := hide HO.out
      rw [htk] at HO2
      clear htk
      go_wp2_with fail
      go_ret
      exact ⟨A2, c2, rfl, HO2.out, HB.out⟩

set_option maxHeartbeats 1600000 in
theorem counts_any (p : E.Rp) (w : World) :
    Calls Tryz.prog 41 #[.agg #[.int .i64 p.player, .int .i64 p.rank, .bool p.grd, .bool p.ent, .bool p.quit, .bool p.sgn, .bool p.card]] w fun e w' => e = .returned (.bool p.counts) ∧ Below w.heap.size w w' := by
  obtain ⟨a, r, g, e, q, s, cd⟩ := p
  unfold E.Rp.counts
  dsimp only
  cases e <;> cases q <;> cases cd <;>
    (go_enter Tryz.func41, Tryz.ntmps41
     go_wp2_with fail
     go_ret
     exact ⟨rfl, by (repeat' first | exact zbR _ _ | assumption | refine zbD ?_ | refine zbA ?_ ?_ _ | refine zbS ?_ ?_ _ | refine zbT ?_ (by assumption) ?_ | (simp; done) | (simp; omega) | omega)⟩)

theorem idxR_hit {ps : List E.Rp} {y : Int} {k : Nat} {p : E.Rp} (h : ∀ j q, j < k → ps[j]? = some q → q.player ≠ y) (hk : ps[k]? = some p) (e : p.player = y) : E.idxR ps y = k := by
  unfold E.idxR
  obtain ⟨h1, h2⟩ := List.getElem?_eq_some_iff.1 hk
  rw [List.findIdx_eq h1]
  refine ⟨by rw [h2]; simp [e], fun j hj => ?_⟩
  have := h j ps[j] hj (List.getElem?_eq_getElem (by omega))
  simpa using this
def atV (ps : List E.Rp) (y : Int) : Int := if ps.any (fun p => p.player == y) then (E.idxR ps y : Int) else -1
set_option maxHeartbeats 1600000 in
theorem at_ref (A : Option Addr) (n c : Nat) (ps : List E.Rp) (A2 : Option Addr) (n2 c2 : Nat) (bk : Int) (A3 : Option Addr) (n3 c3 : Nat) (y : Int) (w : World) (hn : ps.length = n) (hr : RdP w w.heap.size A ps) (hm : n ≤ 1000000) :
    Calls Tryz.prog 25 #[.agg #[.slice A n c, .slice A2 n2 c2, .int .i64 bk, .slice A3 n3 c3], .int .i64 y] w fun e w' => e = .returned (.int .i64 (atV ps y)) ∧ Below w.heap.size w w' := by
  have HN := hide hn
  have HR := hide hr
  clear hn hr
  go_enter Tryz.func25, Tryz.ntmps25
  go_upto_region 1 with fail
  obtain ⟨w0, hw0⟩ : ∃ q, w.alloc (.cells #[.slice A n c, .slice A2 n2 c2, .int .i64 bk, .slice A3 n3 c3] 53) = q := ⟨_, rfl⟩
  have HB0 := hide (show Below w.heap.size w w0 by rw [← hw0]; (repeat' first | exact zbR _ _ | assumption | refine zbD ?_ | refine zbA ?_ ?_ _ | refine zbS ?_ ?_ _ | refine zbT ?_ (by assumption) ?_ | (simp; done) | (simp; omega) | omega))
  have HF0 := hide (show w0.heap[w.heap.size]? = some (.cells #[.slice A n c, .slice A2 n2 c2, .int .i64 bk, .slice A3 n3 c3] 53 (0, 0)) by rw [← hw0]; exact World.alloc_heap_new _ _)
  rw [hw0]
  clear hw0
  have HR0 := hide (HR.out.below HB0.out)
  have y0 : w0.cell? ⟨w.heap.size, 0, none⟩ = some (.slice A n c) := (blk_cell HF0.out 0).trans rfl
  have l0 := blk_lt HF0.out
  go_wp2_with fail
  go_loop [5] (fun i => ∃ k : Nat, k ≤ n ∧ i = .int .i64 k ∧ Hid (∀ j q, j < k → ps[j]? = some q → q.player ≠ y)) (fun i => n - (intOf i).toNat)
  case atStart => exact ⟨0, by omega, rfl, hide (fun j q hj => by omega)⟩
  case round =>
    obtain ⟨k, hk, rfl, HZ⟩ := hrel
    by_cases hlt : k < n
    · obtain ⟨x, hx⟩ : ∃ q, ps[k]? = some q := ⟨_, List.getElem?_eq_getElem (by have := HN.out; omega)⟩
      obtain ⟨b, o, hA, hbB, d0, d1, d2, d3, d4, d5, d6⟩ := HR0.out k x hx
      subst hA
      have HX := hide hx
      clear hx
      have hlt' : (k : Int) < (n : Int) := by omega
      have hk0 : (0 : Int) ≤ (k : Int) := by omega
      cases h0 : (x.player == y)
      · have HX0 := hide (show x.player ≠ y by simpa using h0)
        go_wp2_with fail
        go_round
        case rel => exact ⟨k + 1, by omega, by go_num, hide (fun j q hj hq => by
          rcases Nat.lt_or_ge j k with h | h
          · exact HZ.out j q h hq
          · have : j = k := by omega
            rw [this, HX.out] at hq
            rw [← Option.some.inj hq]
            exact HX0.out)⟩
        case measure => simp [intOf]; omega
      · have HX0 := hide (show x.player = y by simpa using h0)
        go_wp2_with fail
        go_ret
        refine ⟨(show _ = Ending.returned (.int .i64 (k : Int)) from rfl).trans ?_, HB0.out⟩
        unfold atV
        rw [if_pos (List.any_eq_true.2 ⟨x, List.mem_of_getElem? HX.out, by simp [HX0.out]⟩), idxR_hit HZ.out HX.out HX0.out]
    · have hkn : k = n := by omega
      subst hkn
      go_wp2_with fail
      go_ret
      refine ⟨(show _ = Ending.returned (.int .i64 (-1)) from rfl).trans ?_, HB0.out⟩
      unfold atV
      rw [if_neg (fun hh => by
        obtain ⟨q, hq, e⟩ := List.any_eq_true.1 hh
        obtain ⟨j, hj⟩ := List.mem_iff_getElem?.1 hq
        exact HZ.out j q (by have := (List.getElem?_eq_some_iff.1 hj).1; have := HN.out; omega) hj (by simpa using e))]

end Go.Proofs.YtobjahlmjcnfoaaGreat

namespace Go.Proofs.YtobjahlmjcnfoaaGreat
open Go.RowKit Go.Sort

theorem person_info : (Tryz.prog.info? 57).map (fun i => (i.zero, i.size, i.bytes)) = some (some (.agg #[.int .i64 0, .int .i64 0, .bool false, .bool false, .bool false, .bool false, .bool false]), 7, 24) := by kernel_rfl
theorem flatP_div {xs : List E.Rp} {j : Nat} {u : Value} (h : (flatP xs)[j]? = some u) : ∃ x, xs[j / 7]? = some x ∧ (pc x)[j % 7]? = some u := by
  have hj : j < xs.length * 7 := by rw [← flatP_length]; exact (List.getElem?_eq_some_iff.1 h).1
  have hk : j / 7 < xs.length := by omega
  refine ⟨xs[j / 7], List.getElem?_eq_getElem hk, ?_⟩
  rw [← flatP_at xs (j / 7) _ (j % 7) (List.getElem?_eq_getElem hk) (by omega), ← h]
  congr 1
  omega
theorem RdP.cellAt {w : World} {B : Nat} {ad : Addr} {xs : List E.Rp} (h : RdP w B (some ad) xs) {j : Nat} {u : Value} (hj : (flatP xs)[j]? = some u) : w.cell? (ad.add j) = some u := by
  obtain ⟨x, hx, hu⟩ := flatP_div hj
  obtain ⟨b, o, e, _, c0, c1, c2, c3, c4, c5, c6⟩ := h (j / 7) x hx
  have e' := Option.some.inj e
  subst e'
  rw [add_plain]
  have hm : j % 7 < 7 := by omega
  have hd : o + j = o + j / 7 * 7 + j % 7 := by omega
  rw [hd]
  unfold pc at hu
  match hq : j % 7, hm with
  | 0, _ => rw [hq] at hu; rw [← Option.some.inj hu]; exact c0
  | 1, _ => rw [hq] at hu; rw [← Option.some.inj hu]; exact c1
  | 2, _ => rw [hq] at hu; rw [← Option.some.inj hu]; exact c2
  | 3, _ => rw [hq] at hu; rw [← Option.some.inj hu]; exact c3
  | 4, _ => rw [hq] at hu; rw [← Option.some.inj hu]; exact c4
  | 5, _ => rw [hq] at hu; rw [← Option.some.inj hu]; exact c5
  | 6, _ => rw [hq] at hu; rw [← Option.some.inj hu]; exact c6
theorem run_app_Ps {w : World} (ty : TypeId) (base : Nat) (v : Value) (ps : List E.Rp) (m0 : Nat) (hown : w.ownsRow base 57 7 v m0 (flatP ps)) (hlen : ps.length = m0)
    (A : Option Addr) (n c : Nat) (xs : List E.Rp) (hn : xs.length = n) (hr : RdP w w.heap.size A xs) (hA : A = none → c = 0) (h0 : m0 ≤ 1000) (h1 : n ≤ 1000) (hbase : base ≤ w.heap.size) :
    ∃ A' c' w', (Builtin.append_ #[51, 51] ty #[v, .slice A n c]).run Tryz.prog w = .ok (.slice A' (m0 + n) c') w' ∧ w'.ownsRow base 57 7 (.slice A' (m0 + n) c') (m0 + n) (flatP (ps ++ xs)) ∧ w.grownBy w' v.ownBlock := by
  obtain ⟨i, hi, hz0, hz1, hz2⟩ := info_parts person_info
  rcases A with _ | ad
  · have hx0 : xs = [] := by
      match xs, hr with
      | [], _ => rfl
      | x :: r, hr => obtain ⟨_, _, e, _⟩ := hr 0 x rfl; cases e
    subst hx0
    have hn0 : n = 0 := by simpa using hn.symm
    subst hn0
    have hc0 := hA rfl
    subst hc0
    obtain ⟨A', c', rfl⟩ := own_form hown
    have hrun := run_append_owned_none (P := Tryz.prog) (w := w) base 51 ty 57 i 7 Tryz.underlying51 hi (.slice A' m0 c') m0 (flatP ps) hown
    exact ⟨A', c', w, hrun, by simpa using hown, World.grownBy.refl w _⟩
  · obtain ⟨v', w', hrun, h2, h3, _, _⟩ := run_append_own_at (P := Tryz.prog) w base 51 ty 57 i _ 7 24 Tryz.underlying51 hi hz0 hz1 hz2 (by rfl) (by decide) v m0 (flatP ps) hown ad n c (flatP xs) (by rw [flatP_length, hn]) (by
      intro j u hj
      exact hr.cellAt hj) (flatP_one xs) (by unfold maxLen; omega) (by omega) hbase
    obtain ⟨A', c', rfl⟩ := own_form h2
    exact ⟨A', c', w', hrun, by rw [flatP_app]; exact h2, h3⟩
theorem step_app_Ps {w : World} {ops : Array Oper} {o : Oper} {a : Act} {K : Act → World → Prop} {Q : Exit → Act → World → Prop} {E' : Prop} (hgd : o.guard = none) (s x : Operand)
    (ho : o.op = .call { callee := .builtin .append, args := #[s, x], argTypes := #[51, 51] }) (base : Nat) (v : Value) (ps : List E.Rp) (m0 : Nat) (hs : a.eval s = v) (hown : w.ownsRow base 57 7 v m0 (flatP ps)) (hlen : ps.length = m0)
    (A : Option Addr) (n c : Nat) (xs : List E.Rp) (hx : a.eval x = .slice A n c) (hn : xs.length = n) (hr : RdP w w.heap.size A xs) (hA : A = none → c = 0) (h0 : m0 ≤ 1000) (h1 : n ≤ 1000) (hbase : base ≤ w.heap.size) (N : Nat) (hN : m0 + n = N)
    (h : ∀ A' c' w', w'.ownsRow base 57 7 (.slice A' N c') N (flatP (ps ++ xs)) → w.grownBy w' v.ownBlock → K (a.put o.dst (.slice A' N c')) w') :
    if Region.wanted o (yielded ops a.tmps) = true then Oper.wp Tryz.prog o a w K Q else E' := by
  subst hN
  have hw : Region.wanted o (yielded ops a.tmps) = true := by simp [Region.wanted, hgd]
  rw [if_pos hw]
  obtain ⟨A', c', w', hr', h2, h3⟩ := run_app_Ps o.type base v ps m0 hown hlen A n c xs hn hr hA h0 h1 hbase
  unfold Oper.wp execOp
  simp only [ho, resolve, invoke, builtin, Sem.run_bind, Sem.run_pure, Result.andThen_ok, List.map_toArray, List.map_cons, List.map_nil, hs, hx, hr']
  exact h A' c' w' h2 h3
theorem ownsP_empty {w : World} {q B : Nat} (hq : w.heap[q]? = some (.cells #[] 57 (0, 0))) (h : B ≤ q) : w.ownsRow B 57 7 (.slice (some ⟨q, 0, Option.none⟩) 0 0) 0 (flatP []) :=
  ⟨rfl, .inr ⟨q, 0, #[], rfl, h, hq, Nat.le_refl _, Nat.zero_le _, rfl, rfl⟩⟩
theorem ownsP_nil (w : World) (B : Nat) : w.ownsRow B 57 7 (.slice Option.none 0 0) 0 (flatP []) := ⟨rfl, .inl ⟨rfl, rfl⟩⟩
theorem rdP_one {w : World} {q : Nat} {p : E.Rp} (hq : w.heap[q]? = some (.cells (pc p).toArray 57 (0, 0))) : RdP w w.heap.size (some ⟨q, 0, Option.none⟩) [p] := by
  intro k y hk
  match k, hk with
  | 0, hk =>
    have hy : p = y := Option.some.inj hk
    subst hy
    exact ⟨_, 0, rfl, blk_lt hq, (blk_cell hq 0).trans rfl, (blk_cell hq 1).trans rfl, (blk_cell hq 2).trans rfl, (blk_cell hq 3).trans rfl, (blk_cell hq 4).trans rfl, (blk_cell hq 5).trans rfl, (blk_cell hq 6).trans rfl⟩
  | k + 1, hk => cases hk
theorem RdP.take {w : World} {B : Nat} {A : Option Addr} {xs : List E.Rp} (h : RdP w B A xs) (n : Nat) : RdP w B A (xs.take n) := fun k p hk => by
  rw [List.getElem?_take] at hk
  split at hk
  · exact h k p hk
  · cases hk
theorem RdP.drop {w : World} {B b o : Nat} {xs : List E.Rp} (h : RdP w B (some ⟨b, o, Option.none⟩) xs) (n : Nat) : RdP w B (some ⟨b, o + n * 7, Option.none⟩) (xs.drop n) := fun k p hk => by
  rw [List.getElem?_drop] at hk
  obtain ⟨b', o', e, hB, c⟩ := h (n + k) p hk
  simp only [Option.some.injEq, Addr.mk.injEq, and_true] at e
  obtain ⟨rfl, rfl⟩ := e
  have e1 : o + (n + k) * 7 = o + n * 7 + k * 7 := by rw [Nat.add_mul]; omega
  rw [e1] at c
  exact ⟨b, o + n * 7, rfl, hB, c⟩

def ordF (ps : List E.Rp) : List E.Rp := (ps.filter E.Rp.counts).foldl (fun out p => E.rins p out) []
def OrderP : Prop := ∀ (An : Option Addr) (nn cn : Nat) (ps : List E.Rp) (A2 : Option Addr) (n2 c2 : Nat) (bk : Int) (A3 : Option Addr) (n3 c3 : Nat) (w : World), ps.length = nn → RdP w w.heap.size An ps → nn ≤ 400 →
    Calls Tryz.prog 20 #[.agg #[.slice An nn cn, .slice A2 n2 c2, .int .i64 bk, .slice A3 n3 c3]] w fun e w' => ∃ A m c, e = .returned (.slice A m c) ∧ (ordF ps).length = m ∧ w'.ownsRow w.heap.size 57 7 (.slice A m c) m (flatP (ordF ps)) ∧ Below w.heap.size w w'
theorem rins_length (p : E.Rp) (out : List E.Rp) : (E.rins p out).length = out.length + 1 := by
  rw [(E.rins_perm p out).length_eq, List.length_append]; rfl
theorem ordF_length : ∀ ps : List E.Rp, (ordF ps).length ≤ ps.length := by
  intro ps
  have key : ∀ (l out : List E.Rp), (l.foldl (fun out p => E.rins p out) out).length = out.length + l.length := by
    intro l
    induction l with
    | nil => intro out; simp
    | cons a r ih => intro out; rw [List.foldl_cons, ih, rins_length, List.length_cons]; omega
  unfold ordF
  rw [key]
  have := List.length_filter_le E.Rp.counts ps
  simp; omega

namespace E
theorem scan_step {ps : List Rp} {r : Int} {k : Nat} {q : Rp} (hq : ps[k]? = some q) : k + (ps.drop k).findIdx (before r) = if before r q = true then k else k + 1 + (ps.drop (k + 1)).findIdx (before r) := by
  obtain ⟨h1, h2⟩ := List.getElem?_eq_some_iff.1 hq
  rw [List.drop_eq_getElem_cons h1, h2, List.findIdx_cons]
  cases before r q <;> simp <;> omega
end E
end Go.Proofs.YtobjahlmjcnfoaaGreat

namespace Go.Proofs.YtobjahlmjcnfoaaGreat
open Go

section
variable {P : Program} {ops : Array Oper} {md : Region.Mode} {w : World}

def upTo (N : Nat) : Nat → Array Bool
  | 0 => Array.replicate N false
  | k + 1 => (upTo N k).setIfInBounds k true
structure GateAt (md : Region.Mode) (ops : Array Oper) (k n : Nat) (listed : Array Bool) : Prop where
  size : listed.size = ops.size
  closed : ∀ j oj, ops[j]? = some oj → listed.getD j false = true → ∀ e ∈ oj.after, Region.binds md e = true → listed.getD e.on false = true
  low : ∀ i, i < k → listed.getD i false = true
  high : ∀ t, n ≤ t → t < ops.size → listed.getD t true = false

theorem GateAt.put {k n i : Nat} {listed : Array Bool} (h : GateAt md ops k n listed) (hi : i ∈ Region.ready md ops listed) (hn : i < n) : GateAt md ops k n (listed.setIfInBounds i true) := by
  obtain ⟨_, oi, ho, hd⟩ := mem_ready.1 hi
  refine ⟨by rw [Array.size_setIfInBounds]; exact h.size, ?_, fun j hj => getD_set_true (h.low j hj), ?_⟩
  · intro j oj hj hl e he hb
    refine getD_set_true ?_
    rcases Nat.decEq i j with hne | heq
    · rw [getD_set_ne false hne] at hl
      exact h.closed j oj hj hl e he hb
    · subst heq
      rw [ho] at hj
      rw [← Option.some.inj hj] at he
      exact hd e he hb
  · intro t ht hs
    rw [getD_set_ne true (by omega)]
    exact h.high t ht hs

end
end Go.Proofs.YtobjahlmjcnfoaaGreat

namespace Go.Proofs.YtobjahlmjcnfoaaGreat
open Go.RowKit Go.Sort
attribute [local go_sem ↓] Go.wp_at_zero Go.wp_at_succ

theorem ordF_step (ps : List E.Rp) (p : E.Rp) : ordF (ps ++ [p]) = if p.counts = true then E.rins p (ordF ps) else ordF ps := by
  unfold ordF
  rw [List.filter_append, List.foldl_append]
  by_cases h : p.counts = true
  · rw [if_pos h, List.filter_cons_of_pos h]; rfl
  · rw [if_neg h, List.filter_cons_of_neg h]; rfl
theorem blk_lt' {w : World} {k : Nat} {ob : Obj} (h : w.heap[k]? = some ob) : k < w.heap.size := (Array.getElem?_eq_some_iff.1 h).1
theorem gr_drewA (u : World) (O : Obj) : u.grownBy (u.alloc O).drew none := ⟨(World.grownBy_alloc u O none).os, (World.grownBy_alloc u O none).tape, (World.grownBy_alloc u O none).output, (World.grownBy_alloc u O none).size, (World.grownBy_alloc u O none).block⟩
theorem capA {K : Act → World → Prop} {a : Act} {u : World} {O : Obj} (h : ∀ W : World, W.heap[u.heap.size]? = some O → (∀ (B : Nat) (w0 : World), Below B w0 u → B ≤ u.heap.size → Below B w0 W) → (∀ (k : Nat) (ob : Obj), u.heap[k]? = some ob → W.heap[k]? = some ob) → u.grownBy W none → K a W) : K a (u.alloc O) :=
  h _ (World.alloc_heap_new u O) (fun _ _ hb hB => zbA hb hB O) (fun k ob hk => (Below.heap_alloc _ _ _ (blk_lt' hk)).trans hk) (World.grownBy_alloc _ _ none)
theorem capAD {K : Act → World → Prop} {a : Act} {u : World} {O : Obj} (h : ∀ W : World, W.heap[u.heap.size]? = some O → (∀ (B : Nat) (w0 : World), Below B w0 u → B ≤ u.heap.size → Below B w0 W) → (∀ (k : Nat) (ob : Obj), u.heap[k]? = some ob → W.heap[k]? = some ob) → u.grownBy W none → K a W) : K a (u.alloc O).drew :=
  h _ (World.alloc_heap_new u O) (fun _ _ hb hB => zbD (zbA hb hB O)) (fun k ob hk => (Below.heap_alloc _ _ _ (blk_lt' hk)).trans hk) (gr_drewA u O)
theorem below_own {w0 u W : World} {e : TypeId} {s n : Nat} {v : Value} {xs : List Value} (h : Below w0.heap.size w0 u) (hown : u.ownsRow w0.heap.size e s v n xs) (hg : u.grownBy W v.ownBlock) : Below w0.heap.size w0 W :=
  h.trans (grown_below hg h.size (fun g hgb => by
    rcases hown.2 with ⟨rfl, _⟩ | ⟨g', cap, cur, rfl, hb, _⟩
    · cases hgb
    · cases hgb; exact hb))
theorem own_cap {w : World} {base : Nat} {e : TypeId} {s n c : Nat} {A : Option Addr} {xs : List Value} (hown : w.ownsRow base e s (.slice A n c) n xs) : n ≤ c := by
  rcases hown.2 with ⟨h, hn⟩ | ⟨g', cap, cur, h, hb, hc, h1, _⟩
  · omega
  · cases h; exact h1
theorem sl_hi {w : World} {base m c a : Nat} {A : Option Addr} {outs : List E.Rp} (hown : w.ownsRow base 57 7 (.slice A m c) m (flatP outs)) (hl : outs.length = m) (ha : a ≤ m) : RdP w w.heap.size (if c = a then A else Option.map (fun x => x.add (a * 7)) A) (outs.drop a) := by
  have h := owns_RdP hown hl
  have hmc := own_cap hown
  by_cases hca : c = a
  · rw [List.drop_eq_nil_of_le (by omega)]
    exact RdP.nil _ _ _
  · rw [if_neg hca]
    rcases hown.2 with ⟨e, hn⟩ | ⟨g, cap, cur, e, _⟩
    · rw [List.drop_eq_nil_of_le (by omega)]
      exact RdP.nil _ _ _
    · cases e
      show RdP w w.heap.size (some ((⟨g, 0, Option.none⟩ : Addr).add (a * 7))) _
      rw [add_plain]
      exact h.drop a
theorem sl_hi_nil {w : World} {base m c a : Nat} {A : Option Addr} {outs : List E.Rp} (hown : w.ownsRow base 57 7 (.slice A m c) m (flatP outs)) : (if c = a then A else Option.map (fun x => x.add (a * 7)) A) = Option.none → c - a = 0 := by
  have h := own_nil hown
  by_cases hca : c = a
  · intro _; omega
  · rw [if_neg hca]
    intro e
    cases A with
    | none => have := h rfl; omega
    | some x => cases e
set_option maxHeartbeats 6400000 in
set_option maxRecDepth 100000 in
theorem order_ref (An : Option Addr) (nn cn : Nat) (ps : List E.Rp) (A2 : Option Addr) (n2 c2 : Nat) (bk : Int) (A3 : Option Addr) (n3 c3 : Nat) (w : World) (hn : ps.length = nn) (hr : RdP w w.heap.size An ps) (hm : nn ≤ 400) :
    Calls Tryz.prog 20 #[.agg #[.slice An nn cn, .slice A2 n2 c2, .int .i64 bk, .slice A3 n3 c3]] w fun e w' => ∃ A m c, e = .returned (.slice A m c) ∧ (ordF ps).length = m ∧ w'.ownsRow w.heap.size 57 7 (.slice A m c) m (flatP (ordF ps)) ∧ Below w.heap.size w w' := by
  have HN := hide hn
  have HR := hide hr
  have HM := hide hm
  clear hn hr hm
  go_enter Tryz.func20, Tryz.ntmps20
  go_upto_region 1 with fail
  obtain ⟨w0, hw0⟩ : ∃ q, w.alloc (.cells #[.slice An nn cn, .slice A2 n2 c2, .int .i64 bk, .slice A3 n3 c3] 53) = q := ⟨_, rfl⟩
  have HB0 := hide (show Below w.heap.size w w0 by rw [← hw0]; (repeat' first | exact zbR _ _ | assumption | refine zbD ?_ | refine zbA ?_ ?_ _ | refine zbS ?_ ?_ _ | refine zbT ?_ (by assumption) ?_ | (simp; done) | (simp; omega) | omega))
  have HF0 := hide (show w0.heap[w.heap.size]? = some (.cells #[.slice An nn cn, .slice A2 n2 c2, .int .i64 bk, .slice A3 n3 c3] 53 (0, 0)) by rw [← hw0]; exact World.alloc_heap_new _ _)
  have HZ0 := hide (show w.heap.size < w0.heap.size by rw [← hw0]; simp)
  rw [hw0]
  clear hw0
  go_wp2_with fail
  go_loopw [3, 4] (fun bf i wr => ∃ (i' : Nat) (A : Option Addr) (m c : Nat) (outs : List E.Rp), i' ≤ nn ∧ bf = .slice A m c ∧ i = .int .i64 i' ∧ Hid (outs.length = m) ∧ Hid (outs = ordF (ps.take i')) ∧ Hid (wr.ownsRow w.heap.size 57 7 (.slice A m c) m (flatP outs)) ∧ Hid (wr.heap[w.heap.size]? = some (.cells #[.slice An nn cn, .slice A2 n2 c2, .int .i64 bk, .slice A3 n3 c3] 53 (0, 0))) ∧ Hid (Below w.heap.size w wr)) (fun _ i _ => nn - (intOf i).toNat)
  case atStart => exact ⟨0, none, 0, 0, [], by omega, rfl, rfl, hide rfl, hide rfl, hide (ownsP_nil _ _), HF0, HB0⟩
  case round =>
    obtain ⟨i, A, m, c, outs, hi, rfl, rfl, HOL, HOE, HO1, HF1, HB1⟩ := hrel
    have hmm := HM.out
    have hol : m ≤ i := by have h1 := ordF_length (ps.take i); rw [← HOE.out, HOL.out, List.length_take] at h1; omega
    have y1 : wr.cell? ⟨w.heap.size, 0, none⟩ = some (.slice An nn cn) := (blk_cell HF1.out 0).trans rfl
    have ly1 := blk_lt HF1.out
    by_cases hin : i < nn
    · obtain ⟨p, hp⟩ : ∃ q, ps[i]? = some q := ⟨_, List.getElem?_eq_getElem (by have := HN.out; omega)⟩
      have HPK := hide hp
      have HTK := hide (show ps.take (i + 1) = ps.take i ++ [p] by rw [List.take_add_one, hp]; rfl)
      obtain ⟨bp, op, hAp, hbp, d0, d1, d2, d3, d4, d5, d6⟩ := (HR.out.below HB1.out) i p hp
      subst hAp
      clear hp
      have hi1 : (i : Int) < (nn : Int) := by omega
      have hi0 : (0 : Int) ≤ (i : Int) := by omega
      obtain ⟨cp, hcp⟩ : ∃ q, p.counts = q := ⟨_, rfl⟩
      have HCP := hide hcp
      clear hcp
      go_upto_region 6 with fail
      obtain ⟨w1, hw1⟩ : ∃ q, wr.alloc (.cells #[.int .i64 p.player, .int .i64 p.rank, .bool p.grd, .bool p.ent, .bool p.quit, .bool p.sgn, .bool p.card] 57) = q := ⟨_, rfl⟩
      have HB2 := hide (show Below w.heap.size w w1 by rw [← hw1]; exact zbA HB1.out HB1.out.size _)
      have HP2 := hide (show w1.heap[wr.heap.size]? = some (.cells (pc p).toArray 57 (0, 0)) by rw [← hw1]; exact World.alloc_heap_new _ _)
      have HF2 := hide (show w1.heap[w.heap.size]? = some (.cells #[.slice (some ⟨bp, op, none⟩) nn cn, .slice A2 n2 c2, .int .i64 bk, .slice A3 n3 c3] 53 (0, 0)) by rw [← hw1]; exact (Below.heap_alloc _ _ _ (blk_lt HF1.out)).trans HF1.out)
      have HO2 := hide (show w1.ownsRow w.heap.size 57 7 (.slice A m c) m (flatP outs) by rw [← hw1]; exact HO1.out.kept (World.grownBy_alloc _ _ none) (Classical.em _))
      have HPL := hide (show w.heap.size ≤ wr.heap.size from HB1.out.size)
      rw [hw1]
      obtain ⟨pb, hpb⟩ : ∃ q, wr.heap.size = q := ⟨_, rfl⟩
      rw [hpb] at HP2 HPL ⊢
      have HPF := hide (show pb ≠ w.heap.size by have := blk_lt HF1.out; omega)
      clear hw1 hpb d0 d1 d2 d3 d4 d5 d6 y1 ly1
      have p20 : w1.cell? ⟨pb, 0, none⟩ = some (.int .i64 p.player) := (blk_cell HP2.out 0).trans rfl
      have p21 : w1.cell? ⟨pb, 1, none⟩ = some (.int .i64 p.rank) := (blk_cell HP2.out 1).trans rfl
      have p22 : w1.cell? ⟨pb, 2, none⟩ = some (.bool p.grd) := (blk_cell HP2.out 2).trans rfl
      have p23 : w1.cell? ⟨pb, 3, none⟩ = some (.bool p.ent) := (blk_cell HP2.out 3).trans rfl
      have p24 : w1.cell? ⟨pb, 4, none⟩ = some (.bool p.quit) := (blk_cell HP2.out 4).trans rfl
      have p25 : w1.cell? ⟨pb, 5, none⟩ = some (.bool p.sgn) := (blk_cell HP2.out 5).trans rfl
      have p26 : w1.cell? ⟨pb, 6, none⟩ = some (.bool p.card) := (blk_cell HP2.out 6).trans rfl
      have lp2 := blk_lt HP2.out
      go_upto_if 22 with (go_at_call 41; refine (counts_any p _).mono ?_; rintro e w2 ⟨rfl, hb2⟩; rw [HCP.out]; have HB3 := hide (zbT HB2.out hb2 HB2.out.size); have HP3 := hide ((hb2.block _ (blk_lt HP2.out)).trans HP2.out); have HF3 := hide ((hb2.block _ (blk_lt HF2.out)).trans HF2.out); have HO3 := hide (owns_below HO2.out hb2); clear hb2)
      clear p20 p21 p22 p23 p24 p25 p26 lp2
      cases cp
      · go_wp2_with fail
        go_roundw
        case rel => exact ⟨i + 1, A, m, c, outs, by omega, rfl, by go_num, HOL, hide (by rw [HTK.out, ordF_step, if_neg (by rw [HCP.out]; decide)]; exact HOE.out), HO3, HF3, HB3⟩
        case measure => simp [intOf]; omega
      · have hm0 : (0 : Int) ≤ (m : Int) := by omega
        have hwm : IntKind.i64.wrap ((m : Int) - 1) = (m : Int) - 1 := IntWalk.i64_in _ (by omega)
        go_wp2_with fail
        clear hwm
        go_loopw [6, 7] (fun aa kk wr => ∃ (kn a : Nat), kn ≤ m ∧ kk = .int .i64 ((kn : Int) - 1) ∧ aa = .int .i64 a ∧ Hid (a = kn + (outs.drop kn).findIdx (E.before p.rank)) ∧ Hid (wr.ownsRow w.heap.size 57 7 (.slice A m c) m (flatP outs)) ∧ Hid (wr.heap[pb]? = some (.cells (pc p).toArray 57 (0, 0))) ∧ Hid (Below w2.heap.size w2 wr)) (fun _ kk _ => (intOf kk + 1).toNat)
        case atStart => exact ⟨m, m, Nat.le_refl _, rfl, rfl, hide (by rw [List.drop_eq_nil_of_le (by have := HOL.out; omega)]; rfl), HO3, HP3, hide (Below.refl _ _)⟩
        case round =>
          clear HO3 HP3
          obtain ⟨kn, a, hkn, rfl, rfl, HAT, HO3, HP3, HBk⟩ := hrel
          by_cases hk0 : kn = 0
          · subst hk0
            have hcm : m ≤ c := own_cap HO3.out
            have hal : a ≤ m := by have := HAT.out; have h2 := List.findIdx_le_length (p := E.before p.rank) (xs := outs.drop 0); rw [List.drop_zero, HOL.out] at h2; rw [List.drop_zero] at this; omega
            have hac : (a : Int) ≤ (c : Int) := by omega
            have ha0 : (0 : Int) ≤ (a : Int) := by omega
            have ham : (a : Int) ≤ (m : Int) := by omega
            go_upto_region 13 with fail
            have HBR := hide (show Below wr.heap.size wr wr from zbR _ _)
            have HLO := hide ((owns_RdP HO3.out HOL.out).take a)
            have HHI := hide (sl_hi HO3.out HOL.out hal)
            have HHN := hide (sl_hi_nil (a := a) HO3.out)
            have hSof : ∀ w' : World, Below wr.heap.size wr w' → Below wr.heap.size wr w' ∧ w'.cell? ⟨pb, 0, none⟩ = some (.int .i64 p.player) ∧ w'.cell? ⟨pb, 1, none⟩ = some (.int .i64 p.rank) ∧ w'.cell? ⟨pb, 2, none⟩ = some (.bool p.grd) ∧ w'.cell? ⟨pb, 3, none⟩ = some (.bool p.ent) ∧ w'.cell? ⟨pb, 4, none⟩ = some (.bool p.quit) ∧ w'.cell? ⟨pb, 5, none⟩ = some (.bool p.sgn) ∧ w'.cell? ⟨pb, 6, none⟩ = some (.bool p.card) := fun w' hb => by have h := (hb.block pb (blk_lt HP3.out)).trans HP3.out; exact ⟨hb, (blk_cell h 0).trans rfl, (blk_cell h 1).trans rfl, (blk_cell h 2).trans rfl, (blk_cell h 3).trans rfl, (blk_cell h 4).trans rfl, (blk_cell h 5).trans rfl, (blk_cell h 6).trans rfl⟩
            have hS : (fun w' => Below wr.heap.size wr w' ∧ w'.cell? ⟨pb, 0, none⟩ = some (.int .i64 p.player) ∧ w'.cell? ⟨pb, 1, none⟩ = some (.int .i64 p.rank) ∧ w'.cell? ⟨pb, 2, none⟩ = some (.bool p.grd) ∧ w'.cell? ⟨pb, 3, none⟩ = some (.bool p.ent) ∧ w'.cell? ⟨pb, 4, none⟩ = some (.bool p.quit) ∧ w'.cell? ⟨pb, 5, none⟩ = some (.bool p.sgn) ∧ w'.cell? ⟨pb, 6, none⟩ = some (.bool p.card)) wr := hSof _ HBR.out
            (try dsimp only at hS)
            refine wp_region_held_drew (S := (fun w' => Below wr.heap.size wr w' ∧ w'.cell? ⟨pb, 0, none⟩ = some (.int .i64 p.player) ∧ w'.cell? ⟨pb, 1, none⟩ = some (.int .i64 p.rank) ∧ w'.cell? ⟨pb, 2, none⟩ = some (.bool p.grd) ∧ w'.cell? ⟨pb, 3, none⟩ = some (.bool p.ent) ∧ w'.cell? ⟨pb, 4, none⟩ = some (.bool p.quit) ∧ w'.cell? ⟨pb, 5, none⟩ = some (.bool p.sgn) ∧ w'.cell? ⟨pb, 6, none⟩ = some (.bool p.card))) (by kernel_rfl) ?_ (fun hD0 => ?_)
            · (try dsimp only); first | assumption | exact hSof _ (zbD HBR.out)
            refine tW ?_ 1 rfl (by kernel_rfl) (fun _ _ _ h => h) (by rfl) (by assumption) ?_ ?_; rotate_left; (focus (intro w hSw; (try dsimp only at hSw); go_simp; try with_reducible rfl)); try simp only [Act.put, zl, z0, z1]
            refine tW ?_ 2 rfl (by kernel_rfl) (fun _ _ _ h => h) (by rfl) (by assumption) ?_ ?_; rotate_left; (focus (intro w hSw; (try dsimp only at hSw); go_simp; try with_reducible rfl)); try simp only [Act.put, zl, z0, z1]
            refine tW ?_ 3 rfl (by kernel_rfl) (fun _ _ _ h => h) (by rfl) (by assumption) ?_ ?_; rotate_left; (focus (intro w hSw; (try dsimp only at hSw); go_simp; try with_reducible rfl)); try simp only [Act.put, zl, z0, z1]
            refine tW ?_ 5 rfl (by kernel_rfl) (fun _ _ _ h => h) (by rfl) (by assumption) ?_ ?_; rotate_left; (focus (intro w hSw; (try dsimp only at hSw); go_simp; try with_reducible rfl)); try simp only [Act.put, zl, z0, z1]
            refine tW ?_ 8 rfl (by kernel_rfl) (fun _ _ _ h => h) (by rfl) (by assumption) ?_ ?_; rotate_left; (focus (intro w hSw; (try dsimp only at hSw); go_simp; try with_reducible rfl)); try simp only [Act.put, zl, z0, z1]
            refine tW ?_ 9 rfl (by kernel_rfl) (fun _ _ _ h => h) (by rfl) (by assumption) ?_ ?_; rotate_left; (focus (intro w hSw; (try dsimp only at hSw); go_simp; try with_reducible rfl)); try simp only [Act.put, zl, z0, z1]
            refine tW ?_ 10 rfl (by kernel_rfl) (fun _ _ _ h => h) (by rfl) (by assumption) ?_ ?_; rotate_left; (focus (intro w hSw; (try dsimp only at hSw); go_simp; try with_reducible rfl)); try simp only [Act.put, zl, z0, z1]
            refine wpAnyH_ready (rs := [0, 6]) (by kernel_rfl) (by simp) ?_; refine consL 0 rfl (fun K hK => ?_) ?_
            (go_simp; (first | refine capA (fun W0 hG hB hk hgr => ?_) | refine capAD (fun W0 hG hB hk hgr => ?_)); have hSn := hSof _ (by first | exact hB _ _ hD0.1 hD0.1.size | exact hB _ _ HBR.out (Nat.le_refl _)); have HQ0 := hide hG; have HQ0L := hide hD0.1.size; (try have HNE := hide (Nat.ne_of_lt (blk_lt HQ6.out))); (try replace HQ6 := hide (hk _ _ HQ6.out)); clear hG hB hk hgr; (try dsimp only at hSn))
            refine hK.out _ _ ?_ (fun hD1 => ?_)
            · (try dsimp only); first | assumption | exact hSof _ (zbD HBR.out)
            clear hK K hD0; try simp only [Act.put, zl, z0, z1]
            refine wpAnyH_ready (rs := [4, 6]) (by kernel_rfl) (by simp) ?_; refine consL 4 rfl (fun K hK => ?_) ?_
            (refine step_app_Ps rfl (.tmp 54) (.tmp 57) rfl wr.heap.size _ [] 0 rfl (ownsP_empty HQ0.out HQ0L.out) rfl _ _ _ (outs.take a) rfl (by rw [List.length_take, HOL.out]; omega) ((HLO.out.below hD1.1).mono hD1.1.size) (own_nil HO3.out) (by omega) (by omega) hD1.1.size _ (Nat.zero_add _) (fun A4 c4 W4 ho4 hg4 => ?_); have hSn := hSof _ (below_own hD1.1 (ownsP_empty HQ0.out HQ0L.out) hg4); have HO4 := hide ho4; (try replace HQ6 := hide ((hg4.block _ (blk_lt HQ6.out) (fun e => HNE.out (Option.some.inj e))).trans HQ6.out)); clear ho4 hg4 HQ0 HQ0L; (try dsimp only [List.nil_append] at hSn HO4))
            refine hK.out _ _ ?_ (fun hD2 => ?_)
            · (try dsimp only); first | assumption | exact hSof _ (zbD HBR.out)
            clear hK K hD1; try simp only [Act.put, zl, z0, z1]
            refine wpAnyH_ready (rs := [6]) (by kernel_rfl) (by simp) ?_; refine consL 6 rfl (fun K hK => ?_) AllReadyH.nil
            (go_simp; (first | refine capA (fun W0 hG hB hk hgr => ?_) | refine capAD (fun W0 hG hB hk hgr => ?_)); have hSn := hSof _ (by first | exact hB _ _ hD2.1 hD2.1.size | exact hB _ _ HBR.out (Nat.le_refl _)); (try have HNE := hide (Nat.ne_of_gt (blk_lt HQ0.out))); have HQ6 := hide (show W0.heap[_]? = some (Obj.cells (pc p).toArray 57 (0, 0)) from hG); (try replace HQ0 := hide (hk _ _ HQ0.out)); (try replace HO4 := hide (HO4.out.kept hgr (Classical.em _))); clear hG hB hk hgr; (try dsimp only at hSn))
            refine hK.out _ _ ?_ (fun hD3 => ?_)
            · (try dsimp only); first | assumption | exact hSof _ (zbD HBR.out)
            clear hK K hD2; try simp only [Act.put, zl, z0, z1]
            refine wpAnyH_ready (rs := [7]) (by kernel_rfl) (by simp) ?_; refine consL 7 rfl (fun K hK => ?_) AllReadyH.nil
            (refine step_app_Ps rfl (.tmp 58) (.tmp 60) rfl wr.heap.size _ (outs.take a) _ rfl HO4.out (by rw [List.length_take, HOL.out]; omega) _ _ _ [p] rfl rfl (rdP_one HQ6.out) (fun e => by cases e) (by omega) (by omega) hD3.1.size (a + 1) rfl (fun A7 c7 W7 ho7 hg7 => ?_); have hSn := hSof _ (below_own hD3.1 HO4.out hg7); have HO7 := hide ho7; clear ho7 hg7 HO4 HQ6; (try dsimp only at hSn))
            refine hK.out _ _ ?_ (fun hD4 => ?_)
            · (try dsimp only); first | assumption | exact hSof _ (zbD HBR.out)
            clear hK K hD3; try simp only [Act.put, zl, z0, z1]
            refine wpAnyH_ready (rs := [11]) (by kernel_rfl) (by simp) ?_; refine consL 11 rfl (fun K hK => ?_) AllReadyH.nil
            (refine step_app_Ps rfl (.tmp 61) (.tmp 64) rfl wr.heap.size _ (outs.take a ++ [p]) _ rfl HO7.out (by rw [List.length_append, List.length_take, HOL.out]; simp; omega) _ _ _ (outs.drop a) rfl (by rw [List.length_drop, HOL.out]) ((HHI.out.below hD4.1).mono hD4.1.size) HHN.out (by omega) (by omega) hD4.1.size (m + 1) (by omega) (fun A11 c11 W11 ho11 hg11 => ?_); have hSn := hSof _ (below_own hD4.1 HO7.out hg11); have HO11 := hide ho11; clear ho11 hg11 HO7; (try dsimp only at hSn))
            refine hK.out _ _ ?_ (fun hD5 => ?_)
            · (try dsimp only); first | assumption | exact hSof _ (zbD HBR.out)
            clear hK K hD4; try simp only [Act.put, zl, z0, z1]
            refine tW ?_ 12 rfl (by kernel_rfl) (fun _ _ _ h => h) (by rfl) (by assumption) ?_ ?_; rotate_left; (focus (intro w hSw; (try dsimp only at hSw); go_simp; try with_reducible rfl)); try simp only [Act.put, zl, z0, z1]
            refine wpAnyH_done (by kernel_rfl) ?_ _
            rotate_left 1
            refine consL 6 rfl (fun K hK => ?_) AllReadyH.nil
            (go_simp; (first | refine capA (fun W0 hG hB hk hgr => ?_) | refine capAD (fun W0 hG hB hk hgr => ?_)); have hSn := hSof _ (by first | exact hB _ _ hD1.1 hD1.1.size | exact hB _ _ HBR.out (Nat.le_refl _)); (try have HNE := hide (Nat.ne_of_gt (blk_lt HQ0.out))); have HQ6 := hide (show W0.heap[_]? = some (Obj.cells (pc p).toArray 57 (0, 0)) from hG); (try replace HQ0 := hide (hk _ _ HQ0.out)); (try replace HO4 := hide (HO4.out.kept hgr (Classical.em _))); clear hG hB hk hgr; (try dsimp only at hSn))
            refine hK.out _ _ ?_ (fun hD2 => ?_)
            · (try dsimp only); first | assumption | exact hSof _ (zbD HBR.out)
            clear hK K hD1; try simp only [Act.put, zl, z0, z1]
            refine wpAnyH_ready (rs := [4]) (by kernel_rfl) (by simp) ?_; refine consL 4 rfl (fun K hK => ?_) AllReadyH.nil
            (refine step_app_Ps rfl (.tmp 54) (.tmp 57) rfl wr.heap.size _ [] 0 rfl (ownsP_empty HQ0.out HQ0L.out) rfl _ _ _ (outs.take a) rfl (by rw [List.length_take, HOL.out]; omega) ((HLO.out.below hD2.1).mono hD2.1.size) (own_nil HO3.out) (by omega) (by omega) hD2.1.size _ (Nat.zero_add _) (fun A4 c4 W4 ho4 hg4 => ?_); have hSn := hSof _ (below_own hD2.1 (ownsP_empty HQ0.out HQ0L.out) hg4); have HO4 := hide ho4; (try replace HQ6 := hide ((hg4.block _ (blk_lt HQ6.out) (fun e => HNE.out (Option.some.inj e))).trans HQ6.out)); clear ho4 hg4 HQ0 HQ0L; (try dsimp only [List.nil_append] at hSn HO4))
            refine hK.out _ _ ?_ (fun hD3 => ?_)
            · (try dsimp only); first | assumption | exact hSof _ (zbD HBR.out)
            clear hK K hD2; try simp only [Act.put, zl, z0, z1]
            refine wpAnyH_ready (rs := [7]) (by kernel_rfl) (by simp) ?_; refine consL 7 rfl (fun K hK => ?_) AllReadyH.nil
            (refine step_app_Ps rfl (.tmp 58) (.tmp 60) rfl wr.heap.size _ (outs.take a) _ rfl HO4.out (by rw [List.length_take, HOL.out]; omega) _ _ _ [p] rfl rfl (rdP_one HQ6.out) (fun e => by cases e) (by omega) (by omega) hD3.1.size (a + 1) rfl (fun A7 c7 W7 ho7 hg7 => ?_); have hSn := hSof _ (below_own hD3.1 HO4.out hg7); have HO7 := hide ho7; clear ho7 hg7 HO4 HQ6; (try dsimp only at hSn))
            refine hK.out _ _ ?_ (fun hD4 => ?_)
            · (try dsimp only); first | assumption | exact hSof _ (zbD HBR.out)
            clear hK K hD3; try simp only [Act.put, zl, z0, z1]
            refine wpAnyH_ready (rs := [11]) (by kernel_rfl) (by simp) ?_; refine consL 11 rfl (fun K hK => ?_) AllReadyH.nil
            (refine step_app_Ps rfl (.tmp 61) (.tmp 64) rfl wr.heap.size _ (outs.take a ++ [p]) _ rfl HO7.out (by rw [List.length_append, List.length_take, HOL.out]; simp; omega) _ _ _ (outs.drop a) rfl (by rw [List.length_drop, HOL.out]) ((HHI.out.below hD4.1).mono hD4.1.size) HHN.out (by omega) (by omega) hD4.1.size (m + 1) (by omega) (fun A11 c11 W11 ho11 hg11 => ?_); have hSn := hSof _ (below_own hD4.1 HO7.out hg11); have HO11 := hide ho11; clear ho11 hg11 HO7; (try dsimp only at hSn))
            refine hK.out _ _ ?_ (fun hD5 => ?_)
            · (try dsimp only); first | assumption | exact hSof _ (zbD HBR.out)
            clear hK K hD4; try simp only [Act.put, zl, z0, z1]
            refine tW ?_ 12 rfl (by kernel_rfl) (fun _ _ _ h => h) (by rfl) (by assumption) ?_ ?_; rotate_left; (focus (intro w hSw; (try dsimp only at hSw); go_simp; try with_reducible rfl)); try simp only [Act.put, zl, z0, z1]
            refine wpAnyH_done (by kernel_rfl) ?_ _
            rotate_left 1
            refine consL 6 rfl (fun K hK => ?_) AllReadyH.nil
            (go_simp; (first | refine capA (fun W0 hG hB hk hgr => ?_) | refine capAD (fun W0 hG hB hk hgr => ?_)); have hSn := hSof _ (by first | exact hB _ _ hD0.1 hD0.1.size | exact hB _ _ HBR.out (Nat.le_refl _)); (try have HNE := hide (Nat.ne_of_gt (blk_lt HQ0.out))); have HQ6 := hide (show W0.heap[_]? = some (Obj.cells (pc p).toArray 57 (0, 0)) from hG); (try replace HQ0 := hide (hk _ _ HQ0.out)); (try replace HO4 := hide (HO4.out.kept hgr (Classical.em _))); clear hG hB hk hgr; (try dsimp only at hSn))
            refine hK.out _ _ ?_ (fun hD1 => ?_)
            · (try dsimp only); first | assumption | exact hSof _ (zbD HBR.out)
            clear hK K hD0; try simp only [Act.put, zl, z0, z1]
            refine wpAnyH_ready (rs := [0]) (by kernel_rfl) (by simp) ?_; refine consL 0 rfl (fun K hK => ?_) AllReadyH.nil
            (go_simp; (first | refine capA (fun W0 hG hB hk hgr => ?_) | refine capAD (fun W0 hG hB hk hgr => ?_)); have hSn := hSof _ (by first | exact hB _ _ hD1.1 hD1.1.size | exact hB _ _ HBR.out (Nat.le_refl _)); have HQ0 := hide hG; have HQ0L := hide hD1.1.size; (try have HNE := hide (Nat.ne_of_lt (blk_lt HQ6.out))); (try replace HQ6 := hide (hk _ _ HQ6.out)); clear hG hB hk hgr; (try dsimp only at hSn))
            refine hK.out _ _ ?_ (fun hD2 => ?_)
            · (try dsimp only); first | assumption | exact hSof _ (zbD HBR.out)
            clear hK K hD1; try simp only [Act.put, zl, z0, z1]
            refine wpAnyH_ready (rs := [4]) (by kernel_rfl) (by simp) ?_; refine consL 4 rfl (fun K hK => ?_) AllReadyH.nil
            (refine step_app_Ps rfl (.tmp 54) (.tmp 57) rfl wr.heap.size _ [] 0 rfl (ownsP_empty HQ0.out HQ0L.out) rfl _ _ _ (outs.take a) rfl (by rw [List.length_take, HOL.out]; omega) ((HLO.out.below hD2.1).mono hD2.1.size) (own_nil HO3.out) (by omega) (by omega) hD2.1.size _ (Nat.zero_add _) (fun A4 c4 W4 ho4 hg4 => ?_); have hSn := hSof _ (below_own hD2.1 (ownsP_empty HQ0.out HQ0L.out) hg4); have HO4 := hide ho4; (try replace HQ6 := hide ((hg4.block _ (blk_lt HQ6.out) (fun e => HNE.out (Option.some.inj e))).trans HQ6.out)); clear ho4 hg4 HQ0 HQ0L; (try dsimp only [List.nil_append] at hSn HO4))
            refine hK.out _ _ ?_ (fun hD3 => ?_)
            · (try dsimp only); first | assumption | exact hSof _ (zbD HBR.out)
            clear hK K hD2; try simp only [Act.put, zl, z0, z1]
            refine wpAnyH_ready (rs := [7]) (by kernel_rfl) (by simp) ?_; refine consL 7 rfl (fun K hK => ?_) AllReadyH.nil
            (refine step_app_Ps rfl (.tmp 58) (.tmp 60) rfl wr.heap.size _ (outs.take a) _ rfl HO4.out (by rw [List.length_take, HOL.out]; omega) _ _ _ [p] rfl rfl (rdP_one HQ6.out) (fun e => by cases e) (by omega) (by omega) hD3.1.size (a + 1) rfl (fun A7 c7 W7 ho7 hg7 => ?_); have hSn := hSof _ (below_own hD3.1 HO4.out hg7); have HO7 := hide ho7; clear ho7 hg7 HO4 HQ6; (try dsimp only at hSn))
            refine hK.out _ _ ?_ (fun hD4 => ?_)
            · (try dsimp only); first | assumption | exact hSof _ (zbD HBR.out)
            clear hK K hD3; try simp only [Act.put, zl, z0, z1]
            refine wpAnyH_ready (rs := [11]) (by kernel_rfl) (by simp) ?_; refine consL 11 rfl (fun K hK => ?_) AllReadyH.nil
            (refine step_app_Ps rfl (.tmp 61) (.tmp 64) rfl wr.heap.size _ (outs.take a ++ [p]) _ rfl HO7.out (by rw [List.length_append, List.length_take, HOL.out]; simp; omega) _ _ _ (outs.drop a) rfl (by rw [List.length_drop, HOL.out]) ((HHI.out.below hD4.1).mono hD4.1.size) HHN.out (by omega) (by omega) hD4.1.size (m + 1) (by omega) (fun A11 c11 W11 ho11 hg11 => ?_); have hSn := hSof _ (below_own hD4.1 HO7.out hg11); have HO11 := hide ho11; clear ho11 hg11 HO7; (try dsimp only at hSn))
            refine hK.out _ _ ?_ (fun hD5 => ?_)
            · (try dsimp only); first | assumption | exact hSof _ (zbD HBR.out)
            clear hK K hD4; try simp only [Act.put, zl, z0, z1]
            refine tW ?_ 12 rfl (by kernel_rfl) (fun _ _ _ h => h) (by rfl) (by assumption) ?_ ?_; rotate_left; (focus (intro w hSw; (try dsimp only at hSw); go_simp; try with_reducible rfl)); try simp only [Act.put, zl, z0, z1]
            refine wpAnyH_done (by kernel_rfl) ?_ _
            all_goals
              clear HBR HLO HHI HHN hSof
              (try dsimp only [Act.put, List.getElem_toArray, List.getElem_cons_succ, List.getElem_cons_zero])
              (try simp only [zl, z0, z1])
              have HBL := hide hSn.1
              have HBW := hide (zbT (zbT HB3.out HBk.out HB3.out.size) HBL.out (Nat.le_trans HB3.out.size HBk.out.size))
              have HFW := hide ((HBL.out.block _ (Nat.lt_of_lt_of_le (blk_lt HF3.out) HBk.out.size)).trans ((HBk.out.block _ (blk_lt HF3.out)).trans HF3.out))
              have HRI := hide (show E.rins p outs = outs.take a ++ [p] ++ outs.drop a by rw [HAT.out, List.drop_zero, Nat.zero_add]; unfold E.rins; rw [List.append_assoc]; rfl)
              clear hSn hS
              go_wp2_with fail
              go_roundw
              case rel => exact ⟨i + 1, A11, m + 1, c11, E.rins p outs, by omega, rfl, by go_num, hide (by rw [rins_length, HOL.out]), hide (by rw [HTK.out, ordF_step, if_pos HCP.out]; exact congrArg _ HOE.out), hide (owns_mono (by rw [HRI.out]; exact HO11.out) (Nat.le_trans HB3.out.size HBk.out.size)), HFW, HBW⟩
              case measure => simp [intOf]; omega
          · obtain ⟨k, rfl⟩ : ∃ k, kn = k + 1 := ⟨kn - 1, by omega⟩
            obtain ⟨q, hq⟩ : ∃ q, outs[k]? = some q := ⟨_, List.getElem?_eq_getElem (by have := HOL.out; omega)⟩
            have HQK := hide hq
            clear hq hk0
            have hkm : k < m := by omega
            rw [show (((k + 1 : Nat) : Int) - 1) = (k : Int) from by omega]
            have hk0 : (0 : Int) ≤ (k : Int) := by omega
            have hk1 : (k : Int) < (m : Int) := by omega
            have hkw : IntKind.i64.wrap ((k : Int) - 1) = (k : Int) - 1 := IntWalk.i64_in _ (by omega)
            have HKW := hide hkw
            go_upto_region 11 with fail
            obtain ⟨a1, hba1⟩ : ∃ b, decide (0 < p.rank) = b := ⟨_, rfl⟩
            have Pa1 := hide hba1
            have Pa1' := hide (show decide (0 < p.rank) = a1 from hba1)
            clear hba1
            cases a1
            · obtain ⟨V, hV⟩ : ∃ V, (wr).drew = V := ⟨_, rfl⟩
              have HB4 := hide (show Below w2.heap.size w2 V by rw [← hV]; exact zbD HBk.out)
              have HOV := hide (show V.ownsRow w.heap.size 57 7 (.slice A m c) m (flatP outs) by rw [← hV]; exact HO3.out)
              have HPV := hide (show V.heap[pb]? = some (.cells (pc p).toArray 57 (0, 0)) by rw [← hV]; exact HP3.out)
              have vp1 : V.cell? ⟨pb, 1, none⟩ = some (.int .i64 p.rank) := (blk_cell HPV.out 1).trans rfl
              have lpv := blk_lt HPV.out
              obtain ⟨bq, oq, hAq, _, q0, q1, q2, q3, q4, q5, q6⟩ := (owns_RdP HOV.out HOL.out) k q HQK.out
              subst hAq
              refine wp_region_still_lit (by kernel_rfl) (by kernel_rfl) ?_
              change wpStill _ _ (wr).drew (fun a' => Exit.then _ _ Exit.normal a' (wr).drew) _ _
              rw [hV]
              clear hV
              iterate 2 (with_reducible refine stTake (v := ?_) (by kernel_rfl) ?_ ?_; rotate_left; (focus (go_simp; (try with_reducible rfl))); (try simp only [Act.put, zl, List.set_cons_zero, List.set_cons_succ]))
              with_reducible refine stTake (v := ?_) (by kernel_rfl) ?_ ?_; rotate_left
              · (go_simp; (try simp only [Pa1.out, Pa1'.out]); (try with_reducible rfl))
              (try simp only [Act.put, zl, List.set_cons_zero, List.set_cons_succ])
              with_reducible refine stTake (v := ?_) (by kernel_rfl) ?_ ?_; rotate_left; (focus (go_simp; (try with_reducible rfl))); (try simp only [Act.put, zl, List.set_cons_zero, List.set_cons_succ])
              iterate 16 (with_reducible refine stSkip (by kernel_rfl) ?_; (try simp only [Act.put, zl, List.set_cons_zero, List.set_cons_succ]))
              with_reducible refine stTake (v := ?_) (by kernel_rfl) ?_ ?_; rotate_left; (focus (go_simp; (try with_reducible rfl))); (try simp only [Act.put, zl, List.set_cons_zero, List.set_cons_succ])
              refine wpStill_nil ?_
              have hbf : E.before p.rank q = false := by unfold E.before; rw [Pa1.out]; rfl
              clear vp1 lpv q0 q1 q2 q3 q4 q5 q6
              go_wp2_with fail
              go_roundw
              case rel => exact ⟨k, a, by omega, rfl, rfl, hide (by rw [E.scan_step HQK.out, hbf]; exact HAT.out), HOV, HPV, HB4⟩
              case measure => simp [intOf]
            · obtain ⟨a2, hba2⟩ : ∃ b, (q.rank == 0) = b := ⟨_, rfl⟩
              have Pa2 := hide hba2
              have Pa2' := hide (show decide (q.rank = 0) = a2 from hba2)
              clear hba2
              cases a2
              · obtain ⟨a3, hba3⟩ : ∃ b, decide (p.rank < q.rank) = b := ⟨_, rfl⟩
                have Pa3 := hide hba3
                have Pa3' := hide (show decide (p.rank < q.rank) = a3 from hba3)
                clear hba3
                cases a3
                · obtain ⟨V, hV⟩ : ∃ V, (wr).drew = V := ⟨_, rfl⟩
                  have HB4 := hide (show Below w2.heap.size w2 V by rw [← hV]; exact zbD HBk.out)
                  have HOV := hide (show V.ownsRow w.heap.size 57 7 (.slice A m c) m (flatP outs) by rw [← hV]; exact HO3.out)
                  have HPV := hide (show V.heap[pb]? = some (.cells (pc p).toArray 57 (0, 0)) by rw [← hV]; exact HP3.out)
                  have vp1 : V.cell? ⟨pb, 1, none⟩ = some (.int .i64 p.rank) := (blk_cell HPV.out 1).trans rfl
                  have lpv := blk_lt HPV.out
                  obtain ⟨bq, oq, hAq, _, q0, q1, q2, q3, q4, q5, q6⟩ := (owns_RdP HOV.out HOL.out) k q HQK.out
                  subst hAq
                  refine wp_region_still_lit (by kernel_rfl) (by kernel_rfl) ?_
                  change wpStill _ _ (wr).drew (fun a' => Exit.then _ _ Exit.normal a' (wr).drew) _ _
                  rw [hV]
                  clear hV
                  iterate 2 (with_reducible refine stTake (v := ?_) (by kernel_rfl) ?_ ?_; rotate_left; (focus (go_simp; (try with_reducible rfl))); (try simp only [Act.put, zl, List.set_cons_zero, List.set_cons_succ]))
                  with_reducible refine stTake (v := ?_) (by kernel_rfl) ?_ ?_; rotate_left
                  · (go_simp; (try simp only [Pa1.out, Pa1'.out]); (try with_reducible rfl))
                  (try simp only [Act.put, zl, List.set_cons_zero, List.set_cons_succ])
                  iterate 6 (with_reducible refine stTake (v := ?_) (by kernel_rfl) ?_ ?_; rotate_left; (focus (go_simp; (try with_reducible rfl))); (try simp only [Act.put, zl, List.set_cons_zero, List.set_cons_succ]))
                  with_reducible refine stTake (v := ?_) (by kernel_rfl) ?_ ?_; rotate_left
                  · (go_simp; (try simp only [Pa2.out, Pa2'.out]); (try with_reducible rfl))
                  (try simp only [Act.put, zl, List.set_cons_zero, List.set_cons_succ])
                  iterate 8 (with_reducible refine stTake (v := ?_) (by kernel_rfl) ?_ ?_; rotate_left; (focus (go_simp; (try with_reducible rfl))); (try simp only [Act.put, zl, List.set_cons_zero, List.set_cons_succ]))
                  with_reducible refine stTake (v := ?_) (by kernel_rfl) ?_ ?_; rotate_left
                  · (go_simp; (try simp only [Pa3.out, Pa3'.out]); (try with_reducible rfl))
                  (try simp only [Act.put, zl, List.set_cons_zero, List.set_cons_succ])
                  iterate 2 (with_reducible refine stTake (v := ?_) (by kernel_rfl) ?_ ?_; rotate_left; (focus (go_simp; (try with_reducible rfl))); (try simp only [Act.put, zl, List.set_cons_zero, List.set_cons_succ]))
                  refine wpStill_nil ?_
                  have hbf : E.before p.rank q = false := by unfold E.before; rw [Pa1.out, Pa3.out, show decide (q.rank = 0) = false from Pa2'.out]; rfl
                  clear vp1 lpv q0 q1 q2 q3 q4 q5 q6
                  go_wp2_with fail
                  go_roundw
                  case rel => exact ⟨k, a, by omega, rfl, rfl, hide (by rw [E.scan_step HQK.out, hbf]; exact HAT.out), HOV, HPV, HB4⟩
                  case measure => simp [intOf]
                · obtain ⟨V, hV⟩ : ∃ V, (wr).drew = V := ⟨_, rfl⟩
                  have HB4 := hide (show Below w2.heap.size w2 V by rw [← hV]; exact zbD HBk.out)
                  have HOV := hide (show V.ownsRow w.heap.size 57 7 (.slice A m c) m (flatP outs) by rw [← hV]; exact HO3.out)
                  have HPV := hide (show V.heap[pb]? = some (.cells (pc p).toArray 57 (0, 0)) by rw [← hV]; exact HP3.out)
                  have vp1 : V.cell? ⟨pb, 1, none⟩ = some (.int .i64 p.rank) := (blk_cell HPV.out 1).trans rfl
                  have lpv := blk_lt HPV.out
                  obtain ⟨bq, oq, hAq, _, q0, q1, q2, q3, q4, q5, q6⟩ := (owns_RdP HOV.out HOL.out) k q HQK.out
                  subst hAq
                  refine wp_region_still_lit (by kernel_rfl) (by kernel_rfl) ?_
                  change wpStill _ _ (wr).drew (fun a' => Exit.then _ _ Exit.normal a' (wr).drew) _ _
                  rw [hV]
                  clear hV
                  iterate 2 (with_reducible refine stTake (v := ?_) (by kernel_rfl) ?_ ?_; rotate_left; (focus (go_simp; (try with_reducible rfl))); (try simp only [Act.put, zl, List.set_cons_zero, List.set_cons_succ]))
                  with_reducible refine stTake (v := ?_) (by kernel_rfl) ?_ ?_; rotate_left
                  · (go_simp; (try simp only [Pa1.out, Pa1'.out]); (try with_reducible rfl))
                  (try simp only [Act.put, zl, List.set_cons_zero, List.set_cons_succ])
                  iterate 6 (with_reducible refine stTake (v := ?_) (by kernel_rfl) ?_ ?_; rotate_left; (focus (go_simp; (try with_reducible rfl))); (try simp only [Act.put, zl, List.set_cons_zero, List.set_cons_succ]))
                  with_reducible refine stTake (v := ?_) (by kernel_rfl) ?_ ?_; rotate_left
                  · (go_simp; (try simp only [Pa2.out, Pa2'.out]); (try with_reducible rfl))
                  (try simp only [Act.put, zl, List.set_cons_zero, List.set_cons_succ])
                  iterate 8 (with_reducible refine stTake (v := ?_) (by kernel_rfl) ?_ ?_; rotate_left; (focus (go_simp; (try with_reducible rfl))); (try simp only [Act.put, zl, List.set_cons_zero, List.set_cons_succ]))
                  with_reducible refine stTake (v := ?_) (by kernel_rfl) ?_ ?_; rotate_left
                  · (go_simp; (try simp only [Pa3.out, Pa3'.out]); (try with_reducible rfl))
                  (try simp only [Act.put, zl, List.set_cons_zero, List.set_cons_succ])
                  iterate 2 (with_reducible refine stTake (v := ?_) (by kernel_rfl) ?_ ?_; rotate_left; (focus (go_simp; (try with_reducible rfl))); (try simp only [Act.put, zl, List.set_cons_zero, List.set_cons_succ]))
                  refine wpStill_nil ?_
                  have hbf : E.before p.rank q = true := by unfold E.before; rw [Pa1.out, Pa3.out]; simp
                  clear vp1 lpv q0 q1 q2 q3 q4 q5 q6
                  go_wp2_with fail
                  go_roundw
                  case rel => exact ⟨k, k, by omega, rfl, by go_num, hide (by rw [E.scan_step HQK.out, hbf]; rfl), HOV, HPV, HB4⟩
                  case measure => simp [intOf]
              · obtain ⟨V, hV⟩ : ∃ V, (wr).drew = V := ⟨_, rfl⟩
                have HB4 := hide (show Below w2.heap.size w2 V by rw [← hV]; exact zbD HBk.out)
                have HOV := hide (show V.ownsRow w.heap.size 57 7 (.slice A m c) m (flatP outs) by rw [← hV]; exact HO3.out)
                have HPV := hide (show V.heap[pb]? = some (.cells (pc p).toArray 57 (0, 0)) by rw [← hV]; exact HP3.out)
                have vp1 : V.cell? ⟨pb, 1, none⟩ = some (.int .i64 p.rank) := (blk_cell HPV.out 1).trans rfl
                have lpv := blk_lt HPV.out
                obtain ⟨bq, oq, hAq, _, q0, q1, q2, q3, q4, q5, q6⟩ := (owns_RdP HOV.out HOL.out) k q HQK.out
                subst hAq
                refine wp_region_still_lit (by kernel_rfl) (by kernel_rfl) ?_
                change wpStill _ _ (wr).drew (fun a' => Exit.then _ _ Exit.normal a' (wr).drew) _ _
                rw [hV]
                clear hV
                iterate 2 (with_reducible refine stTake (v := ?_) (by kernel_rfl) ?_ ?_; rotate_left; (focus (go_simp; (try with_reducible rfl))); (try simp only [Act.put, zl, List.set_cons_zero, List.set_cons_succ]))
                with_reducible refine stTake (v := ?_) (by kernel_rfl) ?_ ?_; rotate_left
                · (go_simp; (try simp only [Pa1.out, Pa1'.out]); (try with_reducible rfl))
                (try simp only [Act.put, zl, List.set_cons_zero, List.set_cons_succ])
                iterate 6 (with_reducible refine stTake (v := ?_) (by kernel_rfl) ?_ ?_; rotate_left; (focus (go_simp; (try with_reducible rfl))); (try simp only [Act.put, zl, List.set_cons_zero, List.set_cons_succ]))
                with_reducible refine stTake (v := ?_) (by kernel_rfl) ?_ ?_; rotate_left
                · (go_simp; (try simp only [Pa2.out, Pa2'.out]); (try with_reducible rfl))
                (try simp only [Act.put, zl, List.set_cons_zero, List.set_cons_succ])
                with_reducible refine stTake (v := ?_) (by kernel_rfl) ?_ ?_; rotate_left; (focus (go_simp; (try with_reducible rfl))); (try simp only [Act.put, zl, List.set_cons_zero, List.set_cons_succ])
                iterate 8 (with_reducible refine stSkip (by kernel_rfl) ?_; (try simp only [Act.put, zl, List.set_cons_zero, List.set_cons_succ]))
                iterate 2 (with_reducible refine stTake (v := ?_) (by kernel_rfl) ?_ ?_; rotate_left; (focus (go_simp; (try with_reducible rfl))); (try simp only [Act.put, zl, List.set_cons_zero, List.set_cons_succ]))
                refine wpStill_nil ?_
                have hbf : E.before p.rank q = true := by unfold E.before; rw [Pa1.out, show decide (q.rank = 0) = true from Pa2'.out]; rfl
                clear vp1 lpv q0 q1 q2 q3 q4 q5 q6
                go_wp2_with fail
                go_roundw
                case rel => exact ⟨k, k, by omega, rfl, by go_num, hide (by rw [E.scan_step HQK.out, hbf]; rfl), HOV, HPV, HB4⟩
                case measure => simp [intOf]
    · have hin2 : i = nn := by omega
      subst hin2
      go_wp2_with fail
      go_ret
      exact ⟨A, m, c, rfl, by rw [← HOL.out, HOE.out, List.take_of_length_le (by rw [HN.out]; exact Nat.le_refl _)], by have h := HO1.out; rw [HOE.out, List.take_of_length_le (by rw [HN.out]; exact Nat.le_refl _)] at h; exact h, HB1.out⟩
theorem orderP_holds : OrderP := fun An nn cn ps A2 n2 c2 bk A3 n3 c3 w hn hr hm => order_ref An nn cn ps A2 n2 c2 bk A3 n3 c3 w hn hr hm
end Go.Proofs.YtobjahlmjcnfoaaGreat

namespace Go.Proofs.YtobjahlmjcnfoaaGreat
open Go.RowKit Go.Sort
attribute [local go_sem ↓] Go.wp_at_zero Go.wp_at_succ

theorem any_take_step {os : List E.Rp} {k : Nat} {q : E.Rp} {v : Int} (h : os[k]? = some q) : ((os.take (k + 1)).any fun p => p.player == v) = (((os.take k).any fun p => p.player == v) || decide (q.player = v)) := by
  rw [List.take_add_one, h, List.any_append]
  show (_ || ([q].any _)) = _
  rw [List.any_cons, List.any_nil, Bool.or_false]
  rfl
theorem any_take_no {os : List E.Rp} {k : Nat} {q : E.Rp} {v : Int} (hn : (os.map E.Rp.player).Nodup) (h : os[k]? = some q) (hq : q.player = v) : ((os.take k).any fun p => p.player == v) = false := by
  rw [Bool.eq_false_iff]
  intro e
  obtain ⟨p, hp, e2⟩ := List.any_eq_true.1 e
  obtain ⟨j, hj⟩ := List.mem_iff_getElem?.1 hp
  rw [List.getElem?_take] at hj
  split at hj
  · rename_i hjk
    have h1 : (os.map E.Rp.player)[j]? = some v := by rw [List.getElem?_map, hj]; simp [beq_iff_eq.1 e2]
    have h2 : (os.map E.Rp.player)[k]? = some v := by rw [List.getElem?_map, h]; simp [hq]
    have hl : j < (os.map E.Rp.player).length := (List.getElem?_eq_some_iff.1 h1).1
    have := (List.getElem?_inj hl hn).1 (h1.trans h2.symm)
    omega
  · cases hj
def insF (os : List E.Rp) (ins : List Int) : List Int := ins.filter fun k => os.any fun p => p.player == k
theorem insF_length (os : List E.Rp) (ins : List Int) : (insF os ins).length ≤ ins.length := List.length_filter_le _ _
theorem insF_step {os : List E.Rp} {ins : List Int} {i : Nat} {v : Int} (h : ins[i]? = some v) : insF os (ins.take (i + 1)) = insF os (ins.take i) ++ (if (os.any fun p => p.player == v) = true then [v] else []) := by
  unfold insF
  rw [List.take_add_one, h, List.filter_append]
  congr 1
  show List.filter _ [v] = _
  rw [List.filter_cons, List.filter_nil]
def slLen : Value → Nat
  | .slice _ n _ => n
  | _ => 0
theorem rguards_step {os : List E.Rp} {k : Nat} {q : E.Rp} {m : List Int} (h : os[k]? = some q) : E.rguards (os.take (k + 1)) m = E.rguards (os.take k) m + (if (q.grd && m.contains q.player) = true then 1 else 0) := by
  unfold E.rguards
  rw [List.take_add_one, h, List.filter_append, List.length_append]
  show ((_ + (List.filter _ [q]).length : Nat) : Int) = _
  rw [List.filter_cons, List.filter_nil]
  cases (q.grd && m.contains q.player) <;> simp
theorem rguards_le (l : List E.Rp) (m : List Int) : 0 ≤ E.rguards l m ∧ E.rguards l m ≤ (l.length : Int) := by
  unfold E.rguards
  have := List.length_filter_le (fun p : E.Rp => p.grd && m.contains p.player) l
  omega
def nextP (f : E.Fd) (l : List E.Rp) (m : List Int) (p : E.Rp) : Bool := p.sgn && !m.contains p.player && (!p.grd || decide (E.rguards l m < f.guards))
def nextV (f : E.Fd) (l : List E.Rp) (m : List Int) (k : Nat) : Int := match (l.drop k).find? (nextP f l m) with | some p => p.player | none => -1
theorem nextV_step {f : E.Fd} {l : List E.Rp} {m : List Int} {k : Nat} {q : E.Rp} (h : l[k]? = some q) : nextV f l m k = if nextP f l m q = true then q.player else nextV f l m (k + 1) := by
  obtain ⟨h1, h2⟩ := List.getElem?_eq_some_iff.1 h
  unfold nextV
  rw [List.drop_eq_getElem_cons h1, h2, List.find?_cons]
  cases nextP f l m q <;> rfl
theorem nextV_zero (f : E.Fd) (l : List E.Rp) (m : List Int) : nextV f l m 0 = match E.rnext f l m with | some p => p.player | none => -1 := rfl
theorem filter_less {α : Type} (P Q : α → Bool) (hQ : ∀ a, Q a = true → P a = true) : ∀ (l : List α) (x : α), x ∈ l → P x = true → Q x = false → (l.filter Q).length + 1 ≤ (l.filter P).length
  | a :: l, x, hx, h1, h2 => by
    have hle : ∀ l : List α, (l.filter Q).length ≤ (l.filter P).length := by
      intro l
      induction l with
      | nil => exact Nat.le_refl _
      | cons b r ih =>
        rw [List.filter_cons, List.filter_cons]
        by_cases hb : Q b = true
        · rw [if_pos hb, if_pos (hQ b hb), List.length_cons, List.length_cons]; omega
        · rw [if_neg hb]
          split <;> (try simp only [List.length_cons]) <;> omega
    rw [List.filter_cons, List.filter_cons]
    rcases List.mem_cons.1 hx with e | e
    · subst e
      rw [if_pos h1, if_neg (by rw [h2]; decide)]
      have := hle l
      rw [List.length_cons]; omega
    · have := filter_less P Q hQ l x e h1 h2
      by_cases hb : Q a = true
      · rw [if_pos hb, if_pos (hQ a hb), List.length_cons, List.length_cons]; omega
      · rw [if_neg hb]
        split <;> (try simp only [List.length_cons]) <;> omega
theorem rnext_spec {f : E.Fd} {l : List E.Rp} {m : List Int} {p : E.Rp} (h : E.rnext f l m = some p) : p ∈ l ∧ m.contains p.player = false := by
  unfold E.rnext at h
  refine ⟨List.mem_of_find?_eq_some h, ?_⟩
  have h2 := List.find?_some h
  simp only [Bool.and_eq_true, Bool.not_eq_true'] at h2
  exact h2.1.2
theorem left_less {f : E.Fd} {l : List E.Rp} {m : List Int} {p : E.Rp} (h : E.rnext f l m = some p) : (l.filter fun q => !(m ++ [p.player]).contains q.player).length + 1 ≤ (l.filter fun q => !m.contains q.player).length := by
  obtain ⟨h1, h2⟩ := rnext_spec h
  refine filter_less _ _ (fun a ha => ?_) l p h1 (by simp only [h2]; rfl) (by simp)
  simp only [Bool.not_eq_true', List.contains_eq_mem, decide_eq_false_iff_not, List.mem_append] at ha ⊢
  exact fun c => ha (.inl c)

set_option maxHeartbeats 6400000 in
set_option maxRecDepth 100000 in
theorem later_ref (f : E.Fd) (An : Option Addr) (nn cn : Nat) (ps : List E.Rp) (A2 : Option Addr) (n2 c2 : Nat) (bk : Int) (A3 : Option Addr) (n3 c3 : Nat) (ins : List Int) (w : World) (hn : ps.length = nn) (hr : RdP w w.heap.size An ps) (hm : nn ≤ 200) (hn3 : ins.length = n3) (hr3 : RdI w w.heap.size A3 ins) (hm3 : n3 ≤ 400)
    (hnd : ((ordF ps).map E.Rp.player).Nodup) (hpos : ∀ p ∈ ordF ps, 0 ≤ p.player) (hp : 0 ≤ f.places ∧ f.places ≤ 1000) (hb : 0 ≤ bk ∧ bk ≤ 1000) :
    Calls Tryz.prog 63 #[.agg #[.int .i64 f.places, .int .i64 f.wilds, .int .i64 f.guards, .int .i64 f.close, .int .i64 f.freeze], .agg #[.slice An nn cn, .slice A2 n2 c2, .int .i64 bk, .slice A3 n3 c3]] w fun e w' => ∃ A m c, e = .returned (.agg #[.slice An nn cn, .slice A2 n2 c2, .int .i64 bk, .slice A m c]) ∧ (E.rlater f bk (ordF ps) 200 (insF (ordF ps) ins)).length = m ∧ w'.ownsRow w.heap.size 3 1 (.slice A m c) m (flatI (E.rlater f bk (ordF ps) 200 (insF (ordF ps) ins))) ∧ Below w.heap.size w w' := by
  have HN := hide hn
  have HR := hide hr
  have HM := hide hm
  have HN3 := hide hn3
  have HR3 := hide hr3
  have HM3 := hide hm3
  have HND0 := hide hnd
  have HPOS0 := hide hpos
  clear hn hr hm hn3 hr3 hm3 hnd hpos
  have hwp : IntKind.i64.wrap (f.places + bk) = f.places + bk := IntWalk.i64_in _ (by omega)
  have HWP := hide hwp
  clear hwp
  go_enter Tryz.func63, Tryz.ntmps63
  go_upto_region 1 with fail
  obtain ⟨w0, hw0⟩ : ∃ q, ((w.alloc (.cells #[.int .i64 f.places, .int .i64 f.wilds, .int .i64 f.guards, .int .i64 f.close, .int .i64 f.freeze] 23)).alloc (.cells #[.slice An nn cn, .slice A2 n2 c2, .int .i64 bk, .slice A3 n3 c3] 53)).alloc (.cells #[.slice none 0 0, .slice none 0 0, .int .i64 0, .slice none 0 0] 53) = q := ⟨_, rfl⟩
  have HB0 := hide (show Below w.heap.size w w0 by rw [← hw0]; (repeat' first | exact zbR _ _ | assumption | refine zbD ?_ | refine zbA ?_ ?_ _ | refine zbS ?_ ?_ _ | refine zbT ?_ (by assumption) ?_ | (simp; done) | (simp; omega) | omega))
  have HF0 := hide (show w0.heap[w.heap.size]? = some (.cells #[.int .i64 f.places, .int .i64 f.wilds, .int .i64 f.guards, .int .i64 f.close, .int .i64 f.freeze] 23 (0, 0)) by rw [← hw0]; exact (Below.heap_alloc _ _ _ (by first | (simp; done) | (simp; omega) | omega)).trans ((Below.heap_alloc _ _ _ (by first | (simp; done) | (simp; omega) | omega)).trans (World.alloc_heap_new _ _)))
  have HS0 := hide (show w0.heap[w.heap.size + 1]? = some (.cells #[.slice An nn cn, .slice A2 n2 c2, .int .i64 bk, .slice A3 n3 c3] 53 (0, 0)) by rw [← hw0]; exact (Below.heap_alloc _ _ _ (by first | (simp; done) | (simp; omega) | omega)).trans ((congrArg _ (by simp)).trans (World.alloc_heap_new _ _)))
  have HT0 := hide (show w0.heap[w.heap.size + 1 + 1]? = some (.cells #[.slice none 0 0, .slice none 0 0, .int .i64 0, .slice none 0 0] 53 (0, 0)) by rw [← hw0]; exact (congrArg _ (by simp)).trans (World.alloc_heap_new _ _))
  rw [hw0]
  clear hw0
  have HR0 := hide ((HR.out.below HB0.out).mono HB0.out.size)
  have s0 : w0.cell? ⟨w.heap.size + 1, 0, none⟩ = some (.slice An nn cn) := (blk_cell HS0.out 0).trans rfl
  have s1 : w0.cell? ⟨w.heap.size + 1, 1, none⟩ = some (.slice A2 n2 c2) := (blk_cell HS0.out 1).trans rfl
  have s2 : w0.cell? ⟨w.heap.size + 1, 2, none⟩ = some (.int .i64 bk) := (blk_cell HS0.out 2).trans rfl
  have s3 : w0.cell? ⟨w.heap.size + 1, 3, none⟩ = some (.slice A3 n3 c3) := (blk_cell HS0.out 3).trans rfl
  have ls := blk_lt HS0.out
  have hm4' := HM.out
  go_upto_region 3 with (go_at_call 20; refine (order_ref An nn cn ps A2 n2 c2 bk A3 n3 c3 w0 HN.out HR0.out (by omega)).mono ?_; rintro e w1 ⟨B0, m, c, rfl, hlen, hown, hb1⟩; have HLO := hide hlen; have HOO := hide hown; have HB1 := hide hb1; clear hlen hown hb1)
  clear s0 s1 s2 s3 ls
  obtain ⟨os, hos⟩ : ∃ q, ordF ps = q := ⟨_, rfl⟩
  have HOS := hide hos
  have HND := hide (show (os.map E.Rp.player).Nodup by rw [← hos]; exact HND0.out)
  have HPOS := hide (show ∀ p ∈ os, 0 ≤ p.player by rw [← hos]; exact HPOS0.out)
  rw [hos] at HLO HOO
  clear hos HND0 HPOS0
  have HM4 := hide (show m ≤ 200 by have h1 := ordF_length ps; rw [HOS.out, HLO.out, HN.out] at h1; omega)
  have HRO := hide (owns_RdP HOO.out HLO.out)
  have HB01 := hide (zbT HB0.out HB1.out HB0.out.size)
  have HF1 := hide ((HB1.out.block _ (blk_lt HF0.out)).trans HF0.out)
  have HS1 := hide ((HB1.out.block _ (blk_lt HS0.out)).trans HS0.out)
  have HT1 := hide ((HB1.out.block _ (blk_lt HT0.out)).trans HT0.out)
  have HR31 := hide ((HR3.out.below HB01.out).mono HB01.out.size)
  clear HF0 HS0 HT0 HR0 HM HR3
  go_wp2_with fail
  go_loopw [6, 7] (fun bf i wr => ∃ (i' : Nat) (B : Option Addr) (k c4 : Nat) (outs : List Int), i' ≤ n3 ∧ bf = .slice B k c4 ∧ i = .int .i64 i' ∧ Hid (outs.length = k) ∧ Hid (outs = insF os (ins.take i')) ∧ Hid (wr.ownsRow w1.heap.size 3 1 (.slice B k c4) k (flatI outs)) ∧ Hid (Below w1.heap.size w1 wr)) (fun _ i _ => n3 - (intOf i).toNat)
  case atStart => exact ⟨0, none, 0, 0, [], by omega, rfl, rfl, hide rfl, hide rfl, hide ⟨rfl, .inl ⟨rfl, rfl⟩⟩, hide (Below.refl _ _)⟩
  case round =>
    obtain ⟨i, B, k, c4, outs, hi, rfl, rfl, HL, HEo, HO, HBR⟩ := hrel
    have hm4 := HM4.out
    have hn3 := HM3.out
    have hk4 : k ≤ i := by have h := insF_length os (ins.take i); rw [← HEo.out, HL.out, List.length_take] at h; omega
    have HSR := hide ((HBR.out.block _ (blk_lt HS1.out)).trans HS1.out)
    have y3 : wr.cell? ⟨w.heap.size + 1, 3, none⟩ = some (.slice A3 n3 c3) := (blk_cell HSR.out 3).trans rfl
    have ly := blk_lt HSR.out
    by_cases hin : i < n3
    · obtain ⟨v, hv⟩ : ∃ q, ins[i]? = some q := ⟨_, List.getElem?_eq_getElem (by have := HN3.out; omega)⟩
      have HVK := hide hv
      have HIS := hide (insF_step (os := os) hv)
      obtain ⟨b3, o3, hA3, hb3, cv3⟩ := HR31.out i v hv
      subst hA3
      have HB3L := hide hb3
      have HV3 := hide cv3
      clear hv hb3 cv3
      have hi1 : (i : Int) < (n3 : Int) := by omega
      have hi0 : (0 : Int) ≤ (i : Int) := by omega
      go_wp2_with fail
      clear y3 ly HSR
      obtain ⟨outs0, hou⟩ : ∃ q, outs = q := ⟨_, rfl⟩
      have HK0 := hide (show outs0.length = k by rw [← hou]; exact HL.out)
      rw [hou] at HL HEo HO
      clear hou outs
      go_loopw [6, 8] (fun bf kk wr => ∃ (kk' : Nat) (B : Option Addr) (k c4 : Nat) (outs : List Int), kk' ≤ m ∧ bf = .slice B k c4 ∧ kk = .int .i64 kk' ∧ Hid (outs.length = k) ∧ Hid (outs = outs0 ++ (if ((os.take kk').any fun p => p.player == v) = true then [v] else [])) ∧ Hid (wr.ownsRow w1.heap.size 3 1 (.slice B k c4) k (flatI outs)) ∧ Hid (Below w1.heap.size w1 wr)) (fun _ kk _ => m - (intOf kk).toNat)
      case atStart => exact ⟨0, B, k, c4, outs0, by omega, rfl, rfl, HL, hide (by simp), HO, HBR⟩
      case round =>
        clear HO HBR HL
        obtain ⟨kk, B, k, c4, outs, hkk, rfl, rfl, HL, HE, HO, HBR⟩ := hrel
        have hk5 : k ≤ 401 := by have h := congrArg List.length HE.out; rw [List.length_append, HL.out, HK0.out] at h; split at h <;> simp at h <;> omega
        by_cases hkn : kk < m
        · obtain ⟨q, hq⟩ : ∃ q, os[kk]? = some q := ⟨_, List.getElem?_eq_getElem (by have := HLO.out; omega)⟩
          have HQK := hide hq
          clear hq
          have hk1 : (kk : Int) < (m : Int) := by omega
          have hk0 : (0 : Int) ≤ (kk : Int) := by omega
          go_upto_region 9 with fail
          obtain ⟨a1, hba1⟩ : ∃ b, (q.player == v) = b := ⟨_, rfl⟩
          have Pa1 := hide hba1
          have Pa1' := hide (show decide (q.player = v) = a1 from hba1)
          clear hba1
          cases a1
          · obtain ⟨V, hV⟩ : ∃ V, (wr).drew = V := ⟨_, rfl⟩
            have HBV := hide (show Below w1.heap.size w1 V by rw [← hV]; exact zbD HBR.out)
            have HOV := hide (show V.ownsRow w1.heap.size 3 1 (.slice B k c4) k (flatI outs) by rw [← hV]; exact HO.out)
            have HSV := hide ((HBV.out.block _ (blk_lt HS1.out)).trans HS1.out)
            have vs3 : V.cell? ⟨w.heap.size + 1, 3, none⟩ = some (.slice (some ⟨b3, o3, none⟩) n3 c3) := (blk_cell HSV.out 3).trans rfl
            have lvs := blk_lt HSV.out
            have v3 := (HBV.out.cell (p := ⟨b3, _, none⟩) HB3L.out).trans HV3.out
            have lv3 := Nat.lt_of_lt_of_le HB3L.out HBV.out.size
            obtain ⟨bq, oq, hAq, lbq, q0, q1, q2, q3, q4, q5, q6⟩ := (HRO.out.below HBV.out) kk q HQK.out
            subst hAq
            have lbv := Nat.lt_of_lt_of_le lbq HBV.out.size
            clear q1 q2 q3 q4 q5 q6
            refine wp_region_still_lit (by kernel_rfl) (by kernel_rfl) ?_
            change wpStill _ _ (wr).drew (fun a' => Exit.then _ _ Exit.normal a' (wr).drew) _ _
            rw [hV]
            clear hV
            iterate 10 (with_reducible refine stTake (v := ?_) (by kernel_rfl) ?_ ?_; rotate_left; (focus (go_simp; (try with_reducible rfl))); (try simp only [Act.put, zl, List.set_cons_zero, List.set_cons_succ]))
            with_reducible refine stTake (v := ?_) (by kernel_rfl) ?_ ?_; rotate_left
            · (go_simp; (try simp only [Pa1.out, Pa1'.out]); (try with_reducible rfl))
            (try simp only [Act.put, zl, List.set_cons_zero, List.set_cons_succ])
            refine wpStill_nil ?_
            clear vs3 lvs v3 lv3 q0 lbv
            go_wp2_with fail
            go_roundw
            case rel => exact ⟨kk + 1, B, k, c4, outs, by omega, rfl, by go_num, HL, hide (by rw [any_take_step HQK.out, Pa1'.out, Bool.or_false]; exact HE.out), HOV, HBV⟩
            case measure => simp [intOf]; omega
          · obtain ⟨V, hV⟩ : ∃ V, (wr).drew = V := ⟨_, rfl⟩
            have HBV := hide (show Below w1.heap.size w1 V by rw [← hV]; exact zbD HBR.out)
            have HOV := hide (show V.ownsRow w1.heap.size 3 1 (.slice B k c4) k (flatI outs) by rw [← hV]; exact HO.out)
            have HSV := hide ((HBV.out.block _ (blk_lt HS1.out)).trans HS1.out)
            have vs3 : V.cell? ⟨w.heap.size + 1, 3, none⟩ = some (.slice (some ⟨b3, o3, none⟩) n3 c3) := (blk_cell HSV.out 3).trans rfl
            have lvs := blk_lt HSV.out
            have v3 := (HBV.out.cell (p := ⟨b3, _, none⟩) HB3L.out).trans HV3.out
            have lv3 := Nat.lt_of_lt_of_le HB3L.out HBV.out.size
            obtain ⟨bq, oq, hAq, lbq, q0, q1, q2, q3, q4, q5, q6⟩ := (HRO.out.below HBV.out) kk q HQK.out
            subst hAq
            have lbv := Nat.lt_of_lt_of_le lbq HBV.out.size
            clear q1 q2 q3 q4 q5 q6
            refine wp_region_still_lit (by kernel_rfl) (by kernel_rfl) ?_
            change wpStill _ _ (wr).drew (fun a' => Exit.then _ _ Exit.normal a' (wr).drew) _ _
            rw [hV]
            clear hV
            iterate 10 (with_reducible refine stTake (v := ?_) (by kernel_rfl) ?_ ?_; rotate_left; (focus (go_simp; (try with_reducible rfl))); (try simp only [Act.put, zl, List.set_cons_zero, List.set_cons_succ]))
            with_reducible refine stTake (v := ?_) (by kernel_rfl) ?_ ?_; rotate_left
            · (go_simp; (try simp only [Pa1.out, Pa1'.out]); (try with_reducible rfl))
            (try simp only [Act.put, zl, List.set_cons_zero, List.set_cons_succ])
            refine wpStill_nil ?_
            clear q0
            go_wp2_with (at_builtin; refine wpList_app_at rfl (.tmp 39) (.tmp 45) rfl w1.heap.size (.slice B k c4) outs k rfl (HOV.out.alloc _) (some ⟨_, 0, none⟩) 1 1 [v] rfl rfl (rdI_one (World.alloc_heap_new _ _)) (fun e => by cases e) (by omega) (by omega) (by have := HBV.out.size; simp; omega) ?_; intro B5 c5 w9 hown2 hgrow; have HO5 := hide hown2; have HB9 := hide ((zbA HBV.out HBV.out.size _).trans (grown_below (B := w1.heap.size) hgrow (by have := HBV.out.size; simp; omega) (fun g hg => (HOV.out.lt g hg).1))); clear hown2 hgrow)
            go_roundw
            case rel => exact ⟨kk + 1, B5, k + 1, c5, outs ++ [v], by omega, rfl, by go_num, hide (by simp [HL.out]), hide (by have h := HE.out; rw [any_take_step HQK.out, Pa1'.out]; rw [any_take_no HND.out HQK.out (of_decide_eq_true Pa1'.out)] at h; rw [h]; simp), HO5, HB9⟩
            case measure => simp [intOf]; omega
        · have hkm : kk = m := by omega
          subst hkm
          go_wp2_with fail
          go_roundw
          case rel => exact ⟨i + 1, B, k, c4, outs, by omega, rfl, by go_num, HL, hide (by rw [HIS.out, ← HEo.out, HE.out, List.take_of_length_le (by rw [HLO.out]; exact Nat.le_refl _)]), HO, HBR⟩
          case measure => simp [intOf]; omega
    · have hin2 : n3 = i := by omega
      subst hin2
      have HE1 := hide (show outs = insF os ins by rw [HEo.out, List.take_of_length_le (by rw [HN3.out]; exact Nat.le_refl _)])
      have hi2 : (n3 : Int) ≤ (n3 : Int) := Int.le_refl _
      go_wp2_with fail
      clear y3 ly HSR
      go_loopw [6] (fun bf wr => ∃ (n : Nat) (B : Option Addr) (k c4 : Nat) (outs : List Int), bf = .slice B k c4 ∧ Hid (outs.length = k ∧ k + n ≤ 600) ∧ Hid (E.rlater f bk os n outs = E.rlater f bk os 200 (insF os ins)) ∧ Hid ((os.filter fun p => !outs.contains p.player).length ≤ n) ∧ Hid (wr.ownsRow w1.heap.size 3 1 (.slice B k c4) k (flatI outs)) ∧ Hid (Below w1.heap.size w1 wr)) (fun bf _ => 600 - slLen bf)
      case atStart => exact ⟨200, B, k, c4, outs, rfl, hide ⟨HL.out, by omega⟩, hide (by rw [HE1.out]), hide (by have h := List.length_filter_le (fun p : E.Rp => !outs.contains p.player) os; rw [HLO.out] at h; omega), HO, HBR⟩
      case round =>
        clear HL HEo HO HBR HE1 hk4
        obtain ⟨n, B, k, c4, outs, rfl, HL, HE, HLT, HO, HBR⟩ := hrel
        have hk4 : k ≤ 600 := by have := HL.out; omega
        have HFR := hide ((HBR.out.block _ (blk_lt HF1.out)).trans HF1.out)
        have HSR := hide ((HBR.out.block _ (blk_lt HS1.out)).trans HS1.out)
        have x0 : wr.cell? ⟨w.heap.size, 0, none⟩ = some (.int .i64 f.places) := (blk_cell HFR.out 0).trans rfl
        have lx := blk_lt HFR.out
        have y2 : wr.cell? ⟨w.heap.size + 1, 2, none⟩ = some (.int .i64 bk) := (blk_cell HSR.out 2).trans rfl
        have ly := blk_lt HSR.out
        have hwp := HWP.out
        by_cases hpl : (k : Int) < f.places + bk
        · go_wp2_with fail
          clear x0 y2 lx ly hwp HFR HSR
          go_loopw [9, 10] (fun gg kk wr => ∃ (kk' : Nat) (g : Int), kk' ≤ m ∧ gg = .int .i64 g ∧ kk = .int .i64 kk' ∧ Hid (g = E.rguards (os.take kk') outs) ∧ Hid (wr.ownsRow w1.heap.size 3 1 (.slice B k c4) k (flatI outs)) ∧ Hid (Below w1.heap.size w1 wr)) (fun _ kk _ => m - (intOf kk).toNat)
          case atStart => exact ⟨0, 0, by omega, rfl, rfl, hide rfl, HO, HBR⟩
          case round =>
            clear HO HBR
            obtain ⟨kk, g, hkk, rfl, rfl, HG, HO, HBR⟩ := hrel
            have hgb : 0 ≤ g ∧ g ≤ 200 := by have h := rguards_le (os.take kk) outs; rw [← HG.out, List.length_take] at h; omega
            by_cases hkn : kk < m
            · obtain ⟨q, hq⟩ : ∃ q, os[kk]? = some q := ⟨_, List.getElem?_eq_getElem (by have := HLO.out; omega)⟩
              have HQK := hide hq
              have HGS := hide (rguards_step (m := outs) hq)
              clear hq
              have hk1 : (kk : Int) < (m : Int) := by omega
              have hk0 : (0 : Int) ≤ (kk : Int) := by omega
              obtain ⟨bq, oq, hA, hbq, d0, d1, d2, d3, d4, d5, d6⟩ := (HRO.out.below HBR.out) kk q HQK.out
              subst hA
              have hlq : bq < wr.heap.size := Nat.lt_of_lt_of_le hbq HBR.out.size
              cases hgx : q.grd
              · have HGF := hide hgx
                have d2' : wr.cell? ⟨bq, oq + kk * 7 + 2, none⟩ = some (.bool false) := by rw [d2, hgx]
                clear d2 hgx
                go_wp2_with fail
                go_roundw
                case rel => exact ⟨kk + 1, g, by omega, rfl, by go_num, hide (by rw [HGS.out, ← HG.out, HGF.out, Bool.false_and]; simp), HO, HBR⟩
                case measure => simp [intOf]; omega
              · have HGF := hide hgx
                have d2' : wr.cell? ⟨bq, oq + kk * 7 + 2, none⟩ = some (.bool true) := by rw [d2, hgx]
                clear d2 hgx
                cases hc : outs.contains q.player
                · have HC := hide hc
                  clear hc
                  go_wp2_with (go_at_call 21; refine (In_any B k c4 outs q.player _ HL.out.1 (owns_RdI HO.out HL.out.1) (by omega)).mono ?_; rintro e w7 ⟨rfl, rfl⟩; rw [HC.out])
                  go_roundw
                  case rel => exact ⟨kk + 1, g, by omega, rfl, by go_num, hide (by rw [HGS.out, ← HG.out, HGF.out, HC.out]; simp), HO, HBR⟩
                  case measure => simp [intOf]; omega
                · have HC := hide hc
                  clear hc
                  go_wp2_with (go_at_call 21; refine (In_any B k c4 outs q.player _ HL.out.1 (owns_RdI HO.out HL.out.1) (by omega)).mono ?_; rintro e w7 ⟨rfl, rfl⟩; rw [HC.out])
                  go_roundw
                  case rel => exact ⟨kk + 1, g + 1, by omega, by go_num, by go_num, hide (by rw [HGS.out, ← HG.out, HGF.out, HC.out]; simp), HO, HBR⟩
                  case measure => simp [intOf]; omega
            · have hkm : m = kk := by omega
              subst hkm
              have HGG := hide (show g = E.rguards os outs by rw [HG.out, List.take_of_length_le (by rw [HLO.out]; exact Nat.le_refl _)])
              have hm0 : (0 : Int) ≤ (m : Int) := by omega
              have hwm : IntKind.i64.wrap ((m : Int) - 1) = (m : Int) - 1 := IntWalk.i64_in _ (by omega)
              go_wp2_with fail
              clear hwm
              go_loopw [11, 12] (fun ff kk wr => ∃ (kn : Nat) (x : Int), kn ≤ m ∧ ff = .int .i64 x ∧ kk = .int .i64 ((kn : Int) - 1) ∧ Hid (x = nextV f os outs kn) ∧ Hid (wr.ownsRow w1.heap.size 3 1 (.slice B k c4) k (flatI outs)) ∧ Hid (Below w1.heap.size w1 wr)) (fun _ kk _ => (intOf kk + 1).toNat)
              case atStart => exact ⟨m, -1, Nat.le_refl _, rfl, rfl, hide (by unfold nextV; rw [List.drop_eq_nil_of_le (by rw [HLO.out]; exact Nat.le_refl _)]; rfl), HO, HBR⟩
              case round =>
                clear HO HBR
                obtain ⟨kn, x, hkn2, rfl, rfl, HX, HO, HBR⟩ := hrel
                by_cases hk0 : kn = 0
                · subst hk0
                  obtain ⟨rn, hrn⟩ : ∃ q, E.rnext f os outs = q := ⟨_, rfl⟩
                  cases rn with
                  | none =>
                    have hx1 : x = -1 := by rw [HX.out, nextV_zero, hrn]
                    subst hx1
                    have HRES := hide (show outs = E.rlater f bk os 200 (insF os ins) by
                      rw [← HE.out]
                      cases n with
                      | zero => rfl
                      | succ n => rw [E.rlater, if_pos (by have := HL.out; omega), hrn])
                    clear hrn HX
                    have HSR := hide ((HBR.out.block _ (blk_lt HS1.out)).trans HS1.out)
                    have HTR := hide ((HBR.out.block _ (blk_lt HT1.out)).trans HT1.out)
                    have y3 : wr.cell? ⟨w.heap.size + 1, 3, none⟩ = some (.slice A3 n3 c3) := (blk_cell HSR.out 3).trans rfl
                    have ly := blk_lt HSR.out
                    have fz := blk_frozen HSR.out 3
                    go_upto_region 27 with fail
                    obtain ⟨w8, hw8⟩ : ∃ q, wr.setCell ⟨w.heap.size + 1, 3, none⟩ (.slice B k c4) = q := ⟨_, rfl⟩
                    have HS8 := hide (show w8.heap[w.heap.size + 1]? = some (.cells #[.slice An nn cn, .slice A2 n2 c2, .int .i64 bk, .slice B k c4] 53 (0, 0)) by rw [← hw8]; exact blk_set HSR.out 3 _)
                    have HG8 := hide (show wr.grownBy w8 (some (w.heap.size + 1)) by rw [← hw8]; exact gr_set _ _ _ _)
                    have HT8 := hide ((HG8.out.block _ (blk_lt HTR.out) (fun e => by have := Option.some.inj e; omega)).trans HTR.out)
                    have HO8 := hide (HO.out.kept HG8.out (.inr (row_ne HO.out HSR.out (by decide))))
                    have HBW := hide (zbT HB01.out HBR.out HB01.out.size)
                    have HB8 := hide (HBW.out.trans (grown_below HG8.out HBW.out.size (fun g hg => by cases hg; omega)))
                    rw [hw8]
                    clear hw8 y3 ly fz
                    have s0 : w8.cell? ⟨w.heap.size + 1, 0, none⟩ = some (.slice An nn cn) := (blk_cell HS8.out 0).trans rfl
                    have s1 : w8.cell? ⟨w.heap.size + 1, 1, none⟩ = some (.slice A2 n2 c2) := (blk_cell HS8.out 1).trans rfl
                    have s2 : w8.cell? ⟨w.heap.size + 1, 2, none⟩ = some (.int .i64 bk) := (blk_cell HS8.out 2).trans rfl
                    have s3 : w8.cell? ⟨w.heap.size + 1, 3, none⟩ = some (.slice B k c4) := (blk_cell HS8.out 3).trans rfl
                    have ls := blk_lt HS8.out
                    have t0 : w8.cell? ⟨w.heap.size + 1 + 1, 0, none⟩ = some (.slice none 0 0) := (blk_cell HT8.out 0).trans rfl
                    have t1 : w8.cell? ⟨w.heap.size + 1 + 1, 1, none⟩ = some (.slice none 0 0) := (blk_cell HT8.out 1).trans rfl
                    have t2 : w8.cell? ⟨w.heap.size + 1 + 1, 2, none⟩ = some (.int .i64 0) := (blk_cell HT8.out 2).trans rfl
                    have t3 : w8.cell? ⟨w.heap.size + 1 + 1, 3, none⟩ = some (.slice none 0 0) := (blk_cell HT8.out 3).trans rfl
                    have lt := blk_lt HT8.out
                    have fz0 := blk_frozen HT8.out 0
                    have fz1 := blk_frozen HT8.out 1
                    have fz2 := blk_frozen HT8.out 2
                    have fz3 := blk_frozen HT8.out 3
                    go_wp2_with fail
                    obtain ⟨w9, hw9⟩ : ∃ q, (((w8.setCell ⟨w.heap.size + 1 + 1, 0, none⟩ (.slice An nn cn)).setCell ⟨w.heap.size + 1 + 1, 1, none⟩ (.slice A2 n2 c2)).setCell ⟨w.heap.size + 1 + 1, 2, none⟩ (.int .i64 bk)).setCell ⟨w.heap.size + 1 + 1, 3, none⟩ (.slice B k c4) = q := ⟨_, rfl⟩
                    have HT9 := hide (show w9.heap[w.heap.size + 1 + 1]? = some (.cells #[.slice An nn cn, .slice A2 n2 c2, .int .i64 bk, .slice B k c4] 53 (0, 0)) by rw [← hw9]; exact blk_set (blk_set (blk_set (blk_set HT8.out 0 _) 1 _) 2 _) 3 _)
                    have HG9 := hide (show w8.grownBy w9 (some (w.heap.size + 1 + 1)) by rw [← hw9]; exact gr_trans (gr_trans (gr_trans (gr_set _ _ _ _) (gr_set _ _ _ _)) (gr_set _ _ _ _)) (gr_set _ _ _ _))
                    have HO9 := hide (HO8.out.kept HG9.out (.inr (row_ne HO8.out HT8.out (by decide))))
                    have HB9 := hide (HB8.out.trans (grown_below HG9.out HB8.out.size (fun g hg => by cases hg; omega)))
                    rw [hw9]
                    clear hw9 s0 s1 s2 s3 t0 t1 t2 t3 fz0 fz1 fz2 fz3 ls lt
                    have r0 : w9.cell? ⟨w.heap.size + 1 + 1, 0, none⟩ = some (.slice An nn cn) := (blk_cell HT9.out 0).trans rfl
                    have r1 : w9.cell? ⟨w.heap.size + 1 + 1, 1, none⟩ = some (.slice A2 n2 c2) := (blk_cell HT9.out 1).trans rfl
                    have r2 : w9.cell? ⟨w.heap.size + 1 + 1, 2, none⟩ = some (.int .i64 bk) := (blk_cell HT9.out 2).trans rfl
                    have r3 : w9.cell? ⟨w.heap.size + 1 + 1, 3, none⟩ = some (.slice B k c4) := (blk_cell HT9.out 3).trans rfl
                    exact bodyPost_ret (v := .agg #[.slice An nn cn, .slice A2 n2 c2, .int .i64 bk, .slice B k c4]) (by simp [results, Tryz.results63, go_sem, r0, r1, r2, r3]) rfl ⟨B, k, c4, rfl, by rw [HOS.out, ← HRES.out]; exact HL.out.1, by rw [HOS.out, ← HRES.out]; exact owns_mono HO9.out HB01.out.size, HB9.out⟩
                  | some p =>
                    have hx1 : x = p.player := by rw [HX.out, nextV_zero, hrn]
                    subst hx1
                    have hp0 : 0 ≤ p.player := HPOS.out p (rnext_spec hrn).1
                    have hll := left_less hrn
                    obtain ⟨n', rfl⟩ : ∃ n', n = n' + 1 := ⟨n - 1, by have := HLT.out; omega⟩
                    have HE3 := hide (show E.rlater f bk os n' (outs ++ [p.player]) = E.rlater f bk os 200 (insF os ins) by
                      rw [← HE.out, E.rlater.eq_2, if_pos (by have := HL.out; omega), hrn])
                    have HLL := hide hll
                    clear hrn hll
                    go_wp2_with (at_builtin; refine wpList_app_at rfl (.tmp 120) (.tmp 122) rfl w1.heap.size (.slice B k c4) outs k rfl (HO.out.alloc _) (some ⟨_, 0, none⟩) 1 1 [p.player] rfl rfl (rdI_one (World.alloc_heap_new _ _)) (fun e => by cases e) (by omega) (by omega) (by have := HBR.out.size; simp; omega) ?_; intro B5 c5 w9 hown2 hgrow; have HO5 := hide hown2; have HB9 := hide ((zbA HBR.out HBR.out.size _).trans (grown_below (B := w1.heap.size) hgrow (by have := HBR.out.size; simp; omega) (fun g hg => (HO.out.lt g hg).1))); clear hown2 hgrow)
                    go_roundw
                    case rel => exact ⟨n', B5, k + 1, c5, outs ++ [p.player], rfl, hide ⟨by simp [HL.out.1], by have := HL.out; omega⟩, HE3, hide (by have h1 := HLL.out; have h2 := HLT.out; omega), HO5, HB9⟩
                    case measure => have := HL.out; simp [slLen]; omega
                · obtain ⟨kj, rfl⟩ : ∃ k, kn = k + 1 := ⟨kn - 1, by omega⟩
                  obtain ⟨q, hq⟩ : ∃ q, os[kj]? = some q := ⟨_, List.getElem?_eq_getElem (by have := HLO.out; omega)⟩
                  have HQK := hide hq
                  have HNS := hide (nextV_step (f := f) (m := outs) hq)
                  clear hq hk0
                  have hkm : kj < m := by omega
                  rw [show (((kj + 1 : Nat) : Int) - 1) = (kj : Int) from by omega]
                  have hk0 : (0 : Int) ≤ (kj : Int) := by omega
                  have hk1 : (kj : Int) < (m : Int) := by omega
                  have hkw : IntKind.i64.wrap ((kj : Int) - 1) = (kj : Int) - 1 := IntWalk.i64_in _ (by omega)
                  have HFR := hide ((HBR.out.block _ (blk_lt HF1.out)).trans HF1.out)
                  have x2 : wr.cell? ⟨w.heap.size, 2, none⟩ = some (.int .i64 f.guards) := (blk_cell HFR.out 2).trans rfl
                  have lx := blk_lt HFR.out
                  obtain ⟨bq, oq, hA, hbq, d0, d1, d2, d3, d4, d5, d6⟩ := (HRO.out.below HBR.out) kj q HQK.out
                  subst hA
                  have hlq : bq < wr.heap.size := Nat.lt_of_lt_of_le hbq HBR.out.size
                  cases hs : q.sgn
                  · have Hs := hide hs
                    have d5' : wr.cell? ⟨bq, oq + kj * 7 + 5, none⟩ = some (.bool false) := by rw [d5, hs]
                    clear d5 hs
                    have HP := hide (show nextP f os outs q = false by unfold nextP; rw [Hs.out]; rfl)
                    go_wp2_with fail
                    go_roundw
                    case rel => exact ⟨kj, x, by omega, rfl, rfl, hide (by rw [HNS.out, if_neg (by rw [HP.out]; decide)]; exact HX.out), HO, HBR⟩
                    case measure => simp [intOf]
                  · have Hs := hide hs
                    have d5' : wr.cell? ⟨bq, oq + kj * 7 + 5, none⟩ = some (.bool true) := by rw [d5, hs]
                    clear d5 hs
                    cases hc : outs.contains q.player
                    · have HC := hide hc
                      clear hc
                      cases hgx : q.grd
                      · have Hgx := hide hgx
                        have d2' : wr.cell? ⟨bq, oq + kj * 7 + 2, none⟩ = some (.bool false) := by rw [d2, hgx]
                        clear d2 hgx
                        have HP := hide (show nextP f os outs q = true by unfold nextP; rw [Hs.out, HC.out, Hgx.out]; rfl)
                        go_wp2_with (go_at_call 21; refine (In_any B k c4 outs q.player _ HL.out.1 (owns_RdI HO.out HL.out.1) (by omega)).mono ?_; rintro e w7 ⟨rfl, rfl⟩; rw [HC.out])
                        go_roundw
                        case rel => exact ⟨kj, q.player, by omega, rfl, rfl, hide (by rw [HNS.out, if_pos HP.out]), HO, HBR⟩
                        case measure => simp [intOf]
                      · have Hgx := hide hgx
                        have d2' : wr.cell? ⟨bq, oq + kj * 7 + 2, none⟩ = some (.bool true) := by rw [d2, hgx]
                        clear d2 hgx
                        by_cases hlt : g < f.guards
                        · have HP := hide (show nextP f os outs q = true by unfold nextP; rw [Hs.out, HC.out, Hgx.out, ← HGG.out, decide_eq_true hlt]; rfl)
                          go_wp2_with (go_at_call 21; refine (In_any B k c4 outs q.player _ HL.out.1 (owns_RdI HO.out HL.out.1) (by omega)).mono ?_; rintro e w7 ⟨rfl, rfl⟩; rw [HC.out])
                          go_roundw
                          case rel => exact ⟨kj, q.player, by omega, rfl, rfl, hide (by rw [HNS.out, if_pos HP.out]), HO, HBR⟩
                          case measure => simp [intOf]
                        · have hlt' : f.guards ≤ g := by omega
                          have HP := hide (show nextP f os outs q = false by unfold nextP; rw [Hs.out, HC.out, Hgx.out, ← HGG.out, decide_eq_false hlt]; rfl)
                          clear hlt
                          go_wp2_with (first | (go_at_call 21; refine (In_any B k c4 outs q.player _ HL.out.1 (owns_RdI HO.out HL.out.1) (by omega)).mono ?_; rintro e w7 ⟨rfl, rfl⟩; rw [HC.out]) | fail)
                          go_roundw
                          case rel => exact ⟨kj, x, by omega, rfl, rfl, hide (by rw [HNS.out, if_neg (by rw [HP.out]; decide)]; exact HX.out), HO, HBR⟩
                          case measure => simp [intOf]
                    · have HC := hide hc
                      clear hc
                      have HP := hide (show nextP f os outs q = false by unfold nextP; rw [Hs.out, HC.out]; rfl)
                      go_wp2_with (go_at_call 21; refine (In_any B k c4 outs q.player _ HL.out.1 (owns_RdI HO.out HL.out.1) (by omega)).mono ?_; rintro e w7 ⟨rfl, rfl⟩; rw [HC.out])
                      go_roundw
                      case rel => exact ⟨kj, x, by omega, rfl, rfl, hide (by rw [HNS.out, if_neg (by rw [HP.out]; decide)]; exact HX.out), HO, HBR⟩
                      case measure => simp [intOf]
        · have hpl' : f.places + bk ≤ (k : Int) := by omega
          clear hpl
          have HRES := hide (show outs = E.rlater f bk os 200 (insF os ins) by
            rw [← HE.out]
            cases n with
            | zero => rfl
            | succ n => rw [E.rlater, if_neg (by have := HL.out; omega)])
          have HSR := hide ((HBR.out.block _ (blk_lt HS1.out)).trans HS1.out)
          have HTR := hide ((HBR.out.block _ (blk_lt HT1.out)).trans HT1.out)
          have y3 : wr.cell? ⟨w.heap.size + 1, 3, none⟩ = some (.slice A3 n3 c3) := (blk_cell HSR.out 3).trans rfl
          have ly := blk_lt HSR.out
          have fz := blk_frozen HSR.out 3
          go_upto_region 27 with fail
          obtain ⟨w8, hw8⟩ : ∃ q, wr.setCell ⟨w.heap.size + 1, 3, none⟩ (.slice B k c4) = q := ⟨_, rfl⟩
          have HS8 := hide (show w8.heap[w.heap.size + 1]? = some (.cells #[.slice An nn cn, .slice A2 n2 c2, .int .i64 bk, .slice B k c4] 53 (0, 0)) by rw [← hw8]; exact blk_set HSR.out 3 _)
          have HG8 := hide (show wr.grownBy w8 (some (w.heap.size + 1)) by rw [← hw8]; exact gr_set _ _ _ _)
          have HT8 := hide ((HG8.out.block _ (blk_lt HTR.out) (fun e => by have := Option.some.inj e; omega)).trans HTR.out)
          have HO8 := hide (HO.out.kept HG8.out (.inr (row_ne HO.out HSR.out (by decide))))
          have HBW := hide (zbT HB01.out HBR.out HB01.out.size)
          have HB8 := hide (HBW.out.trans (grown_below HG8.out HBW.out.size (fun g hg => by cases hg; omega)))
          rw [hw8]
          clear hw8 y3 ly fz
          have s0 : w8.cell? ⟨w.heap.size + 1, 0, none⟩ = some (.slice An nn cn) := (blk_cell HS8.out 0).trans rfl
          have s1 : w8.cell? ⟨w.heap.size + 1, 1, none⟩ = some (.slice A2 n2 c2) := (blk_cell HS8.out 1).trans rfl
          have s2 : w8.cell? ⟨w.heap.size + 1, 2, none⟩ = some (.int .i64 bk) := (blk_cell HS8.out 2).trans rfl
          have s3 : w8.cell? ⟨w.heap.size + 1, 3, none⟩ = some (.slice B k c4) := (blk_cell HS8.out 3).trans rfl
          have ls := blk_lt HS8.out
          have t0 : w8.cell? ⟨w.heap.size + 1 + 1, 0, none⟩ = some (.slice none 0 0) := (blk_cell HT8.out 0).trans rfl
          have t1 : w8.cell? ⟨w.heap.size + 1 + 1, 1, none⟩ = some (.slice none 0 0) := (blk_cell HT8.out 1).trans rfl
          have t2 : w8.cell? ⟨w.heap.size + 1 + 1, 2, none⟩ = some (.int .i64 0) := (blk_cell HT8.out 2).trans rfl
          have t3 : w8.cell? ⟨w.heap.size + 1 + 1, 3, none⟩ = some (.slice none 0 0) := (blk_cell HT8.out 3).trans rfl
          have lt := blk_lt HT8.out
          have fz0 := blk_frozen HT8.out 0
          have fz1 := blk_frozen HT8.out 1
          have fz2 := blk_frozen HT8.out 2
          have fz3 := blk_frozen HT8.out 3
          go_wp2_with fail
          obtain ⟨w9, hw9⟩ : ∃ q, (((w8.setCell ⟨w.heap.size + 1 + 1, 0, none⟩ (.slice An nn cn)).setCell ⟨w.heap.size + 1 + 1, 1, none⟩ (.slice A2 n2 c2)).setCell ⟨w.heap.size + 1 + 1, 2, none⟩ (.int .i64 bk)).setCell ⟨w.heap.size + 1 + 1, 3, none⟩ (.slice B k c4) = q := ⟨_, rfl⟩
          have HT9 := hide (show w9.heap[w.heap.size + 1 + 1]? = some (.cells #[.slice An nn cn, .slice A2 n2 c2, .int .i64 bk, .slice B k c4] 53 (0, 0)) by rw [← hw9]; exact blk_set (blk_set (blk_set (blk_set HT8.out 0 _) 1 _) 2 _) 3 _)
          have HG9 := hide (show w8.grownBy w9 (some (w.heap.size + 1 + 1)) by rw [← hw9]; exact gr_trans (gr_trans (gr_trans (gr_set _ _ _ _) (gr_set _ _ _ _)) (gr_set _ _ _ _)) (gr_set _ _ _ _))
          have HO9 := hide (HO8.out.kept HG9.out (.inr (row_ne HO8.out HT8.out (by decide))))
          have HB9 := hide (HB8.out.trans (grown_below HG9.out HB8.out.size (fun g hg => by cases hg; omega)))
          rw [hw9]
          clear hw9 s0 s1 s2 s3 t0 t1 t2 t3 fz0 fz1 fz2 fz3 ls lt
          have r0 : w9.cell? ⟨w.heap.size + 1 + 1, 0, none⟩ = some (.slice An nn cn) := (blk_cell HT9.out 0).trans rfl
          have r1 : w9.cell? ⟨w.heap.size + 1 + 1, 1, none⟩ = some (.slice A2 n2 c2) := (blk_cell HT9.out 1).trans rfl
          have r2 : w9.cell? ⟨w.heap.size + 1 + 1, 2, none⟩ = some (.int .i64 bk) := (blk_cell HT9.out 2).trans rfl
          have r3 : w9.cell? ⟨w.heap.size + 1 + 1, 3, none⟩ = some (.slice B k c4) := (blk_cell HT9.out 3).trans rfl
          exact bodyPost_ret (v := .agg #[.slice An nn cn, .slice A2 n2 c2, .int .i64 bk, .slice B k c4]) (by simp [results, Tryz.results63, go_sem, r0, r1, r2, r3]) rfl ⟨B, k, c4, rfl, by rw [HOS.out, ← HRES.out]; exact HL.out.1, by rw [HOS.out, ← HRES.out]; exact owns_mono HO9.out HB01.out.size, HB9.out⟩
end Go.Proofs.YtobjahlmjcnfoaaGreat

namespace Go.Proofs.YtobjahlmjcnfoaaGreat
open Go.RowKit Go.Sort
attribute [local go_sem ↓] Go.wp_at_zero Go.wp_at_succ

set_option maxHeartbeats 6400000 in
set_option maxRecDepth 100000 in
theorem filled_ref (hO : OrderP) (f : E.Fd) (An : Option Addr) (nn cn : Nat) (ps : List E.Rp) (A2 : Option Addr) (n2 c2 : Nat) (bk : Int) (A3 : Option Addr) (n3 c3 : Nat) (w : World) (hn : ps.length = nn) (hr : RdP w w.heap.size An ps) (hm : nn ≤ 400) :
    Calls Tryz.prog 64 #[.agg #[.int .i64 f.places, .int .i64 f.wilds, .int .i64 f.guards, .int .i64 f.close, .int .i64 f.freeze], .agg #[.slice An nn cn, .slice A2 n2 c2, .int .i64 bk, .slice A3 n3 c3]] w fun e w' => ∃ A m c, e = .returned (.slice A m c) ∧ (E.rfill f (ordF ps) [] 0).length = m ∧ w'.ownsRow w.heap.size 3 1 (.slice A m c) m (flatI (E.rfill f (ordF ps) [] 0)) ∧ Below w.heap.size w w' := by
  have HN := hide hn
  have HR := hide hr
  have HM := hide hm
  clear hn hr hm
  go_enter Tryz.func64, Tryz.ntmps64
  go_upto_region 1 with fail
  obtain ⟨w0, hw0⟩ : ∃ q, (w.alloc (.cells #[.int .i64 f.places, .int .i64 f.wilds, .int .i64 f.guards, .int .i64 f.close, .int .i64 f.freeze] 23)).alloc (.cells #[.slice An nn cn, .slice A2 n2 c2, .int .i64 bk, .slice A3 n3 c3] 53) = q := ⟨_, rfl⟩
  have HB0 := hide (show Below w.heap.size w w0 by rw [← hw0]; (repeat' first | exact zbR _ _ | assumption | refine zbD ?_ | refine zbA ?_ ?_ _ | refine zbS ?_ ?_ _ | refine zbT ?_ (by assumption) ?_ | (simp; done) | (simp; omega) | omega))
  have HF0 := hide (show w0.heap[w.heap.size]? = some (.cells #[.int .i64 f.places, .int .i64 f.wilds, .int .i64 f.guards, .int .i64 f.close, .int .i64 f.freeze] 23 (0, 0)) by rw [← hw0]; exact (Below.heap_alloc _ _ _ (by first | (simp; done) | (simp; omega) | omega)).trans (World.alloc_heap_new _ _))
  have HS0 := hide (show w0.heap[w.heap.size + 1]? = some (.cells #[.slice An nn cn, .slice A2 n2 c2, .int .i64 bk, .slice A3 n3 c3] 53 (0, 0)) by rw [← hw0]; exact (congrArg _ (by simp)).trans (World.alloc_heap_new _ _))
  rw [hw0]
  clear hw0
  have HR0 := hide ((HR.out.below HB0.out).mono HB0.out.size)
  have s0 : w0.cell? ⟨w.heap.size + 1, 0, none⟩ = some (.slice An nn cn) := (blk_cell HS0.out 0).trans rfl
  have s1 : w0.cell? ⟨w.heap.size + 1, 1, none⟩ = some (.slice A2 n2 c2) := (blk_cell HS0.out 1).trans rfl
  have s2 : w0.cell? ⟨w.heap.size + 1, 2, none⟩ = some (.int .i64 bk) := (blk_cell HS0.out 2).trans rfl
  have s3 : w0.cell? ⟨w.heap.size + 1, 3, none⟩ = some (.slice A3 n3 c3) := (blk_cell HS0.out 3).trans rfl
  have ls := blk_lt HS0.out
  go_wp2_with (go_at_call 20; refine (hO An nn cn ps A2 n2 c2 bk A3 n3 c3 w0 HN.out HR0.out HM.out).mono ?_; rintro e w1 ⟨B0, m, c, rfl, hlen, hown, hb1⟩; have HLO := hide hlen; have HOO := hide hown; have HB1 := hide hb1; clear hlen hown hb1)
  clear s0 s1 s2 s3 ls
  obtain ⟨os, hos⟩ : ∃ q, ordF ps = q := ⟨_, rfl⟩
  have HOS := hide hos
  rw [hos] at HLO HOO
  clear hos
  have HM4 := hide (show m ≤ 400 by have h1 := ordF_length ps; rw [HOS.out, HLO.out, HN.out] at h1; have := HM.out; omega)
  have HRO := hide (owns_RdP HOO.out HLO.out)
  have HB01 := hide (zbT HB0.out HB1.out HB0.out.size)
  have HF1 := hide ((HB1.out.block _ (blk_lt HF0.out)).trans HF0.out)
  go_loopw [5, 7, 8] (fun bf gg i wr => ∃ (i' : Nat) (B : Option Addr) (k c4 : Nat) (outs : List Int) (g : Int), i' ≤ m ∧ bf = .slice B k c4 ∧ gg = .int .i64 g ∧ i = .int .i64 i' ∧ Hid (E.rfill f (os.drop i') outs g = E.rfill f os [] 0) ∧ Hid (wr.ownsRow w1.heap.size 3 1 (.slice B k c4) k (flatI outs)) ∧ Hid (outs.length = k ∧ k ≤ i' ∧ 0 ≤ g ∧ g ≤ (i' : Int)) ∧ Hid (Below w1.heap.size w1 wr)) (fun _ _ i _ => m - (intOf i).toNat)
  case atStart => exact ⟨0, none, 0, 0, [], 0, by omega, rfl, rfl, rfl, hide rfl, hide ⟨rfl, .inl ⟨rfl, rfl⟩⟩, hide ⟨rfl, by omega, by omega, by omega⟩, hide (Below.refl _ _)⟩
  case round =>
    obtain ⟨i, B, k, c4, outs, g, hi, rfl, rfl, rfl, HE, HO, HL, HBR⟩ := hrel
    have hm4 := HM4.out
    have hk4 : k ≤ 400 := by have := HL.out; omega
    have hg0 : 0 ≤ g := HL.out.2.2.1
    have hg4 : g ≤ 400 := by have := HL.out; omega
    by_cases hin : i < m
    · obtain ⟨x, hx⟩ : ∃ q, os[i]? = some q := ⟨_, List.getElem?_eq_getElem (by have := HLO.out; omega)⟩
      have HX := hide hx
      have HDR := hide (show os.drop i = x :: os.drop (i + 1) by
        obtain ⟨h1, h2⟩ := List.getElem?_eq_some_iff.1 hx
        rw [List.drop_eq_getElem_cons h1, h2])
      obtain ⟨bq, oq, hA, hbq, d0, d1, d2, d3, d4, d5, d6⟩ := (HRO.out.below HBR.out) i x hx
      subst hA
      have hlq : bq < wr.heap.size := Nat.lt_of_lt_of_le hbq HBR.out.size
      have HFR := hide ((HBR.out.block _ (blk_lt HF1.out)).trans HF1.out)
      have x0 : wr.cell? ⟨w.heap.size, 0, none⟩ = some (.int .i64 f.places) := (blk_cell HFR.out 0).trans rfl
      have x2 : wr.cell? ⟨w.heap.size, 2, none⟩ = some (.int .i64 f.guards) := (blk_cell HFR.out 2).trans rfl
      have lx := blk_lt HFR.out
      clear hx
      have hi1 : (i : Int) < (m : Int) := by omega
      have hi0 : (0 : Int) ≤ (i : Int) := by omega
      by_cases hp : (k : Int) < f.places
      · cases hgx : x.grd
        · have HG := hide hgx
          have d2' : wr.cell? ⟨bq, oq + i * 7 + 2, none⟩ = some (.bool false) := by rw [d2, hgx]
          clear d2 hgx
          go_wp2_with (at_builtin; refine wpList_app_at rfl (.tmp 36) (.tmp 42) rfl w1.heap.size (.slice B k c4) outs k rfl (HO.out.alloc _) (some ⟨_, 0, none⟩) 1 1 [x.player] rfl rfl (rdI_one (World.alloc_heap_new _ _)) (fun e => by cases e) (by omega) (by omega) (by have := HBR.out.size; simp; omega) ?_; intro B5 c5 w9 hown2 hgrow; have HO5 := hide hown2; have HB9 := hide ((zbA HBR.out HBR.out.size _).trans (grown_below (B := w1.heap.size) hgrow (by have := HBR.out.size; simp; omega) (fun g hg => (HO.out.lt g hg).1))); have HF9 := hide ((HB9.out.block _ (blk_lt HF1.out)).trans HF1.out); have HR9 := hide (HRO.out.below HB9.out); clear hown2 hgrow; obtain ⟨b9, o9, hA9, _, e0, e1, e2, e3, e4, e5, e6⟩ := HR9.out i x HX.out; injection hA9 with hA9; injection hA9 with hA91 hA92; subst hA91 hA92; rw [HG.out] at e2)
          go_roundw
          case rel => exact ⟨i + 1, B5, k + 1, c5, outs ++ [x.player], g, by omega, rfl, rfl, by go_num, hide (by rw [← HE.out, HDR.out, E.rfill, if_pos ⟨by have := HL.out; omega, .inl HG.out⟩, HG.out]; rfl), HO5, hide (by have := HL.out; simp; omega), HB9⟩
          case measure => simp [intOf]; omega
        · have HG := hide hgx
          have d2' : wr.cell? ⟨bq, oq + i * 7 + 2, none⟩ = some (.bool true) := by rw [d2, hgx]
          clear d2 hgx
          by_cases hg : g < f.guards
          · go_wp2_with (at_builtin; refine wpList_app_at rfl (.tmp 36) (.tmp 42) rfl w1.heap.size (.slice B k c4) outs k rfl (HO.out.alloc _) (some ⟨_, 0, none⟩) 1 1 [x.player] rfl rfl (rdI_one (World.alloc_heap_new _ _)) (fun e => by cases e) (by omega) (by omega) (by have := HBR.out.size; simp; omega) ?_; intro B5 c5 w9 hown2 hgrow; have HO5 := hide hown2; have HB9 := hide ((zbA HBR.out HBR.out.size _).trans (grown_below (B := w1.heap.size) hgrow (by have := HBR.out.size; simp; omega) (fun g hg => (HO.out.lt g hg).1))); have HF9 := hide ((HB9.out.block _ (blk_lt HF1.out)).trans HF1.out); have HR9 := hide (HRO.out.below HB9.out); clear hown2 hgrow; obtain ⟨b9, o9, hA9, _, e0, e1, e2, e3, e4, e5, e6⟩ := HR9.out i x HX.out; injection hA9 with hA9; injection hA9 with hA91 hA92; subst hA91 hA92; rw [HG.out] at e2)
            go_roundw
            case rel => exact ⟨i + 1, B5, k + 1, c5, outs ++ [x.player], g + 1, by omega, rfl, by go_num, by go_num, hide (by rw [← HE.out, HDR.out, E.rfill, if_pos ⟨by have := HL.out; omega, .inr hg⟩, HG.out]; rfl), HO5, hide (by have := HL.out; simp; omega), HB9⟩
            case measure => simp [intOf]; omega
          · have hg' : f.guards ≤ g := by omega
            clear hg
            go_wp2_with fail
            go_roundw
            case rel => exact ⟨i + 1, B, k, c4, outs, g, by omega, rfl, rfl, by go_num, hide (by rw [← HE.out, HDR.out, E.rfill, if_neg (by rintro ⟨_, e | e⟩; (rw [HG.out] at e; cases e); omega)]), HO, hide (by have := HL.out; omega), HBR⟩
            case measure => simp [intOf]; omega
      · have hp' : f.places ≤ (k : Int) := by omega
        clear hp
        go_wp2_with fail
        go_roundw
        case rel => exact ⟨i + 1, B, k, c4, outs, g, by omega, rfl, rfl, by go_num, hide (by rw [← HE.out, HDR.out, E.rfill, if_neg (by have := HL.out; omega)]), HO, hide (by have := HL.out; omega), HBR⟩
        case measure => simp [intOf]; omega
    · have hin2 : i = m := by omega
      subst hin2
      have hE := HE.out
      rw [List.drop_eq_nil_of_le (by have := HLO.out; omega)] at hE
      have HE2 := hide (show outs = E.rfill f os [] 0 from hE)
      clear hE
      go_wp2_with fail
      go_ret
      exact ⟨B, k, c4, rfl, by rw [HOS.out, ← HE2.out]; exact HL.out.1, by rw [HOS.out, ← HE2.out]; exact owns_mono HO.out HB01.out.size, HB01.out.trans (HBR.out.mono HB01.out.size)⟩
end Go.Proofs.YtobjahlmjcnfoaaGreat
