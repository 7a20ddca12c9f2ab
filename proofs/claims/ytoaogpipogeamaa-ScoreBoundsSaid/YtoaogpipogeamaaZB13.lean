/-
  Part of a claim's texts: contracts of the program's functions and the plain functions that they compute, in build order.
-/
import Derived.Laws.AppendOwnNone
import Derived.Deep.OwnRows
import Derived.Test.YtoaogpipogeamaaZB07
import Derived.Test.YtoaogpipogeamaaZB09
import Derived.Test.YtoaogpipogeamaaZB10
import Derived.Test.YtoaogpipogeamaaZB11
import Derived.Test.YtoaogpipogeamaaZB12
namespace Go.Proofs.Ytoaogpipogeamaa
open Go.RowKit
attribute [local go_sem ↓] Go.wp_at_zero Go.wp_at_succ

theorem owns_mono' {w : World} {base base' : Nat} {e : TypeId} {size : Nat} {v : Value} {n : Nat} {xs : List Value} (h : w.ownsRow base e size v n xs) (hb : base' ≤ base) : w.ownsRow base' e size v n xs :=
  ⟨h.1, h.2.imp id fun ⟨g, cap, cur, e1, hg, r⟩ => ⟨g, cap, cur, e1, Nat.le_trans hb hg, r⟩⟩
theorem refPoint_any {w : World} {base : Nat} {m : M.Mt} {sv gv : Value} (f : M.Fm) (hf : m.f = f) (side : Int) (k : Nat) (h : RAt w base m sv gv) (hbase : base ≤ w.heap.size) (hok : M.Ok m k) (hk : k ≤ 650) :
    Calls Try.prog 64 #[.agg #[.int .i64 f.sets, .int .i64 f.games, .bool f.noAd, .int .i64 f.tie, .int .i64 f.to, .int .i64 f.lastTie, .int .i64 f.lastTo, .int .i64 f.first, .int .i64 f.next, .bool f.doubles], .agg #[sv, .int .i64 m.games.A, .int .i64 m.games.B, .int .i64 m.pts.A, .int .i64 m.pts.B, .int .i64 m.server, .int .i64 m.ends, .int .i64 m.balls, .int .i64 m.winner, .int .i64 m.opens, gv, .bool m.fresh], .int .i64 side] w fun e w' => ∃ sv' gv', e = .returned (.agg #[sv', .int .i64 (M.rpoint m side).games.A, .int .i64 (M.rpoint m side).games.B, .int .i64 (M.rpoint m side).pts.A, .int .i64 (M.rpoint m side).pts.B, .int .i64 (M.rpoint m side).server, .int .i64 (M.rpoint m side).ends, .int .i64 (M.rpoint m side).balls, .int .i64 (M.rpoint m side).winner, .int .i64 (M.rpoint m side).opens, gv', .bool (M.rpoint m side).fresh]) ∧ RAt w' base (M.rpoint m side) sv' gv' ∧ Below w.heap.size w w' := by
  subst hf
  obtain ⟨A, c, rfl⟩ := own_form h.s
  obtain ⟨A2, c2, rfl⟩ := own_form h.g
  obtain ⟨a1, a2, a3, a4, a5, a6, a7, a8, a9⟩ := hok
  have hp := plus_le side a8
  have hgg : ∀ win, 0 ≤ (M.plus m.games win).A ∧ 0 ≤ (M.plus m.games win).B ∧ (M.plus m.games win).A ≤ 9000 ∧ (M.plus m.games win).B ≤ 9000 := fun win => by
    have := plus_le win a7
    omega
  cases hti : M.rtied m.f m.sets m.games
  · exact refpoint_no side h rfl rfl a1 (by omega) (by omega) (small_of a8 (by omega)) (small_of hp (by omega)) (by omega) (by omega) a4 hbase (small_of a7 (by omega)) (by omega) hgg hti
  · exact refpoint_yes side h rfl rfl a1 (by omega) (by omega) (small_of a8 (by omega)) (small_of hp (by omega)) (by omega) (by omega) a4 hbase (small_of a7 (by omega)) (by omega) hgg hti
theorem refNext_f {w : World} {base : Nat} {m : M.Mt} {sv gv : Value} (f : M.Fm) (hf : m.f = f) (k : Nat) (h : RAt w base m sv gv) (hok : M.Ok m k) (hk : k ≤ 650) :
    Calls Try.prog 65 #[.agg #[.int .i64 f.sets, .int .i64 f.games, .bool f.noAd, .int .i64 f.tie, .int .i64 f.to, .int .i64 f.lastTie, .int .i64 f.lastTo, .int .i64 f.first, .int .i64 f.next, .bool f.doubles], .agg #[sv, .int .i64 m.games.A, .int .i64 m.games.B, .int .i64 m.pts.A, .int .i64 m.pts.B, .int .i64 m.server, .int .i64 m.ends, .int .i64 m.balls, .int .i64 m.winner, .int .i64 m.opens, gv, .bool m.fresh]] w fun e w' => e = .returned (.int .i64 (M.rnext m)) ∧ Below w.heap.size w w' := by
  subst hf
  obtain ⟨a1, a2, a3, a4, a5, a6, a7, a8, a9⟩ := hok
  exact refNext_any h a1 (by omega) (by omega) a4 (by omega)
theorem RunPost.err {f : M.Fm} {first : Int} {xs : List Int} {w w' : World} {m : M.Mt} {l : List Int} (hv : M.validB f = true) (hf : M.within first 0 1 = true) (hl : xs.length ≤ 600) (hp : M.rrunF m l = M.rrunF (M.rstart f first) xs) (hn : M.rrunF m l = none) (hb : Below w.heap.size w w') :
    RunPost f first xs w (.returned (.tuple #[.agg #[.slice none 0 0, .int .i64 0, .int .i64 0, .int .i64 0, .int .i64 0, .int .i64 0, .int .i64 0, .int .i64 0, .int .i64 0, .int .i64 0, .slice none 0 0, .bool false], .int .i64 11])) w' := by
  rw [hn] at hp
  refine RunPost.no ?_ ?_ hb
  · unfold M.rrunM; rw [if_pos hv, if_pos hf, if_neg (by omega), ← hp]
  · unfold M.rrunE; rw [if_pos hv, if_pos hf, if_neg (by omega), ← hp]


structure SetQ (w w' : World) (q : Nat) (cs : Array Value) : Prop where
  row : w'.heap[q]? = some (.cells cs 79 (0, 0))
  oth : ∀ k, k ≠ q → w'.heap[k]? = w.heap[k]?
  size : w'.heap.size = w.heap.size
  rat : ∀ base m sv gv, RAt w base m sv gv → RAt w' base m sv gv
  bel : ∀ B a, Below B a w → B ≤ q → Below B a w'
theorem SetQ.start {w : World} {q : Nat} {cs : Array Value} (h : w.heap[q]? = some (.cells cs 79 (0, 0))) : SetQ w w q cs := ⟨h, fun _ _ => rfl, rfl, fun _ _ _ _ h => h, fun _ _ h _ => h⟩
theorem SetQ.step {w w' : World} {q : Nat} {cs : Array Value} (h : SetQ w w' q cs) (i : Nat) (v : Value) : SetQ w (w'.setCell ⟨q, i, none⟩ v) q (cs.setIfInBounds i v) :=
  ⟨blk_set h.row i v, fun k hk => (heap_setCell_other _ ⟨q, i, none⟩ k v hk).trans (h.oth k hk), (by simp [h.size]), fun b m sv gv h0 => (h.rat b m sv gv h0).set h.row i v, fun B a hb hB => (h.bel B a hb hB).setCell (p := ⟨q, i, none⟩) hB v⟩
theorem row12 (u0 u1 u2 u3 u4 u5 u6 u7 u8 u9 u10 u11 v0 v1 v2 v3 v4 v5 v6 v7 v8 v9 v10 v11 : Value) : ((((((((((((#[u0, u1, u2, u3, u4, u5, u6, u7, u8, u9, u10, u11].setIfInBounds 0 v0).setIfInBounds 1 v1).setIfInBounds 2 v2).setIfInBounds 3 v3).setIfInBounds 4 v4).setIfInBounds 5 v5).setIfInBounds 6 v6).setIfInBounds 7 v7).setIfInBounds 8 v8).setIfInBounds 9 v9).setIfInBounds 10 v10).setIfInBounds 11 v11) = #[v0, v1, v2, v3, v4, v5, v6, v7, v8, v9, v10, v11] := by simp
theorem set12 {w : World} {q : Nat} {u0 u1 u2 u3 u4 u5 u6 u7 u8 u9 u10 u11 : Value} (h : w.heap[q]? = some (.cells #[u0, u1, u2, u3, u4, u5, u6, u7, u8, u9, u10, u11] 79 (0, 0))) (v0 v1 v2 v3 v4 v5 v6 v7 v8 v9 v10 v11 : Value) :
    SetQ w (World.setCell (World.setCell (World.setCell (World.setCell (World.setCell (World.setCell (World.setCell (World.setCell (World.setCell (World.setCell (World.setCell (World.setCell w ⟨q, 0, none⟩ (v0)) ⟨q, 1, none⟩ (v1)) ⟨q, 2, none⟩ (v2)) ⟨q, 3, none⟩ (v3)) ⟨q, 4, none⟩ (v4)) ⟨q, 5, none⟩ (v5)) ⟨q, 6, none⟩ (v6)) ⟨q, 7, none⟩ (v7)) ⟨q, 8, none⟩ (v8)) ⟨q, 9, none⟩ (v9)) ⟨q, 10, none⟩ (v10)) ⟨q, 11, none⟩ (v11)) q #[v0, v1, v2, v3, v4, v5, v6, v7, v8, v9, v10, v11] := by
  have h12 := (((((((((((((SetQ.start h).step 0 v0).step 1 v1).step 2 v2).step 3 v3).step 4 v4).step 5 v5).step 6 v6).step 7 v7).step 8 v8).step 9 v9).step 10 v10).step 11 v11)
  rwa [row12] at h12
theorem run_fin {f : M.Fm} {first : Int} {xs : List Int} {w wr : World} {m : M.Mt} {q : Nat} {sv gv : Value} {old : Array Value} (hv : M.validB f = true) (hf : M.within first 0 1 = true) (hl : xs.length ≤ 600) (hp : M.rrunF (M.rstart f first) xs = some m) (h : RAt wr q m sv gv)
    (h71 : wr.heap[w.heap.size + 1]? = some (.cells old 79 (0, 0))) (hq : w.heap.size ≤ q) (hb : Below w.heap.size w wr) :
    RunPost f first xs w (.returned (.tuple #[.agg #[sv, .int .i64 { m with server := M.rnext m }.games.A, .int .i64 { m with server := M.rnext m }.games.B, .int .i64 { m with server := M.rnext m }.pts.A, .int .i64 { m with server := M.rnext m }.pts.B, .int .i64 { m with server := M.rnext m }.server, .int .i64 { m with server := M.rnext m }.ends, .int .i64 { m with server := M.rnext m }.balls, .int .i64 { m with server := M.rnext m }.winner, .int .i64 { m with server := M.rnext m }.opens, gv, .bool { m with server := M.rnext m }.fresh], .int .i64 0])) (wr.setRow (w.heap.size + 1) #[sv, .int .i64 { m with server := M.rnext m }.games.A, .int .i64 { m with server := M.rnext m }.games.B, .int .i64 { m with server := M.rnext m }.pts.A, .int .i64 { m with server := M.rnext m }.pts.B, .int .i64 { m with server := M.rnext m }.server, .int .i64 { m with server := M.rnext m }.ends, .int .i64 { m with server := M.rnext m }.balls, .int .i64 { m with server := M.rnext m }.winner, .int .i64 { m with server := M.rnext m }.opens, gv, .bool { m with server := M.rnext m }.fresh]) := by
  have e1 : M.rrunM f first xs = { m with server := M.rnext m } := by unfold M.rrunM; rw [if_pos hv, if_pos hf, if_neg (by omega), hp]
  have e2 : M.rrunE f first xs = 0 := by unfold M.rrunE; rw [if_pos hv, if_pos hf, if_neg (by omega), hp]
  refine ⟨sv, gv, by rw [e1, e2], ?_, below_row hb (by omega) _⟩
  rw [e1]
  have h2 := h.setRow (cs' := #[sv, .int .i64 { m with server := M.rnext m }.games.A, .int .i64 { m with server := M.rnext m }.games.B, .int .i64 { m with server := M.rnext m }.pts.A, .int .i64 { m with server := M.rnext m }.pts.B, .int .i64 { m with server := M.rnext m }.server, .int .i64 { m with server := M.rnext m }.ends, .int .i64 { m with server := M.rnext m }.balls, .int .i64 { m with server := M.rnext m }.winner, .int .i64 { m with server := M.rnext m }.opens, gv, .bool { m with server := M.rnext m }.fresh]) h71
  exact ⟨owns_mono' h2.s hq, owns_mono' h2.g hq⟩

set_option maxHeartbeats 8000000 in
set_option maxRecDepth 100000 in
theorem run_yes (f : M.Fm) (first : Int) (A : Option Addr) (n c : Nat) (xs : List Int) (w : World) (hn : xs.length = n) (hr : RdI w w.heap.size A xs) (hm : n ≤ 600) (hv : M.validB f = true) (hf : M.within first 0 1 = true) :
    Calls Try.prog 40 #[.agg #[.int .i64 f.sets, .int .i64 f.games, .bool f.noAd, .int .i64 f.tie, .int .i64 f.to, .int .i64 f.lastTie, .int .i64 f.lastTo, .int .i64 f.first, .int .i64 f.next, .bool f.doubles], .int .i64 first, .slice A n c] w fun e w' => RunPost f first xs w e w' := by
  have HN := hide hn
  have HR := hide hr
  have HV := hide hv
  have HVV := hide ((M.validB_iff f).1 hv)
  have HF := hide hf
  have hff : 0 ≤ first ∧ first ≤ 1 := by simp [M.within] at hf; omega
  have hs0 : M.Ok { M.start f first with server := 0 } 1 := by
    obtain ⟨b1, b2, b3, b4, b5, b6, b7, b8, b9⟩ := Ok.mono (M.start_ok (f := f) (first := first) HVV.out hff) (Nat.zero_le 1)
    exact ⟨b1, b2, b3, b4, b5, b6, b7, b8, b9⟩
  have HST := hide (show M.Ok (M.rstart f first) 1 from Ok.rbegin (k := 0) hs0 (by simp [M.start]))
  have HSF := hide (show (M.rstart f first).f = f from rfl)
  have hl2 : ¬ (600 : Int) < (n : Int) := by omega
  clear hn hr hf hff hv hs0
  go_enter Try.func40, Try.ntmps40
  go_upto_region 8 with (first | (go_at_call 12; refine (RefCheck_good' f _ HV.out).mono ?_; rintro e w1 ⟨rfl, hb1⟩; have h71 : w1.heap[w.heap.size + 1]? = some (.cells #[.slice none 0 0, .int .i64 0, .int .i64 0, .int .i64 0, .int .i64 0, .int .i64 0, .int .i64 0, .int .i64 0, .int .i64 0, .int .i64 0, .slice none 0 0, .bool false] 79 (0, 0)) := (hb1.block _ (by simp)).trans (heap_alloc2_new w _ _); have h23 : w1.heap[w.heap.size]? = some (.cells #[.int .i64 f.sets, .int .i64 f.games, .bool f.noAd, .int .i64 f.tie, .int .i64 f.to, .int .i64 f.lastTie, .int .i64 f.lastTo, .int .i64 f.first, .int .i64 f.next, .bool f.doubles] 23 (0, 0)) := (hb1.block _ (by simp; omega)).trans (heap_alloc2_old w _ _); have hcf := fun i => cell_of_row w1 w.heap.size i _ _ _ h23; have hq1 : w.heap.size + 1 < w1.heap.size := (by have := hb1.size; simp at this; omega); have HB := hide (show Below w.heap.size w w1 from Below.trans (by (repeat' first | exact zbR _ _ | assumption | refine zbD ?_ | refine zbA ?_ ?_ _ | refine zbS ?_ ?_ _ | refine zbT ?_ (by assumption) ?_ | (simp; done) | (simp; omega) | omega)) (hb1.mono (by simp; omega))); clear hb1) | (go_at_call 37; refine (refWithin_t first 0 1 _ HF.out).mono ?_; rintro e w2 ⟨rfl, hb⟩; replace h71 := (hb.block _ (by omega)).trans h71; replace h23 := (hb.block _ (by omega)).trans h23; replace hcf := fun i => cell_of_row w2 w.heap.size i _ _ _ h23; replace HB := hide (HB.out.trans (hb.mono HB.out.size)); replace hq1 : w.heap.size + 1 < w2.heap.size := Nat.lt_of_lt_of_le hq1 hb.size; clear hb) | (go_at_call 63; refine (refBegin_any f first _ HVV.out).mono ?_; rintro e w3 ⟨rfl, hb⟩; replace h71 := (hb.block _ (by omega)).trans h71; replace h23 := (hb.block _ (by omega)).trans h23; replace hcf := fun i => cell_of_row w3 w.heap.size i _ _ _ h23; replace HB := hide (HB.out.trans (hb.mono HB.out.size)); replace hq1 : w.heap.size + 1 < w3.heap.size := Nat.lt_of_lt_of_le hq1 hb.size; clear hb) | (refine wpList_store_row rfl 79 _ _ rfl w3.heap.size _ rfl rfl 79 _ (heap_alloc_new w3 _) matchRow75 rfl (by simp [Value.oneCell']) ?_))
  have hm0 : (World.setRow (w3.alloc (.cells #[.slice none 0 0, .int .i64 0, .int .i64 0, .int .i64 0, .int .i64 0, .int .i64 0, .int .i64 0, .int .i64 0, .int .i64 0, .int .i64 0, .slice none 0 0, .bool false] 79 (0, 0))) w3.heap.size #[.slice none 0 0, .int .i64 (M.rstart f first).games.A, .int .i64 (M.rstart f first).games.B, .int .i64 (M.rstart f first).pts.A, .int .i64 (M.rstart f first).pts.B, .int .i64 (M.rstart f first).server, .int .i64 (M.rstart f first).ends, .int .i64 (M.rstart f first).balls, .int .i64 (M.rstart f first).winner, .int .i64 (M.rstart f first).opens, .slice none 0 0, .bool (M.rstart f first).fresh]).heap[w3.heap.size]? = some (.cells #[.slice none 0 0, .int .i64 (M.rstart f first).games.A, .int .i64 (M.rstart f first).games.B, .int .i64 (M.rstart f first).pts.A, .int .i64 (M.rstart f first).pts.B, .int .i64 (M.rstart f first).server, .int .i64 (M.rstart f first).ends, .int .i64 (M.rstart f first).balls, .int .i64 (M.rstart f first).winner, .int .i64 (M.rstart f first).opens, .slice none 0 0, .bool (M.rstart f first).fresh] 79 (0, 0)) := setRow_heap _ w3.heap.size _ _ 79 (0, 0) (heap_alloc_new w3 (.cells #[.slice none 0 0, .int .i64 0, .int .i64 0, .int .i64 0, .int .i64 0, .int .i64 0, .int .i64 0, .int .i64 0, .int .i64 0, .int .i64 0, .slice none 0 0, .bool false] 79 (0, 0)))
  have h71b : (World.setRow (w3.alloc (.cells #[.slice none 0 0, .int .i64 0, .int .i64 0, .int .i64 0, .int .i64 0, .int .i64 0, .int .i64 0, .int .i64 0, .int .i64 0, .int .i64 0, .slice none 0 0, .bool false] 79 (0, 0))) w3.heap.size #[.slice none 0 0, .int .i64 (M.rstart f first).games.A, .int .i64 (M.rstart f first).games.B, .int .i64 (M.rstart f first).pts.A, .int .i64 (M.rstart f first).pts.B, .int .i64 (M.rstart f first).server, .int .i64 (M.rstart f first).ends, .int .i64 (M.rstart f first).balls, .int .i64 (M.rstart f first).winner, .int .i64 (M.rstart f first).opens, .slice none 0 0, .bool (M.rstart f first).fresh]).heap[w.heap.size + 1]? = some (.cells #[.slice none 0 0, .int .i64 0, .int .i64 0, .int .i64 0, .int .i64 0, .int .i64 0, .int .i64 0, .int .i64 0, .int .i64 0, .int .i64 0, .slice none 0 0, .bool false] 79 (0, 0)) := (setRow_other _ _ _ _ (by omega)).trans ((heap_alloc_old _ _ (by omega)).trans h71)
  have h23b : (World.setRow (w3.alloc (.cells #[.slice none 0 0, .int .i64 0, .int .i64 0, .int .i64 0, .int .i64 0, .int .i64 0, .int .i64 0, .int .i64 0, .int .i64 0, .int .i64 0, .slice none 0 0, .bool false] 79 (0, 0))) w3.heap.size #[.slice none 0 0, .int .i64 (M.rstart f first).games.A, .int .i64 (M.rstart f first).games.B, .int .i64 (M.rstart f first).pts.A, .int .i64 (M.rstart f first).pts.B, .int .i64 (M.rstart f first).server, .int .i64 (M.rstart f first).ends, .int .i64 (M.rstart f first).balls, .int .i64 (M.rstart f first).winner, .int .i64 (M.rstart f first).opens, .slice none 0 0, .bool (M.rstart f first).fresh]).heap[w.heap.size]? = some (.cells #[.int .i64 f.sets, .int .i64 f.games, .bool f.noAd, .int .i64 f.tie, .int .i64 f.to, .int .i64 f.lastTie, .int .i64 f.lastTo, .int .i64 f.first, .int .i64 f.next, .bool f.doubles] 23 (0, 0)) := (setRow_other _ _ _ _ (by omega)).trans ((heap_alloc_old _ _ (by omega)).trans h23)
  have hBb : Below w.heap.size w (World.setRow (w3.alloc (.cells #[.slice none 0 0, .int .i64 0, .int .i64 0, .int .i64 0, .int .i64 0, .int .i64 0, .int .i64 0, .int .i64 0, .int .i64 0, .int .i64 0, .slice none 0 0, .bool false] 79 (0, 0))) w3.heap.size #[.slice none 0 0, .int .i64 (M.rstart f first).games.A, .int .i64 (M.rstart f first).games.B, .int .i64 (M.rstart f first).pts.A, .int .i64 (M.rstart f first).pts.B, .int .i64 (M.rstart f first).server, .int .i64 (M.rstart f first).ends, .int .i64 (M.rstart f first).balls, .int .i64 (M.rstart f first).winner, .int .i64 (M.rstart f first).opens, .slice none 0 0, .bool (M.rstart f first).fresh]) := below_row (HB.out.alloc HB.out.size _) HB.out.size _
  have hqb : w3.heap.size < (World.setRow (w3.alloc (.cells #[.slice none 0 0, .int .i64 0, .int .i64 0, .int .i64 0, .int .i64 0, .int .i64 0, .int .i64 0, .int .i64 0, .int .i64 0, .int .i64 0, .slice none 0 0, .bool false] 79 (0, 0))) w3.heap.size #[.slice none 0 0, .int .i64 (M.rstart f first).games.A, .int .i64 (M.rstart f first).games.B, .int .i64 (M.rstart f first).pts.A, .int .i64 (M.rstart f first).pts.B, .int .i64 (M.rstart f first).server, .int .i64 (M.rstart f first).ends, .int .i64 (M.rstart f first).balls, .int .i64 (M.rstart f first).winner, .int .i64 (M.rstart f first).opens, .slice none 0 0, .bool (M.rstart f first).fresh]).heap.size := by simp
  generalize (World.setRow (w3.alloc (.cells #[.slice none 0 0, .int .i64 0, .int .i64 0, .int .i64 0, .int .i64 0, .int .i64 0, .int .i64 0, .int .i64 0, .int .i64 0, .int .i64 0, .slice none 0 0, .bool false] 79 (0, 0))) w3.heap.size #[.slice none 0 0, .int .i64 (M.rstart f first).games.A, .int .i64 (M.rstart f first).games.B, .int .i64 (M.rstart f first).pts.A, .int .i64 (M.rstart f first).pts.B, .int .i64 (M.rstart f first).server, .int .i64 (M.rstart f first).ends, .int .i64 (M.rstart f first).balls, .int .i64 (M.rstart f first).winner, .int .i64 (M.rstart f first).opens, .slice none 0 0, .bool (M.rstart f first).fresh]) = w4 at hm0 h71b h23b hBb hqb ⊢
  have hqq : w.heap.size + 1 < w3.heap.size := hq1
  clear h71 h23 hcf hq1 HB
  generalize w3.heap.size = q at hm0 hqb hqq ⊢
  have H0 := hide hm0
  have H71 := hide h71b
  have H23 := hide h23b
  have HB4 := hide hBb
  clear hm0 h71b h23b hBb
  go_wp2_with fail
  go_loopw [9] (fun i wr => ∃ k : Nat, k ≤ n ∧ i = .int .i64 k ∧ ∃ (m : M.Mt) (sv gv : Value), Hid (M.rrunF m (xs.drop k) = M.rrunF (M.rstart f first) xs) ∧ Hid (M.Ok m (k + 1)) ∧ Hid (m.f = f) ∧ Hid (RAt wr q m sv gv) ∧ Hid (wr.heap[q]? = some (.cells #[sv, .int .i64 m.games.A, .int .i64 m.games.B, .int .i64 m.pts.A, .int .i64 m.pts.B, .int .i64 m.server, .int .i64 m.ends, .int .i64 m.balls, .int .i64 m.winner, .int .i64 m.opens, gv, .bool m.fresh] 79 (0, 0))) ∧ Hid (wr.heap[w.heap.size + 1]? = some (.cells #[.slice none 0 0, .int .i64 0, .int .i64 0, .int .i64 0, .int .i64 0, .int .i64 0, .int .i64 0, .int .i64 0, .int .i64 0, .int .i64 0, .slice none 0 0, .bool false] 79 (0, 0))) ∧ Hid (wr.heap[w.heap.size]? = some (.cells #[.int .i64 f.sets, .int .i64 f.games, .bool f.noAd, .int .i64 f.tie, .int .i64 f.to, .int .i64 f.lastTie, .int .i64 f.lastTo, .int .i64 f.first, .int .i64 f.next, .bool f.doubles] 23 (0, 0))) ∧ Hid (Below w.heap.size w wr) ∧ q < wr.heap.size) (fun i _ => n - (intOf i).toNat)
  case atStart => exact ⟨0, by omega, rfl, M.rstart f first, _, _, hide (by rfl), HST, HSF, hide ⟨World.ownsRow_nil _ _ _ _, World.ownsRow_nil _ _ _ _⟩, H0, H71, H23, HB4, hqb⟩
  case round =>
    obtain ⟨k, hk, rfl, m, sv, gv, hpl, hok, hmf, hat, hmq, h71, h23, hB, hql⟩ := hrel
    obtain ⟨A1, c1, e1⟩ := own_form hat.out.s
    obtain ⟨A2, c2, e2⟩ := own_form hat.out.g
    subst e1 e2
    replace hmq := hmq.out
    replace h71 := h71.out
    replace h23 := h23.out
    have hcm := fun i => cell_of_row wr q i _ _ _ hmq
    have hcf := fun i => cell_of_row wr w.heap.size i _ _ _ h23
    by_cases hlt : k < n
    · obtain ⟨x, hx⟩ : ∃ x, xs[k]? = some x := ⟨_, List.getElem?_eq_getElem (by have := HN.out; omega)⟩
      obtain ⟨b, o, hA, hbB, c0⟩ := (HR.out.below hB.out) k x hx
      subst hA
      have hd : xs.drop k = x :: xs.drop (k + 1) := by
        obtain ⟨hl, rfl⟩ := List.getElem?_eq_some_iff.1 hx
        exact List.drop_eq_getElem_cons hl
      have HD := hide hd
      clear hd hx
      cases hxw : M.within x 0 1
      · have HNO := hide (show M.rrunF m (xs.drop k) = none by rw [HD.out, M.rrunF_cons, if_pos (by left; exact hxw)])
        go_wp2_with (first | (go_at_call 37; refine (refWithin_f x 0 1 _ hxw).mono ?_; rintro e w5 ⟨rfl, hb⟩; replace c0 := (hb.cell (p := ⟨b, o + k, none⟩) (by show b < _; omega)).trans c0; replace hmq := (hb.block q (by omega)).trans hmq; replace hcm := fun i => cell_of_row w5 q i _ _ _ hmq; replace h71 := (hb.block _ (by omega)).trans h71; replace h23 := (hb.block _ (by omega)).trans h23; replace hcf := fun i => cell_of_row w5 w.heap.size i _ _ _ h23; replace hB := hide (hB.out.trans (hb.mono hB.out.size)); replace hat := hide (hat.out.below hb); replace hql : q < w5.heap.size := Nat.lt_of_lt_of_le hql hb.size; clear hb) | (refine store_zero75 rfl _ _ rfl (w.heap.size + 1) rfl rfl h71 ?_))
        refine bodyPost_ret (v := .tuple #[.agg #[.slice none 0 0, .int .i64 0, .int .i64 0, .int .i64 0, .int .i64 0, .int .i64 0, .int .i64 0, .int .i64 0, .int .i64 0, .int .i64 0, .slice none 0 0, .bool false], .int .i64 11]) (results_row_tmp Try.results40 _ _ (w.heap.size + 1) _ _ _ _ rfl h71 Try.underlying79 rfl matchRow75) rfl ?_
        exact RunPost.err HV.out HF.out (by have := HN.out; omega) hpl.out HNO.out hB.out
      · by_cases hwn : 0 ≤ m.winner
        · have HNO := hide (show M.rrunF m (xs.drop k) = none by rw [HD.out, M.rrunF_cons, if_pos (by right; exact hwn)])
          go_wp2_with (first | (go_at_call 37; refine (refWithin_t x 0 1 _ hxw).mono ?_; rintro e w5 ⟨rfl, hb⟩; replace c0 := (hb.cell (p := ⟨b, o + k, none⟩) (by show b < _; omega)).trans c0; replace hmq := (hb.block q (by omega)).trans hmq; replace hcm := fun i => cell_of_row w5 q i _ _ _ hmq; replace h71 := (hb.block _ (by omega)).trans h71; replace h23 := (hb.block _ (by omega)).trans h23; replace hcf := fun i => cell_of_row w5 w.heap.size i _ _ _ h23; replace hB := hide (hB.out.trans (hb.mono hB.out.size)); replace hat := hide (hat.out.below hb); replace hql : q < w5.heap.size := Nat.lt_of_lt_of_le hql hb.size; clear hb) | (refine store_zero75 rfl _ _ rfl (w.heap.size + 1) rfl rfl h71 ?_))
          refine bodyPost_ret (v := .tuple #[.agg #[.slice none 0 0, .int .i64 0, .int .i64 0, .int .i64 0, .int .i64 0, .int .i64 0, .int .i64 0, .int .i64 0, .int .i64 0, .int .i64 0, .slice none 0 0, .bool false], .int .i64 11]) (results_row_tmp Try.results40 _ _ (w.heap.size + 1) _ _ _ _ rfl h71 Try.underlying79 rfl matchRow75) rfl ?_
          exact RunPost.err HV.out HF.out (by have := HN.out; omega) hpl.out HNO.out hB.out
        · have HPL := hide (show M.rrunF (M.rpoint m x) (xs.drop (k + 1)) = M.rrunF (M.rstart f first) xs by rw [← hpl.out, HD.out, M.rrunF_cons, if_neg (by rw [hxw]; simp; omega)])
          go_upto_region 13 with (first | (go_at_call 37; refine (refWithin_t x 0 1 _ hxw).mono ?_; rintro e w5 ⟨rfl, hb⟩; replace c0 := (hb.cell (p := ⟨b, o + k, none⟩) (by show b < _; omega)).trans c0; replace hmq := (hb.block q (by omega)).trans hmq; replace hcm := fun i => cell_of_row w5 q i _ _ _ hmq; replace h71 := (hb.block _ (by omega)).trans h71; replace h23 := (hb.block _ (by omega)).trans h23; replace hcf := fun i => cell_of_row w5 w.heap.size i _ _ _ h23; replace hB := hide (hB.out.trans (hb.mono hB.out.size)); replace hat := hide (hat.out.below hb); replace hql : q < w5.heap.size := Nat.lt_of_lt_of_le hql hb.size; clear hb))
          have cm : w5.cell? ⟨q, 0, none⟩ = some (.slice A1 m.sets.length c1) ∧ w5.cell? ⟨q, 1, none⟩ = some (.int .i64 m.games.A) ∧ w5.cell? ⟨q, 2, none⟩ = some (.int .i64 m.games.B) ∧ w5.cell? ⟨q, 3, none⟩ = some (.int .i64 m.pts.A) ∧ w5.cell? ⟨q, 4, none⟩ = some (.int .i64 m.pts.B) ∧ w5.cell? ⟨q, 5, none⟩ = some (.int .i64 m.server) ∧ w5.cell? ⟨q, 6, none⟩ = some (.int .i64 m.ends) ∧ w5.cell? ⟨q, 7, none⟩ = some (.int .i64 m.balls) ∧ w5.cell? ⟨q, 8, none⟩ = some (.int .i64 m.winner) ∧ w5.cell? ⟨q, 9, none⟩ = some (.int .i64 m.opens) ∧ w5.cell? ⟨q, 10, none⟩ = some (.slice A2 m.log.length c2) ∧ w5.cell? ⟨q, 11, none⟩ = some (.bool m.fresh) := by (repeat' apply And.intro) <;> exact (cell_of_row _ _ _ _ _ _ hmq).trans rfl
          have cf : w5.cell? ⟨w.heap.size, 0, none⟩ = some (.int .i64 f.sets) ∧ w5.cell? ⟨w.heap.size, 1, none⟩ = some (.int .i64 f.games) ∧ w5.cell? ⟨w.heap.size, 2, none⟩ = some (.bool f.noAd) ∧ w5.cell? ⟨w.heap.size, 3, none⟩ = some (.int .i64 f.tie) ∧ w5.cell? ⟨w.heap.size, 4, none⟩ = some (.int .i64 f.to) ∧ w5.cell? ⟨w.heap.size, 5, none⟩ = some (.int .i64 f.lastTie) ∧ w5.cell? ⟨w.heap.size, 6, none⟩ = some (.int .i64 f.lastTo) ∧ w5.cell? ⟨w.heap.size, 7, none⟩ = some (.int .i64 f.first) ∧ w5.cell? ⟨w.heap.size, 8, none⟩ = some (.int .i64 f.next) ∧ w5.cell? ⟨w.heap.size, 9, none⟩ = some (.bool f.doubles) := by (repeat' apply And.intro) <;> exact (cell_of_row _ _ _ _ _ _ h23).trans rfl
          clear hcm hcf
          refine wp_region_T_drew (S := (fun w' => w5.heap.size ≤ w'.heap.size ∧ w'.cell? ⟨q, 0, none⟩ = some (.slice A1 m.sets.length c1) ∧ w'.cell? ⟨q, 1, none⟩ = some (.int .i64 m.games.A) ∧ w'.cell? ⟨q, 2, none⟩ = some (.int .i64 m.games.B) ∧ w'.cell? ⟨q, 3, none⟩ = some (.int .i64 m.pts.A) ∧ w'.cell? ⟨q, 4, none⟩ = some (.int .i64 m.pts.B) ∧ w'.cell? ⟨q, 5, none⟩ = some (.int .i64 m.server) ∧ w'.cell? ⟨q, 6, none⟩ = some (.int .i64 m.ends) ∧ w'.cell? ⟨q, 7, none⟩ = some (.int .i64 m.balls) ∧ w'.cell? ⟨q, 8, none⟩ = some (.int .i64 m.winner) ∧ w'.cell? ⟨q, 9, none⟩ = some (.int .i64 m.opens) ∧ w'.cell? ⟨q, 10, none⟩ = some (.slice A2 m.log.length c2) ∧ w'.cell? ⟨q, 11, none⟩ = some (.bool m.fresh) ∧ w'.cell? ⟨w.heap.size, 0, none⟩ = some (.int .i64 f.sets) ∧ w'.cell? ⟨w.heap.size, 1, none⟩ = some (.int .i64 f.games) ∧ w'.cell? ⟨w.heap.size, 2, none⟩ = some (.bool f.noAd) ∧ w'.cell? ⟨w.heap.size, 3, none⟩ = some (.int .i64 f.tie) ∧ w'.cell? ⟨w.heap.size, 4, none⟩ = some (.int .i64 f.to) ∧ w'.cell? ⟨w.heap.size, 5, none⟩ = some (.int .i64 f.lastTie) ∧ w'.cell? ⟨w.heap.size, 6, none⟩ = some (.int .i64 f.lastTo) ∧ w'.cell? ⟨w.heap.size, 7, none⟩ = some (.int .i64 f.first) ∧ w'.cell? ⟨w.heap.size, 8, none⟩ = some (.int .i64 f.next) ∧ w'.cell? ⟨w.heap.size, 9, none⟩ = some (.bool f.doubles) ∧ w'.cell? ⟨b, o + k, none⟩ = some (.int .i64 x))) 7 (by kernel_rfl) ?_ (fun hD0 => ?_)
          · (try dsimp only); (first | (go_keep; done) | (go_split_ands; (repeat' apply And.intro) <;> first | (go_keep; done) | (simp [*, zcA, zcP, zfA, zfP]; done) | (simp [zcA, zcP] <;> rfl) | (simp [*, zsS, zsO, zsA]; done) | ((first | refine (hc _ _ ?_).trans ?_ | refine (hf _ _ ?_).trans ?_) <;> first | assumption | (simp; done) | (simp; omega) | omega | (go_keep; done) | (simp [*, zcA, zcP, zfA, zfP]; done) | (simp [zcA, zcP]; rfl)) | (repeat' first | exact zbR _ _ | assumption | refine zbD ?_ | refine zbA ?_ ?_ _ | refine zbS ?_ ?_ _ | refine zbT ?_ (by assumption) ?_ | (simp; done) | (simp; omega) | omega)))
          refine takeT (v := ?_) 0 rfl (by kernel_rfl) (by kernel_rfl) (by kernel_rfl) (by kernel_rfl) (fun _ _ _ h => h) (Or.inl ⟨by rfl, ?_⟩) (by assumption) ?_; rotate_left
          · (intro w hSw; (try dsimp only at hSw); go_simp; try with_reducible rfl)
          try simp only [Act.put, zl, z0, z1]
          refine takeT (v := ?_) 1 rfl (by kernel_rfl) (by kernel_rfl) (by kernel_rfl) (by kernel_rfl) (fun _ _ _ h => h) (Or.inl ⟨by rfl, ?_⟩) (by assumption) ?_; rotate_left
          · (intro w hSw; (try dsimp only at hSw); go_simp; try with_reducible rfl)
          try simp only [Act.put, zl, z0, z1]
          refine takeT (v := ?_) 2 rfl (by kernel_rfl) (by kernel_rfl) (by kernel_rfl) (by kernel_rfl) (fun _ _ _ h => h) (Or.inl ⟨by rfl, ?_⟩) (by assumption) ?_; rotate_left
          · (intro w hSw; (try dsimp only at hSw); go_simp; try with_reducible rfl)
          try simp only [Act.put, zl, z0, z1]
          refine takeT (v := ?_) 3 rfl (by kernel_rfl) (by kernel_rfl) (by kernel_rfl) (by kernel_rfl) (fun _ _ _ h => h) (Or.inl ⟨by rfl, ?_⟩) (by assumption) ?_; rotate_left
          · (intro w hSw; (try dsimp only at hSw); go_simp; try with_reducible rfl)
          try simp only [Act.put, zl, z0, z1]
          refine takeT (v := ?_) 4 rfl (by kernel_rfl) (by kernel_rfl) (by kernel_rfl) (by kernel_rfl) (fun _ _ _ h => h) (Or.inl ⟨by rfl, ?_⟩) (by assumption) ?_; rotate_left
          · (intro w hSw; (try dsimp only at hSw); go_simp; try with_reducible rfl)
          try simp only [Act.put, zl, z0, z1]
          refine takeT (v := ?_) 5 rfl (by kernel_rfl) (by kernel_rfl) (by kernel_rfl) (by kernel_rfl) (fun _ _ _ h => h) (Or.inl ⟨by rfl, ?_⟩) (by assumption) ?_; rotate_left
          · (intro w hSw; (try dsimp only at hSw); go_simp; try with_reducible rfl)
          try simp only [Act.put, zl, z0, z1]
          refine wpAnyT_ready (rs := [6]) (by kernel_rfl) (by simp) ?_; refine consT 6 rfl (fun K hK => ?_) AllReadyT.nil; go_simp
          (go_at_call 64; refine (refPoint_any (base := q) f hmf.out x (k + 1) (RAt.drew hat.out) (by first | omega | (simp; omega)) hok.out (by omega)).mono ?_; rintro e wP ⟨svP, gvP, rfl, hatP, hbP⟩; obtain ⟨A3, c3, e3⟩ := own_form hatP.s; obtain ⟨A4, c4, e4⟩ := own_form hatP.g; subst e3 e4; obtain ⟨hc, hf⟩ := bcell hbP; have hzP := hbP.size; (try simp at hzP); have hmq9 := (hbP.block q (by first | omega | (simp; omega))).trans hmq; have hfrP := fun i => frozen_of_row wP q i _ _ hmq9; have HATP := hide hatP)
          refine hK.out _ _ ?_ (fun hD1 => ?_)
          · (try dsimp only); (first | (go_keep; done) | (go_split_ands; (repeat' apply And.intro) <;> first | (go_keep; done) | (simp [*, zcA, zcP, zfA, zfP]; done) | (simp [zcA, zcP] <;> rfl) | (simp [*, zsS, zsO, zsA]; done) | ((first | refine (hc _ _ ?_).trans ?_ | refine (hf _ _ ?_).trans ?_) <;> first | assumption | (simp; done) | (simp; omega) | omega | (go_keep; done) | (simp [*, zcA, zcP, zfA, zfP]; done) | (simp [zcA, zcP]; rfl)) | (repeat' first | exact zbR _ _ | assumption | refine zbD ?_ | refine zbA ?_ ?_ _ | refine zbS ?_ ?_ _ | refine zbT ?_ (by assumption) ?_ | (simp; done) | (simp; omega) | omega)))
          clear hK K hD0; try simp only [Act.put, zl, z0, z1]
          refine wpAnyT_ready (rs := [7]) (by kernel_rfl) (by simp) ?_
          refine lastT rfl (fun K hK => ?_)
          (try dsimp only at hD1)
          go_simp
          refine hK.out _ _ ?_
          clear hK K
          try simp only [Act.put, zl, z0, z1]
          refine wpAnyT_done (by kernel_rfl) ?_ _
          clear hD1 hc hf
          have hG := set12 hmq9 (.slice A3 (M.rpoint m x).sets.length c3) (.int .i64 (M.rpoint m x).games.A) (.int .i64 (M.rpoint m x).games.B) (.int .i64 (M.rpoint m x).pts.A) (.int .i64 (M.rpoint m x).pts.B) (.int .i64 (M.rpoint m x).server) (.int .i64 (M.rpoint m x).ends) (.int .i64 (M.rpoint m x).balls) (.int .i64 (M.rpoint m x).winner) (.int .i64 (M.rpoint m x).opens) (.slice A4 (M.rpoint m x).log.length c4) (.bool (M.rpoint m x).fresh)
          have hmqG := hG.row
          have h71G := (hG.oth (w.heap.size + 1) (by omega)).trans ((hbP.block _ (by first | omega | (simp; omega))).trans h71)
          have h23G := (hG.oth w.heap.size (by omega)).trans ((hbP.block _ (by first | omega | (simp; omega))).trans h23)
          have hatG := hG.rat _ _ _ _ hatP
          have hBG := hG.bel _ _ (hB.out.drew.trans (hbP.mono (by show w.heap.size ≤ w5.heap.size; exact hB.out.size))) (by omega)
          have hqlG := Nat.lt_of_lt_of_le (Nat.lt_of_lt_of_le hql hzP) (Nat.le_of_eq hG.size.symm)
          clear hG
          generalize (World.setCell (World.setCell (World.setCell (World.setCell (World.setCell (World.setCell (World.setCell (World.setCell (World.setCell (World.setCell (World.setCell (World.setCell wP ⟨q, 0, none⟩ (.slice A3 (M.rpoint m x).sets.length c3)) ⟨q, 1, none⟩ (.int .i64 (M.rpoint m x).games.A)) ⟨q, 2, none⟩ (.int .i64 (M.rpoint m x).games.B)) ⟨q, 3, none⟩ (.int .i64 (M.rpoint m x).pts.A)) ⟨q, 4, none⟩ (.int .i64 (M.rpoint m x).pts.B)) ⟨q, 5, none⟩ (.int .i64 (M.rpoint m x).server)) ⟨q, 6, none⟩ (.int .i64 (M.rpoint m x).ends)) ⟨q, 7, none⟩ (.int .i64 (M.rpoint m x).balls)) ⟨q, 8, none⟩ (.int .i64 (M.rpoint m x).winner)) ⟨q, 9, none⟩ (.int .i64 (M.rpoint m x).opens)) ⟨q, 10, none⟩ (.slice A4 (M.rpoint m x).log.length c4)) ⟨q, 11, none⟩ (.bool (M.rpoint m x).fresh)) = wG at hmqG h71G h23G hatG hBG hqlG ⊢
          have HAT := hide hatG
          have HMQ := hide hmqG
          have H7 := hide h71G
          have H2 := hide h23G
          have HBB := hide hBG
          clear hmqG h71G h23G hatG hBG hmq9 hfrP HATP hatP hbP cm cf hmq h71 h23 hat
          go_wp2_with fail
          go_roundw
          case rel => exact ⟨k + 1, by omega, by go_num, M.rpoint m x, _, _, HPL, hide (Ok.rpoint x hok.out), hide ((rpoint_f m x).trans hmf.out), HAT, HMQ, H7, H2, HBB, hqlG⟩
          case measure => simp [intOf]; omega
    · have hkn : k = n := by omega
      have hs : M.rrunF (M.rstart f first) xs = some m := by rw [← hpl.out, List.drop_of_length_le (by have := HN.out; omega)]; rfl
      have HS := hide hs
      clear hs
      subst hkn
      go_upto_region 15 with (first | (refine wpList_load_row rfl 79 _ rfl q rfl 79 _ (0, 0) _ hmq Try.underlying79 rfl matchRow75 ?_) | (go_at_call 65; refine (refNext_f f hmf.out (k + 1) hat.out hok.out (by omega)).mono ?_; rintro e w6 ⟨rfl, hb⟩; replace hmq := (hb.block q (by omega)).trans hmq; replace hcm := fun i => cell_of_row w6 q i _ _ _ hmq; have hfr := fun i => frozen_of_row w6 q i _ _ hmq; replace h71 := (hb.block _ (by omega)).trans h71; replace hat := hide (hat.out.below hb); replace hB := hide (hB.out.trans (hb.mono hB.out.size)); replace hql : q < w6.heap.size := Nat.lt_of_lt_of_le hql hb.size; clear hb))
      have hmqS : (World.setCell w6 ⟨q, 5, none⟩ (.int .i64 (M.rnext m))).heap[q]? = some (.cells #[.slice A1 m.sets.length c1, .int .i64 m.games.A, .int .i64 m.games.B, .int .i64 m.pts.A, .int .i64 m.pts.B, .int .i64 (M.rnext m), .int .i64 m.ends, .int .i64 m.balls, .int .i64 m.winner, .int .i64 m.opens, .slice A2 m.log.length c2, .bool m.fresh] 79 (0, 0)) := blk_set hmq 5 _
      have h71S := (heap_setCell_other w6 ⟨q, 5, none⟩ (w.heap.size + 1) (.int .i64 (M.rnext m)) (by show w.heap.size + 1 ≠ q; omega)).trans h71
      have hatS := hat.out.set hmq 5 (.int .i64 (M.rnext m))
      have hBS := hB.out.setCell (p := ⟨q, 5, none⟩) (by show w.heap.size ≤ q; omega) (.int .i64 (M.rnext m))
      generalize (World.setCell w6 ⟨q, 5, none⟩ (.int .i64 (M.rnext m))) = w7 at hmqS h71S hatS hBS ⊢
      have HATS := hide hatS
      have HBS := hide hBS
      clear hatS hBS hmq hcm h71 hat hB hfr
      go_wp2_with (first | (refine wpList_load_row rfl 79 _ rfl q rfl 79 _ (0, 0) _ hmqS Try.underlying79 rfl matchRow75 ?_) | (refine wpList_store_row rfl 79 _ _ rfl (w.heap.size + 1) _ rfl rfl 79 _ h71S matchRow75 rfl (by simp [Value.oneCell']) ?_))
      refine bodyPost_ret (v := .tuple #[.agg #[.slice A1 m.sets.length c1, .int .i64 m.games.A, .int .i64 m.games.B, .int .i64 m.pts.A, .int .i64 m.pts.B, .int .i64 (M.rnext m), .int .i64 m.ends, .int .i64 m.balls, .int .i64 m.winner, .int .i64 m.opens, .slice A2 m.log.length c2, .bool m.fresh], .int .i64 0]) (results_row_tmp Try.results40 _ _ (w.heap.size + 1) _ _ _ _ rfl (setRow_heap _ _ _ _ _ _ h71S) Try.underlying79 rfl matchRow75) rfl ?_
      exact run_fin HV.out HF.out (by have := HN.out; omega) HS.out HATS.out h71S (by omega) HBS.out

end Go.Proofs.Ytoaogpipogeamaa

namespace Go.Proofs.Ytoaogpipogeamaa
open Go.RowKit

theorem refRun_any (f : M.Fm) (first : Int) (A : Option Addr) (n c : Nat) (xs : List Int) (w : World) (hn : xs.length = n) (hr : RdI w w.heap.size A xs) (hm : n ≤ 1000000) :
    Calls Try.prog 40 #[.agg #[.int .i64 f.sets, .int .i64 f.games, .bool f.noAd, .int .i64 f.tie, .int .i64 f.to, .int .i64 f.lastTie, .int .i64 f.lastTo, .int .i64 f.first, .int .i64 f.next, .bool f.doubles], .int .i64 first, .slice A n c] w fun e w' => RunPost f first xs w e w' := by
  cases hv : M.validB f
  · exact run_no0 f first A n c xs w hn hm hv
  · cases hf : M.within first 0 1
    · exact run_no1 f first A n c xs w hn hm hv hf
    · by_cases hl : 600 < n
      · exact run_no2 f first A n c xs w hn hm hv hf hl
      · exact run_yes f first A n c xs w hn hr (by omega) hv hf

end Go.Proofs.Ytoaogpipogeamaa

namespace Go.Proofs.Ytoaogpipogeamaa
open Go.RowKit
attribute [local go_sem ↓] Go.wp_at_zero Go.wp_at_succ

theorem M.playE_long {f : M.Fm} {first : Int} {xs : List Int} (h : 600 < xs.length) : (M.playE f first xs == 0) = false := by
  unfold M.playE
  split
  · split
    · first | rfl | (rw [if_pos h]; rfl)
    · rfl
  · rfl

set_option maxHeartbeats 4000000 in
set_option maxRecDepth 100000 in
theorem ready_any (f : M.Fm) (first : Int) (A : Option Addr) (n c : Nat) (xs : List Int) (w : World) (hn : xs.length = n) (hr : RdI w w.heap.size A xs) (hm : n ≤ maxLen) :
    Calls Try.prog 23 #[.agg #[.int .i64 f.sets, .int .i64 f.games, .bool f.noAd, .int .i64 f.tie, .int .i64 f.to, .int .i64 f.lastTie, .int .i64 f.lastTo, .int .i64 f.first, .int .i64 f.next, .bool f.doubles], .agg #[.int .i64 first, .slice A n c]] w fun e w' => e = .returned (.bool (M.playE f first xs == 0)) ∧ Below w.heap.size w w' := by
  have HN := hide hn
  have HR := hide hr
  clear hn hr
  by_cases hl : (700 : Int) < (n : Int)
  · have ho : (M.playE f first xs == 0) = false := M.playE_long (by have := HN.out; omega)
    rw [ho]; clear ho
    go_enter Try.func23, Try.ntmps23
    go_wp2
    go_ret
    exact ⟨rfl, by (repeat' first | exact zbR _ _ | assumption | refine zbD ?_ | refine zbA ?_ ?_ _ | refine zbS ?_ ?_ _ | refine zbT ?_ (by assumption) ?_ | (simp; done) | (simp; omega) | omega)⟩
  · have hl2 : (n : Int) ≤ 700 := by omega
    have hnm : n ≤ 1000000 := by omega
    clear hm
    go_enter Try.func23, Try.ntmps23
    go_upto_region 4 with (first | (go_at_call 40; refine (refRun_any f first A n c xs _ HN.out ((HR.out.below (by (repeat' first | exact zbR _ _ | assumption | refine zbD ?_ | refine zbA ?_ ?_ _ | refine zbS ?_ ?_ _ | refine zbT ?_ (by assumption) ?_ | (simp; done) | (simp; omega) | omega))).mono (by simp; omega)) hnm).mono ?_; rintro e w1 ⟨sv, gv, rfl, hat, hb1⟩; obtain ⟨A1, c1, e1⟩ := own_form hat.s; obtain ⟨A2, c2, e2⟩ := own_form hat.g; subst e1 e2; have hq1 : w.heap.size + 1 < w1.heap.size := (by have := hb1.size; simp at this; omega); have HB1 := hide (show Below w.heap.size w w1 from Below.trans (by (repeat' first | exact zbR _ _ | assumption | refine zbD ?_ | refine zbA ?_ ?_ _ | refine zbS ?_ ?_ _ | refine zbT ?_ (by assumption) ?_ | (simp; done) | (simp; omega) | omega)) (hb1.mono (by simp; omega))); clear hat hb1) | (refine wpList_store_row rfl 79 _ _ rfl w1.heap.size _ rfl rfl 79 _ (heap_alloc_new w1 _) matchRow75 rfl (by simp [Value.oneCell']) ?_))
    have HBB := hide (below_row (b := w1.heap.size) (HB1.out.alloc HB1.out.size (.cells #[.slice none 0 0, .int .i64 0, .int .i64 0, .int .i64 0, .int .i64 0, .int .i64 0, .int .i64 0, .int .i64 0, .int .i64 0, .int .i64 0, .slice none 0 0, .bool false] 79 (0, 0))) HB1.out.size #[.slice A1 (M.rrunM f first xs).sets.length c1, .int .i64 (M.rrunM f first xs).games.A, .int .i64 (M.rrunM f first xs).games.B, .int .i64 (M.rrunM f first xs).pts.A, .int .i64 (M.rrunM f first xs).pts.B, .int .i64 (M.rrunM f first xs).server, .int .i64 (M.rrunM f first xs).ends, .int .i64 (M.rrunM f first xs).balls, .int .i64 (M.rrunM f first xs).winner, .int .i64 (M.rrunM f first xs).opens, .slice A2 (M.rrunM f first xs).log.length c2, .bool (M.rrunM f first xs).fresh])
    generalize World.setRow (w1.alloc (.cells #[.slice none 0 0, .int .i64 0, .int .i64 0, .int .i64 0, .int .i64 0, .int .i64 0, .int .i64 0, .int .i64 0, .int .i64 0, .int .i64 0, .slice none 0 0, .bool false] 79 (0, 0))) w1.heap.size #[.slice A1 (M.rrunM f first xs).sets.length c1, .int .i64 (M.rrunM f first xs).games.A, .int .i64 (M.rrunM f first xs).games.B, .int .i64 (M.rrunM f first xs).pts.A, .int .i64 (M.rrunM f first xs).pts.B, .int .i64 (M.rrunM f first xs).server, .int .i64 (M.rrunM f first xs).ends, .int .i64 (M.rrunM f first xs).balls, .int .i64 (M.rrunM f first xs).winner, .int .i64 (M.rrunM f first xs).opens, .slice A2 (M.rrunM f first xs).log.length c2, .bool (M.rrunM f first xs).fresh] = w2 at HBB ⊢
    go_wp2_with fail
    go_ret
    exact ⟨by rw [M.rrunE_play]; rfl, HBB.out⟩

theorem sum_any (p : M.Pr) (w : World) (h : -1000000000 ≤ p.A ∧ p.A ≤ 1000000000 ∧ -1000000000 ≤ p.B ∧ p.B ≤ 1000000000) :
    Calls Try.prog 26 #[.agg #[.int .i64 p.A, .int .i64 p.B]] w fun e w' => e = .returned (.int .i64 (p.A + p.B)) ∧ Below w.heap.size w w' := by
  obtain ⟨h0, h1, h2, h3⟩ := h
  go_enter Try.func26, Try.ntmps26
  go_wp2
  go_ret
  exact ⟨by go_num, by (repeat' first | exact zbR _ _ | assumption | refine zbD ?_ | refine zbA ?_ ?_ _ | refine zbS ?_ ?_ _ | refine zbT ?_ (by assumption) ?_ | (simp; done) | (simp; omega) | omega)⟩

def M.turned (p : Int) : Int := if p < 0 then p else p / 2 * 2 + 1 - p % 2
theorem turned_any (p : Int) (w : World) (h : -1000 ≤ p ∧ p ≤ 1000) :
    Calls Try.prog 28 #[.int .i64 p] w fun e w' => e = .returned (.int .i64 (M.turned p)) ∧ Below w.heap.size w w' := by
  obtain ⟨h0, h1⟩ := h
  by_cases hp : p < 0
  · have ho : M.turned p = p := if_pos hp
    rw [ho]; clear ho
    go_enter Try.func28, Try.ntmps28
    go_wp2
    go_ret
    exact ⟨rfl, by (repeat' first | exact zbR _ _ | assumption | refine zbD ?_ | refine zbA ?_ ?_ _ | refine zbS ?_ ?_ _ | refine zbT ?_ (by assumption) ?_ | (simp; done) | (simp; omega) | omega)⟩
  · have ho : M.turned p = p / 2 * 2 + 1 - p % 2 := if_neg hp
    have hq : p.tdiv 2 = p / 2 := Int.tdiv_eq_ediv_of_nonneg (by omega)
    have hr : p.tmod 2 = p % 2 := Int.tmod_eq_emod_of_nonneg (by omega)
    rw [ho]; clear ho
    go_enter Try.func28, Try.ntmps28
    go_wp2
    go_ret
    exact ⟨by simp only [hq, hr]; go_num, by (repeat' first | exact zbR _ _ | assumption | refine zbD ?_ | refine zbA ?_ ?_ _ | refine zbS ?_ ?_ _ | refine zbT ?_ (by assumption) ?_ | (simp; done) | (simp; omega) | omega)⟩

end Go.Proofs.Ytoaogpipogeamaa

namespace Go.Proofs.Ytoaogpipogeamaa
open Go.ChangeShapes Go.WideShapes Go.ChangeAt Go.RowKit Go.Deep Go.Joins

section
variable {H : Type} {enc : TypeId × Value → H} {w : World} {base : Nat} {held : Bool}
theorem open_intsC {v : Value} {x : DataW H × List MemPlace} {fuel : Nat} (hf : DataW.trod enc Try.prog w base (fun _ => true) held fuel 24 [v] = some x) :
    ∃ (A : Option Addr) (n c : Nat) (xs : List Int), v = .slice A n c ∧ n ≤ c ∧ c ≤ maxLen ∧ xs.length = n ∧ RdI w w.heap.size A xs ∧ (∀ x ∈ xs, (Lit.int .i64 x).wf = true) ∧ (A = none → c = 0) := by
  rcases Go.ChangeShapes.open_ints Try.underlying24 Try.underlying3 intCells hf with ⟨hcs, _⟩ | ⟨a, len, cap, zs, hcs, _, hle, hmax, hall, _, hcell, hwf⟩
  · simp at hcs
    subst hcs
    exact ⟨none, 0, 0, [], rfl, Nat.le_refl _, Nat.zero_le _, rfl, RdI.nil _ _ _, (fun x hx => by cases hx), fun _ => rfl⟩
  · simp at hcs
    subst hcs
    simp only [if_true] at hall
    refine ⟨some a, len, cap, zs.take len, rfl, hle, hmax, by rw [List.length_take]; omega, ?_, (fun x hx => hwf x (List.mem_of_mem_take hx)), fun e => by cases e⟩
    intro k x hk
    have hkn : k < len := by
      rcases Nat.lt_or_ge k len with hl | hl
      · exact hl
      · rw [List.getElem?_eq_none (by rw [List.length_take]; omega)] at hk; cases hk
    rw [List.getElem?_take_of_lt hkn] at hk
    have hc := hcell k (by omega)
    rw [List.getD_eq_getElem?_getD, hk] at hc
    obtain ⟨b, o, rfl, hb'⟩ := spot_first (hcell 0 (by omega))
    exact ⟨b, o, rfl, hb', by rw [add_plain] at hc; exact hc⟩

theorem pointsOne : (match Try.prog.underlying 26 with | some (.struct fs) => oneCellFields Try.prog fs && Try.prog.cellsOf 26 == fs.size | _ => false) = true := by kernel_rfl
set_option maxRecDepth 100000 in
theorem open_points {r : Reach} {b0 : Nat} {v : Value} {d : DataW H} {p : List MemPlace} (hv : Value.okWide Try.prog w r b0 26 v) (h : DataW.Trod enc Try.prog w base (fun _ => true) held 26 v d p) :
    ∃ (first : Int) (A : Option Addr) (n c : Nat) (xs : List Int), v = .agg #[.int .i64 first, .slice A n c] ∧ (Lit.int .i64 first).wf = true ∧ n ≤ c ∧ c ≤ maxLen ∧ xs.length = n ∧ RdI w w.heap.size A xs ∧ (∀ x ∈ xs, (Lit.int .i64 x).wf = true) ∧ (A = none → c = 0) := by
  obtain ⟨cs, rfl, hl, hf⟩ := open_fields Try.underlying26 pointsOne hv h
  match cs, hl with
  | [c0, c1], _ =>
    obtain ⟨_, _, _, e0, h0⟩ := hf 0 _ rfl
    obtain ⟨_, _, _, e1, h1⟩ := hf 1 _ rfl
    simp only [List.getElem?_cons_zero, List.getElem?_cons_succ, Option.some.injEq] at e0 e1
    subst e0 e1
    obtain ⟨first, k0, _, hw0⟩ := DataW.trod_int Try.underlying3 h0
    obtain ⟨A, n, c, xs, rfl, h2, h3, h4, h5, h6, h7⟩ := open_intsC h1
    simp at k0
    subst k0
    exact ⟨first, A, n, c, xs, rfl, hw0, h2, h3, h4, h5, h6, h7⟩
end

end Go.Proofs.Ytoaogpipogeamaa

namespace Go.Proofs.Ytoaogpipogeamaa
open Go.RowKit

theorem store_new_row {P : Program} {ops : Array Oper} {rest : List Oper} {o : Oper} {a : Act} {w1 : World} {Q : Exit → Act → World → Prop} (hgd : o.guard = none) (ty : TypeId) (x y : Operand) (ho : o.op = .store ty x y) (hds : o.dst = none)
    (cells : Array Value) (t : TypeId) (old : Array Value) (hx : a.eval x = .pointer (some ⟨w1.heap.size, 0, none⟩)) (hy : a.eval y = .agg cells)
    (hi : (P.info? ty).map (·.size) = some cells.size) (hold : old.size = cells.size) (h1 : cells.all (·.oneCell') = true)
    (h : ∀ w2, Below w1.heap.size w1 w2 → w2.heap.size = w1.heap.size + 1 → w2.heap[w1.heap.size]? = some (.cells cells t (0, 0)) → wpList P ops Q rest a w2) : wpList P ops Q (o :: rest) a (w1.alloc (.cells old t (0, 0))) :=
  wpList_store_row hgd ty x y ho w1.heap.size cells hx hy t old (heap_alloc_new w1 _) hi hold h1 (by
    rw [hds]
    exact h _ (below_row ((Below.refl _ _).alloc (Nat.le_refl _) _) (Nat.le_refl _) _) (by simp) (setRow_heap _ _ _ _ _ _ (heap_alloc_new w1 _)))

def flatI (xs : List Int) : List Value := xs.map fun x => .int .i64 x
theorem flatI_at {xs : List Int} {k : Nat} {x : Int} (h : xs[k]? = some x) : (flatI xs)[k]? = some (.int .i64 x) := by
  unfold flatI; rw [List.getElem?_map, h]; rfl
theorem flatI_one (xs : List Int) : ∀ u ∈ flatI xs, u.oneCell' = true := by
  intro u hu
  simp only [flatI, List.mem_map] at hu
  obtain ⟨x, _, rfl⟩ := hu
  rfl
theorem owns_RdI {w : World} {base : Nat} {A : Option Addr} {n c : Nat} {xs : List Int} (h : w.ownsRow base 3 1 (.slice A n c) n (flatI xs)) (hn : xs.length = n) : RdI w w.heap.size A xs := by
  intro k p hk
  have hkl : k < n := by rw [← hn]; exact (List.getElem?_eq_some_iff.1 hk).1
  obtain ⟨g, cap, e, hbg, hh⟩ := h.form (by omega)
  have e' : A = some ⟨g, 0, none⟩ ∧ c = cap := by
    simp only [Value.slice.injEq] at e
    exact ⟨e.1, e.2.2⟩
  obtain ⟨rfl, rfl⟩ := e'
  refine ⟨g, 0, rfl, ?_, ?_⟩
  · exact (h.lt g rfl).2
  · rw [Nat.zero_add, h.cellAt k (by omega)]; exact flatI_at hk
theorem int_info : (Try.prog.info? 3).map (fun i => (i.zero, i.size, i.bytes)) = some (some (.int .i64 0), 1, 8) := by kernel_rfl
theorem RdI.none {w : World} {B : Nat} {xs : List Int} (h : RdI w B none xs) : xs = [] := by
  match xs, h with
  | [], _ => rfl
  | x :: r, h => obtain ⟨_, _, e, _⟩ := h 0 x rfl; cases e

theorem flatI_app (a b : List Int) : flatI (a ++ b) = flatI a ++ flatI b := by unfold flatI; simp
theorem flatI_length (a : List Int) : (flatI a).length = a.length := by unfold flatI; simp
theorem run_app_ints {w : World} (ty : TypeId) (base : Nat) (v : Value) (ps : List Int) (m0 : Nat) (hown : w.ownsRow base 3 1 v m0 (flatI ps))
    (A : Option Addr) (n c : Nat) (xs : List Int) (hn : xs.length = n) (hr : RdI w w.heap.size A xs) (hA : A = none → c = 0) (h0 : m0 ≤ 1000) (h1 : n ≤ 1000) (hbase : base ≤ w.heap.size) :
    ∃ A' c' w', (Builtin.append_ #[24, 24] ty #[v, .slice A n c]).run Try.prog w = .ok (.slice A' (m0 + n) c') w' ∧ w'.ownsRow base 3 1 (.slice A' (m0 + n) c') (m0 + n) (flatI (ps ++ xs)) ∧ w.grownBy w' v.ownBlock := by
  obtain ⟨i, hi, hz0, hz1, hz2⟩ := info_parts int_info
  rcases A with _ | ad
  · have hx0 : xs = [] := hr.none
    subst hx0
    have hn0 : n = 0 := by simpa using hn.symm
    subst hn0
    have hc0 := hA rfl
    subst hc0
    obtain ⟨A', c', rfl⟩ := own_form hown
    have hrun := run_append_owned_none (P := Try.prog) (w := w) base 24 ty 3 i 1 Try.underlying24 hi (.slice A' m0 c') m0 (flatI ps) hown
    exact ⟨A', c', w, hrun, by simpa using hown, World.grownBy.refl w _⟩
  · obtain ⟨v', w', hrun, h2, h3, _, _⟩ := run_append_own_at (P := Try.prog) w base 24 ty 3 i _ 1 8 Try.underlying24 hi hz0 hz1 hz2 (by rfl) (by decide) v m0 (flatI ps) hown ad n c (flatI xs) (by rw [flatI_length]; omega) (by
      intro j u hj
      obtain ⟨y, hk⟩ : ∃ y, xs[j]? = some y := by
        have hjl : j < (flatI xs).length := (List.getElem?_eq_some_iff.1 hj).1
        rw [flatI_length] at hjl
        exact ⟨_, List.getElem?_eq_getElem hjl⟩
      rw [flatI_at hk] at hj
      have hj' := Option.some.inj hj
      subst hj'
      obtain ⟨b, o2, e, _, c0⟩ := hr j y hk
      have e' := Option.some.inj e
      subst e'
      rw [add_plain]
      exact c0) (flatI_one xs) (by unfold maxLen; omega) (by omega) hbase
    obtain ⟨A', c', rfl⟩ := own_form h2
    exact ⟨A', c', w', hrun, by rw [flatI_app]; exact h2, h3⟩
theorem rdI_one (w : World) (x : Int) : RdI (w.alloc (.cells #[.int .i64 x] 3 (0, 0))) (w.alloc (.cells #[.int .i64 x] 3 (0, 0))).heap.size (some ⟨w.heap.size, 0, Option.none⟩) [x] := by
  intro k y hk
  match k, hk with
  | 0, hk =>
    have hy : x = y := Option.some.inj hk
    subst hy
    exact ⟨_, 0, rfl, by simp, (cell_of_row _ _ _ _ _ _ (heap_alloc_new w _)).trans rfl⟩
  | k + 1, hk => cases hk

def RdG (w : World) (B : Nat) (A : Option Addr) (gs : List M.Gm) : Prop :=
  ∀ (k : Nat) (g : M.Gm), gs[k]? = some g → ∃ b o : Nat, A = some ⟨b, o, none⟩ ∧ b < B ∧ w.cell? ⟨b, o + k * 7, none⟩ = some (.int .i64 g.set) ∧ w.cell? ⟨b, o + k * 7 + 1, none⟩ = some (.bool g.tie) ∧ w.cell? ⟨b, o + k * 7 + 2, none⟩ = some (.int .i64 g.server) ∧ w.cell? ⟨b, o + k * 7 + 3, none⟩ = some (.int .i64 g.winner) ∧ w.cell? ⟨b, o + k * 7 + 4, none⟩ = some (.int .i64 g.pts.A) ∧ w.cell? ⟨b, o + k * 7 + 5, none⟩ = some (.int .i64 g.pts.B) ∧ w.cell? ⟨b, o + k * 7 + 6, none⟩ = some (.bool g.fresh)
theorem RdG.below {w w' : World} {B : Nat} {A : Option Addr} {gs : List M.Gm} (h : RdG w B A gs) (hb : Below B w w') : RdG w' B A gs := fun k g hk => by
  obtain ⟨b, o, e, hB, c0, c1, c2, c3, c4, c5, c6⟩ := h k g hk
  exact ⟨b, o, e, hB, (hb.cell (p := ⟨b, _, none⟩) hB).trans c0, (hb.cell (p := ⟨b, _, none⟩) hB).trans c1, (hb.cell (p := ⟨b, _, none⟩) hB).trans c2, (hb.cell (p := ⟨b, _, none⟩) hB).trans c3, (hb.cell (p := ⟨b, _, none⟩) hB).trans c4, (hb.cell (p := ⟨b, _, none⟩) hB).trans c5, (hb.cell (p := ⟨b, _, none⟩) hB).trans c6⟩
theorem RdG.mono {w : World} {B B' : Nat} {A : Option Addr} {gs : List M.Gm} (h : RdG w B A gs) (hB : B ≤ B') : RdG w B' A gs := fun k p hk => by
  obtain ⟨b, o, e, hb, c⟩ := h k p hk
  exact ⟨b, o, e, by omega, c⟩
theorem flatG_at : ∀ (l : List M.Gm) (k : Nat) (g : M.Gm), l[k]? = some g → ∀ (i : Nat), i < 7 → (flatG l)[k * 7 + i]? = [Value.int .i64 g.set, .bool g.tie, .int .i64 g.server, .int .i64 g.winner, .int .i64 g.pts.A, .int .i64 g.pts.B, .bool g.fresh][i]?
  | [], k, g, h, _, _ => by simp at h
  | a :: r, 0, g, h, i, hi => by
    simp only [List.getElem?_cons_zero, Option.some.injEq] at h
    subst h
    unfold flatG
    rw [List.flatMap_cons, Nat.zero_mul, Nat.zero_add, List.getElem?_append_left (by simpa using hi)]
  | a :: r, k + 1, g, h, i, hi => by
    have ih := flatG_at r k g (by simpa using h) i hi
    unfold flatG at ih ⊢
    rw [List.flatMap_cons, List.getElem?_append_right (by simp; omega)]
    have e : (k + 1) * 7 + i - [Value.int .i64 a.set, .bool a.tie, .int .i64 a.server, .int .i64 a.winner, .int .i64 a.pts.A, .int .i64 a.pts.B, .bool a.fresh].length = k * 7 + i := by simp; omega
    rw [e]
    exact ih
theorem owns_RdG {w : World} {base : Nat} {A : Option Addr} {n c : Nat} {gs : List M.Gm} (h : w.ownsRow base 44 7 (.slice A n c) n (flatG gs)) (hn : gs.length = n) : RdG w w.heap.size A gs := by
  intro k p hk
  have hkl : k < n := by rw [← hn]; exact (List.getElem?_eq_some_iff.1 hk).1
  obtain ⟨g, cap, e, hbg, hh⟩ := h.form (by omega)
  have e' : A = some ⟨g, 0, none⟩ ∧ c = cap := by
    simp only [Value.slice.injEq] at e
    exact ⟨e.1, e.2.2⟩
  obtain ⟨rfl, rfl⟩ := e'
  have hat := flatG_at gs k p hk
  have hc : ∀ i, i < 7 → w.cell? ⟨g, 0 + k * 7 + i, none⟩ = [Value.int .i64 p.set, .bool p.tie, .int .i64 p.server, .int .i64 p.winner, .int .i64 p.pts.A, .int .i64 p.pts.B, .bool p.fresh][i]? := by
    intro i hi
    rw [Nat.zero_add, h.cellAt (k * 7 + i) (by omega)]
    exact hat i hi
  exact ⟨g, 0, rfl, (h.lt g rfl).2, hc 0 (by omega), hc 1 (by omega), hc 2 (by omega), hc 3 (by omega), hc 4 (by omega), hc 5 (by omega), hc 6 (by omega)⟩
theorem owns_len {w : World} {base : Nat} {e : TypeId} {size n : Nat} {v : Value} {xs : List Value} (h : w.ownsRow base e size v n xs) : n ≤ maxLen := by
  rcases h.2 with ⟨_, h0⟩ | ⟨g, cap, cur, _, _, _, h1, h2, _⟩
  · omega
  · omega
theorem Check_val (f : M.Fm) (v : Int) (hv : (if M.validB f = true then 0 else 10) = v) (w : World) : Calls Try.prog 11 #[.agg #[.int .i64 f.sets, .int .i64 f.games, .bool f.noAd, .int .i64 f.tie, .int .i64 f.to, .int .i64 f.lastTie, .int .i64 f.lastTo, .int .i64 f.first, .int .i64 f.next, .bool f.doubles]] w fun e w' => e = .returned (.int .i64 v) ∧ Below w.heap.size w w' := by
  subst hv; exact Check_any f w
theorem RefCheck_val (f : M.Fm) (v : Int) (hv : (if M.validB f = true then 0 else 10) = v) (w : World) : Calls Try.prog 12 #[.agg #[.int .i64 f.sets, .int .i64 f.games, .bool f.noAd, .int .i64 f.tie, .int .i64 f.to, .int .i64 f.lastTie, .int .i64 f.lastTo, .int .i64 f.first, .int .i64 f.next, .bool f.doubles]] w fun e w' => e = .returned (.int .i64 v) ∧ Below w.heap.size w w' := by
  subst hv; exact RefCheck_any f w

theorem blk_lt {w : World} {b : Nat} {o : Obj} (h : w.heap[b]? = some o) : b < w.heap.size := (Array.getElem?_eq_some_iff.1 h).1
theorem blk_keep {w w' : World} {b : Nat} {o : Obj} (h : w.heap[b]? = some o) (hb : Below w.heap.size w w') : w'.heap[b]? = some o := (hb.block b (blk_lt h)).trans h

namespace M
theorem playF_ok : ∀ (xs : List Int) (m t : Mt) (k : Nat), Ok m k → playF m xs = some t → Ok t (k + xs.length)
  | [], m, t, k, h, e => by
    rw [playF_nil] at e
    rw [← Option.some.inj e]
    exact h
  | p :: r, m, t, k, h, e => by
    rw [playF_cons] at e
    split at e
    · cases e
    · have := playF_ok r _ t (k + 1) (Ok.point p h) e
      rw [List.length_cons]
      rwa [show k + (r.length + 1) = k + 1 + r.length by omega]
theorem playM_ok {f : Fm} {first : Int} {xs : List Int} (h : playE f first xs = 0) : Ok (playM f first xs) 600 := by
  obtain ⟨hv, hf, hl, hp⟩ := playE_ok h
  exact Ok.mono (playF_ok xs _ _ 0 (start_ok ((validB_iff f).1 hv) (by simp [within] at hf; omega)) hp) (by omega)
theorem playM_len (f : Fm) (first : Int) (xs : List Int) : (playM f first xs).sets.length ≤ 600 ∧ (playM f first xs).log.length ≤ 600 := by
  by_cases h : playE f first xs = 0
  · exact ⟨(playM_ok h).sets, (playM_ok h).log⟩
  · have e : playM f first xs = noM := by
      unfold playM
      by_cases hv : validB f = true
      · by_cases hf : within first 0 1 = true
        · by_cases hl : 600 < xs.length
          · rw [if_pos hv, if_pos hf, if_pos hl]
          · cases hp : playF (start f first) xs with
            | none => rw [if_pos hv, if_pos hf, if_neg hl]; rfl
            | some t => exact absurd (by unfold playE; rw [if_pos hv, if_pos hf, if_neg hl, hp]) h
        · rw [if_pos hv, if_neg hf]
      · rw [if_neg hv]
    rw [e]
    exact ⟨Nat.zero_le _, Nat.zero_le _⟩
end M

end Go.Proofs.Ytoaogpipogeamaa

namespace Go.Proofs.Ytoaogpipogeamaa
open Go.RowKit
attribute [local go_sem ↓] Go.wp_at_zero Go.wp_at_succ

theorem results_row_tmp2 {P : Program} {fn : Func} {p t u : Tmp} {ty : TypeId} (h : fn.results = #[.cell p ty, .tmp t, .tmp u]) (tmps : Array Value) (w : World) (g : Nat) (t0 : TypeId) (cs : Array Value) (fr : Nat × Nat) (d : TypeDesc)
    (hp : tmps.getD p undef = .pointer (some ⟨g, 0, none⟩)) (hg : w.heap[g]? = some (.cells cs t0 fr))
    (hu : P.underlying ty = some d) (hd : (match d with | .struct _ | .array _ _ => true | _ => false) = true) (hi : (P.info? ty).map (·.size) = some cs.size) :
    (results fn tmps).run P w = .ok (.tuple #[.agg cs, tmps.getD t undef, tmps.getD u undef]) w := by
  have hp' : tmps[p]?.getD undef = .pointer (some ⟨g, 0, none⟩) := by simpa using hp
  simp [results, h, hp', asAddr, run_loadVar_row w g t0 ty cs fr d hg hu hd hi]
theorem a3_new (w : World) (A B C : Obj) : (((w.alloc A).alloc B).alloc C).heap[w.heap.size + 1 + 1]? = some C := by
  have := heap_alloc2_new (w.alloc A) B C
  rw [show (w.alloc A).heap.size = w.heap.size + 1 by simp] at this
  exact this
theorem a3_mid (w : World) (A B C : Obj) : (((w.alloc A).alloc B).alloc C).heap[w.heap.size + 1]? = some B := by
  have := heap_alloc2_old (w.alloc A) B C
  rw [show (w.alloc A).heap.size = w.heap.size + 1 by simp] at this
  exact this
theorem a3_old (w : World) (A B C : Obj) : (((w.alloc A).alloc B).alloc C).heap[w.heap.size]? = some A :=
  (heap_alloc_old ((w.alloc A).alloc B) C (by simp; omega)).trans (heap_alloc2_old w A B)
theorem owns_below {w w' : World} {base : Nat} {e : TypeId} {size : Nat} {v : Value} {n : Nat} {xs : List Value} (h : w.ownsRow base e size v n xs) (hb : Below w.heap.size w w') : w'.ownsRow base e size v n xs :=
  h.kept (only_of_below' hb) (by cases v.ownBlock <;> simp)
def PlaysPost (f : M.Fm) (first : Int) (xs : List Int) (w : World) (e : Ending) (w' : World) : Prop :=
  ∃ sv gv, e = .returned (.tuple #[.agg #[sv, .int .i64 (M.playM f first xs).games.A, .int .i64 (M.playM f first xs).games.B, .int .i64 (M.playM f first xs).pts.A, .int .i64 (M.playM f first xs).pts.B, .int .i64 (M.playM f first xs).server, .int .i64 (M.playM f first xs).ends, .int .i64 (M.playM f first xs).balls, .int .i64 (M.playM f first xs).winner], gv, .bool (M.playE f first xs == 0)]) ∧
    w'.ownsRow w.heap.size 32 2 sv (M.playM f first xs).sets.length (flatP (M.playM f first xs).sets) ∧ w'.ownsRow w.heap.size 44 7 gv (M.playM f first xs).log.length (flatG (M.playM f first xs).log) ∧ Below w.heap.size w w'

set_option maxHeartbeats 4000000 in
set_option maxRecDepth 100000 in
theorem played_any (f : M.Fm) (first : Int) (A : Option Addr) (n c : Nat) (xs : List Int) (w : World) (hn : xs.length = n) (hr : RdI w w.heap.size A xs) (hm : n ≤ 1000000) :
    Calls Try.prog 24 #[.agg #[.int .i64 f.sets, .int .i64 f.games, .bool f.noAd, .int .i64 f.tie, .int .i64 f.to, .int .i64 f.lastTie, .int .i64 f.lastTo, .int .i64 f.first, .int .i64 f.next, .bool f.doubles], .agg #[.int .i64 first, .slice A n c]] w fun e w' => PlaysPost f first xs w e w' := by
  have HN := hide hn
  have HR := hide hr
  clear hn hr
  go_enter Try.func24, Try.ntmps24
  go_upto_region 2 with (first | (go_at_call 13; refine (Play_any f first A n c xs _ HN.out ((HR.out.below (by (repeat' first | exact zbR _ _ | assumption | refine zbD ?_ | refine zbA ?_ ?_ _ | refine zbS ?_ ?_ _ | refine zbT ?_ (by assumption) ?_ | (simp; done) | (simp; omega) | omega))).mono (by simp; omega)) hm).mono ?_; rintro e w1 ⟨sv, rfl, hsv, hb1⟩; obtain ⟨A1, c1, e1⟩ := own_form hsv; subst e1; have hx0 := (hb1.block w.heap.size (by simp; omega)).trans (a3_old w _ _ _); have hx1 := (hb1.block (w.heap.size + 1) (by simp)).trans (a3_mid w _ _ _); have hx2 := (hb1.block (w.heap.size + 1 + 1) (by simp)).trans (a3_new w _ _ _); have hq1 : w.heap.size + 1 + 1 < w1.heap.size := (by have := hb1.size; simp at this; omega); have HSV := hide (owns_mono (base' := w.heap.size) hsv (by simp; omega)); have HB1 := hide (show Below w.heap.size w w1 from Below.trans (by (repeat' first | exact zbR _ _ | assumption | refine zbD ?_ | refine zbA ?_ ?_ _ | refine zbS ?_ ?_ _ | refine zbT ?_ (by assumption) ?_ | (simp; done) | (simp; omega) | omega)) (hb1.mono (by simp; omega))); clear hsv hb1) | (refine wpList_store_row rfl 36 _ _ rfl w1.heap.size _ rfl rfl 36 _ (heap_alloc_new w1 _) scoreRow rfl (by simp [Value.oneCell']) ?_))
  have hy0 := (setRow_other (w1.alloc (.cells #[.slice none 0 0, .int .i64 0, .int .i64 0, .int .i64 0, .int .i64 0, .int .i64 0, .int .i64 0, .int .i64 0, .int .i64 0] 36 (0, 0))) w1.heap.size w.heap.size #[.slice A1 (M.playM f first xs).sets.length c1, .int .i64 (M.playM f first xs).games.A, .int .i64 (M.playM f first xs).games.B, .int .i64 (M.playM f first xs).pts.A, .int .i64 (M.playM f first xs).pts.B, .int .i64 (M.playM f first xs).server, .int .i64 (M.playM f first xs).ends, .int .i64 (M.playM f first xs).balls, .int .i64 (M.playM f first xs).winner] (by omega)).trans ((heap_alloc_old w1 _ (by omega)).trans hx0)
  have hy1 := (setRow_other (w1.alloc (.cells #[.slice none 0 0, .int .i64 0, .int .i64 0, .int .i64 0, .int .i64 0, .int .i64 0, .int .i64 0, .int .i64 0, .int .i64 0] 36 (0, 0))) w1.heap.size (w.heap.size + 1) #[.slice A1 (M.playM f first xs).sets.length c1, .int .i64 (M.playM f first xs).games.A, .int .i64 (M.playM f first xs).games.B, .int .i64 (M.playM f first xs).pts.A, .int .i64 (M.playM f first xs).pts.B, .int .i64 (M.playM f first xs).server, .int .i64 (M.playM f first xs).ends, .int .i64 (M.playM f first xs).balls, .int .i64 (M.playM f first xs).winner] (by omega)).trans ((heap_alloc_old w1 _ (by omega)).trans hx1)
  have hy2 := (setRow_other (w1.alloc (.cells #[.slice none 0 0, .int .i64 0, .int .i64 0, .int .i64 0, .int .i64 0, .int .i64 0, .int .i64 0, .int .i64 0, .int .i64 0] 36 (0, 0))) w1.heap.size (w.heap.size + 1 + 1) #[.slice A1 (M.playM f first xs).sets.length c1, .int .i64 (M.playM f first xs).games.A, .int .i64 (M.playM f first xs).games.B, .int .i64 (M.playM f first xs).pts.A, .int .i64 (M.playM f first xs).pts.B, .int .i64 (M.playM f first xs).server, .int .i64 (M.playM f first xs).ends, .int .i64 (M.playM f first xs).balls, .int .i64 (M.playM f first xs).winner] (by omega)).trans ((heap_alloc_old w1 _ (by omega)).trans hx2)
  have hyq := setRow_heap (w1.alloc (.cells #[.slice none 0 0, .int .i64 0, .int .i64 0, .int .i64 0, .int .i64 0, .int .i64 0, .int .i64 0, .int .i64 0, .int .i64 0] 36 (0, 0))) w1.heap.size #[.slice none 0 0, .int .i64 0, .int .i64 0, .int .i64 0, .int .i64 0, .int .i64 0, .int .i64 0, .int .i64 0, .int .i64 0] #[.slice A1 (M.playM f first xs).sets.length c1, .int .i64 (M.playM f first xs).games.A, .int .i64 (M.playM f first xs).games.B, .int .i64 (M.playM f first xs).pts.A, .int .i64 (M.playM f first xs).pts.B, .int .i64 (M.playM f first xs).server, .int .i64 (M.playM f first xs).ends, .int .i64 (M.playM f first xs).balls, .int .i64 (M.playM f first xs).winner] 36 (0, 0) (heap_alloc_new w1 _)
  have hgr : w1.grownBy (World.setRow (w1.alloc (.cells #[.slice none 0 0, .int .i64 0, .int .i64 0, .int .i64 0, .int .i64 0, .int .i64 0, .int .i64 0, .int .i64 0, .int .i64 0] 36 (0, 0))) w1.heap.size #[.slice A1 (M.playM f first xs).sets.length c1, .int .i64 (M.playM f first xs).games.A, .int .i64 (M.playM f first xs).games.B, .int .i64 (M.playM f first xs).pts.A, .int .i64 (M.playM f first xs).pts.B, .int .i64 (M.playM f first xs).server, .int .i64 (M.playM f first xs).ends, .int .i64 (M.playM f first xs).balls, .int .i64 (M.playM f first xs).winner]) none := ⟨rfl, rfl, rfl, by simp, fun k hk _ => (setRow_other _ _ k _ (by omega)).trans (heap_alloc_old _ _ hk)⟩
  have HO := hide (HSV.out.kept hgr (by simp [Value.ownBlock]; cases A1 <;> simp))
  have HB2 := hide (below_row (b := w1.heap.size) (HB1.out.alloc HB1.out.size (.cells #[.slice none 0 0, .int .i64 0, .int .i64 0, .int .i64 0, .int .i64 0, .int .i64 0, .int .i64 0, .int .i64 0, .int .i64 0] 36 (0, 0))) HB1.out.size #[.slice A1 (M.playM f first xs).sets.length c1, .int .i64 (M.playM f first xs).games.A, .int .i64 (M.playM f first xs).games.B, .int .i64 (M.playM f first xs).pts.A, .int .i64 (M.playM f first xs).pts.B, .int .i64 (M.playM f first xs).server, .int .i64 (M.playM f first xs).ends, .int .i64 (M.playM f first xs).balls, .int .i64 (M.playM f first xs).winner])
  have hqs : w1.heap.size < (World.setRow (w1.alloc (.cells #[.slice none 0 0, .int .i64 0, .int .i64 0, .int .i64 0, .int .i64 0, .int .i64 0, .int .i64 0, .int .i64 0, .int .i64 0] 36 (0, 0))) w1.heap.size #[.slice A1 (M.playM f first xs).sets.length c1, .int .i64 (M.playM f first xs).games.A, .int .i64 (M.playM f first xs).games.B, .int .i64 (M.playM f first xs).pts.A, .int .i64 (M.playM f first xs).pts.B, .int .i64 (M.playM f first xs).server, .int .i64 (M.playM f first xs).ends, .int .i64 (M.playM f first xs).balls, .int .i64 (M.playM f first xs).winner]).heap.size := by simp
  clear hgr hx0 hx1 hx2 HSV HB1
  generalize World.setRow (w1.alloc (.cells #[.slice none 0 0, .int .i64 0, .int .i64 0, .int .i64 0, .int .i64 0, .int .i64 0, .int .i64 0, .int .i64 0, .int .i64 0] 36 (0, 0))) w1.heap.size #[.slice A1 (M.playM f first xs).sets.length c1, .int .i64 (M.playM f first xs).games.A, .int .i64 (M.playM f first xs).games.B, .int .i64 (M.playM f first xs).pts.A, .int .i64 (M.playM f first xs).pts.B, .int .i64 (M.playM f first xs).server, .int .i64 (M.playM f first xs).ends, .int .i64 (M.playM f first xs).balls, .int .i64 (M.playM f first xs).winner] = w2 at hy0 hy1 hy2 hyq HO HB2 hqs ⊢
  generalize w1.heap.size = q at hq1 hyq hqs ⊢
  have hc0 := fun i => cell_of_row w2 w.heap.size i _ _ _ hy0
  have hc1 := fun i => cell_of_row w2 (w.heap.size + 1) i _ _ _ hy1
  go_upto_region 3 with (first | (go_at_call 15; refine (Games_any f first A n c xs _ HN.out ((HR.out.below HB2.out).mono HB2.out.size) hm).mono ?_; rintro e w3 ⟨gv, rfl, hgv, hb⟩; obtain ⟨A2, c2, e2⟩ := own_form hgv; subst e2; replace hy2 := (hb.block (w.heap.size + 1 + 1) (by omega)).trans hy2; replace hyq := (hb.block q hqs).trans hyq; replace HO := hide (owns_below HO.out hb); have HG := hide (owns_mono (base' := w.heap.size) hgv HB2.out.size); replace HB2 := hide (HB2.out.trans (hb.mono HB2.out.size)); clear hgv hb hy0 hy1 hc0 hc1 hqs))
  cases hE : (M.playE f first xs == 0)
  all_goals
    go_wp2_with (first | (refine wpList_load_row rfl 36 _ rfl q rfl 36 _ (0, 0) _ hyq Try.underlying36 rfl scoreRow ?_) | (refine wpList_store_row rfl 36 _ _ rfl (w.heap.size + 1 + 1) _ rfl rfl 36 _ hy2 scoreRow rfl (by simp [Value.oneCell']) ?_))
    refine bodyPost_ret (results_row_tmp2 Try.results24 _ _ (w.heap.size + 1 + 1) _ _ _ _ rfl (setRow_heap _ _ _ _ _ _ hy2) Try.underlying36 rfl scoreRow) rfl ?_
    have hg3 : w3.grownBy (w3.setRow (w.heap.size + 1 + 1) #[.slice A1 (M.playM f first xs).sets.length c1, .int .i64 (M.playM f first xs).games.A, .int .i64 (M.playM f first xs).games.B, .int .i64 (M.playM f first xs).pts.A, .int .i64 (M.playM f first xs).pts.B, .int .i64 (M.playM f first xs).server, .int .i64 (M.playM f first xs).ends, .int .i64 (M.playM f first xs).balls, .int .i64 (M.playM f first xs).winner]) (some (w.heap.size + 1 + 1)) := ⟨rfl, rfl, rfl, by simp, fun k _ hk => setRow_other w3 _ k _ (fun e => hk (by rw [e]))⟩
    refine ⟨_, _, (by rw [hE]; rfl), HO.out.kept hg3 (.inr (row_ne HO.out hy2 (by decide))), HG.out.kept hg3 (.inr (row_ne HG.out hy2 (by decide))), below_row HB2.out (by omega) _⟩

end Go.Proofs.Ytoaogpipogeamaa

namespace Go.Proofs.Ytoaogpipogeamaa
open Go.RowKit
namespace M

theorem turned_turned (p : Int) : turned (turned p) = p := by
  unfold turned
  by_cases h : p < 0
  · rw [if_pos h, if_pos h]
  · rw [if_neg h, if_neg (by omega)]
    omega
theorem serverOf_rng (o : Int) (dbl : Bool) (g t : Int) : 0 ≤ serverOf o dbl g t ∧ serverOf o dbl g t ≤ 3 := by
  unfold serverOf
  split <;> omega
theorem winner_rng (f : Fm) (won : Pr) : -1 ≤ winner f won ∧ winner f won ≤ 1 := by
  unfold winner
  repeat' split
  all_goals omega
def GmOk (g : Gm) : Prop := (0 ≤ g.server ∧ g.server ≤ 3) ∧ (g.winner = 0 ∨ g.winner = 1)
theorem endSet_log (m : Mt) (s : Int) : (endSet m s).log = m.log ++ [gameOf m s] := by
  unfold endSet
  split <;> rfl
theorem begin_log (m : Mt) : (M.begin m).log = m.log := rfl
theorem endGame_log (m : Mt) (s : Int) : (endGame m s).log = m.log ++ [gameOf m s] := by
  rw [← endSet_log]
  unfold endGame
  dsimp only
  split
  · rfl
  · rw [begin_log]
    split <;> rfl
theorem point_log (m : Mt) (s : Int) : (point m s).log = m.log ∨ (point m s).log = m.log ++ [gameOf { m with pts := plus m.pts s } s] := by
  unfold point
  dsimp only
  split
  · exact .inr (endGame_log _ s)
  · split <;> exact .inl rfl
theorem playF_log : ∀ (xs : List Int) (m t : Mt), (∀ g ∈ m.log, GmOk g) → playF m xs = some t → ∀ g ∈ t.log, GmOk g
  | [], m, t, h, e => by
    rw [playF_nil] at e
    rw [← Option.some.inj e]
    exact h
  | p :: r, m, t, h, e => by
    rw [playF_cons] at e
    split at e
    · cases e
    · rename_i hc
      refine playF_log r _ t ?_ e
      intro g hg
      rcases point_log m p with hp | hp
      · rw [hp] at hg; exact h g hg
      · rw [hp, List.mem_append, List.mem_singleton] at hg
        rcases hg with hg | hg
        · exact h g hg
        · subst hg
          exact ⟨serverOf_rng _ _ _ _, by show p = 0 ∨ p = 1; omega⟩
theorem playF_pts : ∀ (xs : List Int) (m t : Mt), playF m xs = some t → ∀ x ∈ xs, x = 0 ∨ x = 1
  | [], _, _, _, x, hx => by cases hx
  | p :: r, m, t, e, x, hx => by
    rw [playF_cons] at e
    split at e
    · cases e
    · rename_i hc
      rcases List.mem_cons.1 hx with rfl | hx
      · omega
      · exact playF_pts r _ t e x hx
theorem playM_log {f : Fm} {first : Int} {xs : List Int} (h : playE f first xs = 0) : ∀ g ∈ (playM f first xs).log, GmOk g := by
  obtain ⟨hv, hf, hl, hp⟩ := playE_ok h
  exact playF_log xs _ _ (fun g hg => by cases hg) hp
theorem playE_pts {f : Fm} {first : Int} {xs : List Int} (h : playE f first xs = 0) : ∀ x ∈ xs, x = 0 ∨ x = 1 := by
  obtain ⟨hv, hf, hl, hp⟩ := playE_ok h
  exact playF_pts xs _ _ hp
theorem playM_srv {f : Fm} {first : Int} {xs : List Int} (h : playE f first xs = 0) : (-1 ≤ (playM f first xs).server ∧ (playM f first xs).server ≤ 3) ∧ (-1 ≤ (playM f first xs).winner ∧ (playM f first xs).winner ≤ 1) := by
  have hi := playM_inv h
  have h1 := winner_rng (playM f first xs).f (playM f first xs).won
  rw [← hi.win] at h1
  refine ⟨?_, h1⟩
  rw [hi.sv]
  split
  · omega
  · have := serverOf_rng (playM f first xs).opens (playM f first xs).f.doubles (playM f first xs).log.length (if rtied (playM f first xs).f (playM f first xs).sets (playM f first xs).games then ((playM f first xs).pts.A + (playM f first xs).pts.B + 1) / 2 else 0)
    omega
end M

theorem played_ok (f : M.Fm) (first : Int) (A : Option Addr) (n c : Nat) (xs : List Int) (m : M.Mt) (w : World) (he : M.playE f first xs = 0) (hm' : M.playM f first xs = m) (hn : xs.length = n) (hr : RdI w w.heap.size A xs) (hm : n ≤ 1000000) :
    Calls Try.prog 24 #[.agg #[.int .i64 f.sets, .int .i64 f.games, .bool f.noAd, .int .i64 f.tie, .int .i64 f.to, .int .i64 f.lastTie, .int .i64 f.lastTo, .int .i64 f.first, .int .i64 f.next, .bool f.doubles], .agg #[.int .i64 first, .slice A n c]] w fun e w' => ∃ B d G l, e = .returned (.tuple #[.agg #[.slice B m.sets.length d, .int .i64 m.games.A, .int .i64 m.games.B, .int .i64 m.pts.A, .int .i64 m.pts.B, .int .i64 m.server, .int .i64 m.ends, .int .i64 m.balls, .int .i64 m.winner], .slice G m.log.length l, .bool true]) ∧
      RdP w' w'.heap.size B m.sets ∧ RdG w' w'.heap.size G m.log ∧ Below w.heap.size w w' := by
  refine (played_any f first A n c xs w hn hr hm).mono ?_
  rintro e w' ⟨sv, gv, rfl, hsv, hgv, hb⟩
  obtain ⟨B, d, rfl⟩ := own_form hsv
  obtain ⟨G, l, rfl⟩ := own_form hgv
  refine ⟨B, d, G, l, by rw [he, hm']; rfl, ?_, ?_, hb⟩
  · rw [hm'] at hsv; exact owns_RdP hsv rfl
  · rw [hm'] at hgv; exact owns_RdG hgv rfl

end Go.Proofs.Ytoaogpipogeamaa

namespace Go.Proofs.Ytoaogpipogeamaa
open Go.RowKit
attribute [local go_sem ↓] Go.wp_at_zero Go.wp_at_succ

set_option maxHeartbeats 2000000 in
set_option maxRecDepth 100000 in
theorem boundsLaw_not (f : M.Fm) (first : Int) (A : Option Addr) (n c : Nat) (xs : List Int) (w : World) (hn : xs.length = n) (hr : RdI w w.heap.size A xs) (hm : n ≤ maxLen) (h : (M.playE f first xs == 0) = false) :
    Calls Try.prog 9 #[.agg #[.int .i64 f.sets, .int .i64 f.games, .bool f.noAd, .int .i64 f.tie, .int .i64 f.to, .int .i64 f.lastTie, .int .i64 f.lastTo, .int .i64 f.first, .int .i64 f.next, .bool f.doubles], .agg #[.int .i64 first, .slice A n c]] w fun e w' => e = .returned (.bool true) ∧ Below w.heap.size w w' := by
  have HN := hide hn
  have HR := hide hr
  have HM := hide hm
  have HE := hide h
  clear hn hr hm h
  go_enter Try.func9, Try.ntmps9
  go_wp2_with (first | (go_at_call 23; refine (ready_any f first A n c xs _ HN.out ((HR.out.below (by (repeat' first | exact zbR _ _ | assumption | refine zbD ?_ | refine zbA ?_ ?_ _ | refine zbS ?_ ?_ _ | refine zbT ?_ (by assumption) ?_ | (simp; done) | (simp; omega) | omega))).mono (by simp; omega)) HM.out).mono ?_; rintro e w1 ⟨rfl, hb1⟩; rw [HE.out]; have hz1 := hb1.size; (try simp at hz1)) | (go_at_call 10; refine (works_any _).mono ?_; rintro e w2 ⟨rfl, hb2⟩))
  go_ret
  exact ⟨rfl, by (repeat' first | exact zbR _ _ | assumption | refine zbD ?_ | refine zbA ?_ ?_ _ | refine zbS ?_ ?_ _ | refine zbT ?_ (by assumption) ?_ | (simp; done) | (simp; omega) | omega)⟩


theorem step_row_bounds {P : Program} {w : World} {ops : Array Oper} {o : Oper} {a : Act} {K : Act → World → Prop} {Q : Exit → Act → World → Prop} {E : Prop} (hgd : o.guard = none) (ty : TypeId) (x y : Operand) (ho : o.op = .store ty x y)
    (g : Nat) (cells : Array Value) (hx : a.eval x = .pointer (some ⟨g, 0, none⟩)) (hy : a.eval y = .agg cells)
    (t : TypeId) (old : Array Value) (hg : w.heap[g]? = some (.cells old t (0, 0))) (hi : (P.info? ty).map (·.size) = some cells.size)
    (hold : old.size = cells.size) (h1 : cells.all (·.oneCell') = true)
    (h : K (a.put o.dst undef) (w.setRow g cells)) : if Region.wanted o (yielded ops a.tmps) = true then Oper.wp P o a w K Q else E := by
  have hw : Region.wanted o (yielded ops a.tmps) = true := by simp [Region.wanted, hgd]
  rw [if_pos hw]
  exact wp_store_row ty x y ho g cells hx hy t old hg hi hold h1 h
theorem rdI_cells {w : World} {q n : Nat} {t : TypeId} (h : w.heap[q]? = some (.cells (madeCells #[.int .i64 0] n) t (0, 0))) : RdI w w.heap.size (some ⟨q, 0, none⟩) (List.replicate n 0) := by
  intro k x hk
  have hk1 : k < n := by have := (List.getElem?_eq_some_iff.1 hk).1; rwa [List.length_replicate] at this
  have hk2 : x = 0 := by rw [List.getElem?_replicate, if_pos hk1] at hk; exact (Option.some.inj hk).symm
  subst hk2
  refine ⟨q, 0, rfl, blk_lt h, ?_⟩
  rw [Nat.zero_add]
  refine (cell_of_row _ _ _ _ _ _ h).trans ?_
  simp [madeCells, hk1, Nat.mod_one]
theorem cap_alloc {K : Act → World → Prop} {a : Act} {u : World} {O : Obj} (h : (u.alloc O).heap[u.heap.size]? = some O → u.heap.size ≤ u.heap.size → K a (u.alloc O)) : K a (u.alloc O) := h (heap_alloc_new u O) (Nat.le_refl _)
theorem cap_allocD {K : Act → World → Prop} {a : Act} {u : World} {O : Obj} (h : (u.alloc O).heap[u.heap.size]? = some O → u.heap.size ≤ u.heap.size → K a (u.alloc O).drew) : K a (u.alloc O).drew := h (heap_alloc_new u O) (Nat.le_refl _)
theorem cap_oldD {K : Act → World → Prop} {a : Act} {u : World} {O o : Obj} {b : Nat} (hb : u.heap[b]? = some o) (h : (u.alloc O).heap[b]? = some o → K a (u.alloc O).drew) : K a (u.alloc O).drew := h ((heap_alloc_old u O (blk_lt hb)).trans hb)
theorem cap_old {K : Act → World → Prop} {a : Act} {u : World} {O o : Obj} {b : Nat} (hb : u.heap[b]? = some o) (h : (u.alloc O).heap[b]? = some o → K a (u.alloc O)) : K a (u.alloc O) := h ((heap_alloc_old u O (blk_lt hb)).trans hb)
theorem drew_size (W : World) : W.drew.heap.size = W.heap.size := rfl
theorem cap_gen {K : Act → World → Prop} {a : Act} {W : World} (h : ∀ W', W' = W → K a W') : K a W := h W rfl
theorem makeInts (n : Nat) (hn : n ≤ 1000) (w : World) : (Instr.makeSlice 24 (.int .i64 (n : Int)) (.int .i64 (n : Int))).run Try.prog w = .ok (.slice (some ⟨w.heap.size, 0, none⟩) n n) (w.alloc (.cells (madeCells #[.int .i64 0] n) 3)) :=
  run_make_row' (P := Try.prog) 24 3 (.int .i64 0) 8 Try.underlying24 int_info rfl .i64 .i64 n (by omega) (by omega) w
theorem Play_zeros (f : M.Fm) (first : Int) (n : Nat) (A : Option Addr) (w : World) (hz : M.playE f first (List.replicate n 0) = 0 ∧ (M.playM f first (List.replicate n 0)).winner = 0) (hn : n ≤ 1000) (hr : RdI w w.heap.size A (List.replicate n 0)) :
    Calls Try.prog 13 #[.agg #[.int .i64 f.sets, .int .i64 f.games, .bool f.noAd, .int .i64 f.tie, .int .i64 f.to, .int .i64 f.lastTie, .int .i64 f.lastTo, .int .i64 f.first, .int .i64 f.next, .bool f.doubles], .int .i64 first, .slice A n n] w fun e w' => ∃ (A1 : Option Addr) (k1 c1 : Nat) (g1 g2 g3 g4 g5 g6 g7 : Int), e = .returned (.tuple #[.agg #[.slice A1 k1 c1, .int .i64 g1, .int .i64 g2, .int .i64 g3, .int .i64 g4, .int .i64 g5, .int .i64 g6, .int .i64 g7, .int .i64 0], .int .i64 0]) ∧ Below w.heap.size w w' := by
  refine (Play_any f first A n n (List.replicate n 0) w (List.length_replicate) hr (by omega)).mono ?_
  rintro e w' ⟨sv, rfl, hsv, hb⟩
  obtain ⟨A1, c1, e1⟩ := own_form hsv
  subst e1
  rw [hz.1, hz.2]
  exact ⟨_, _, _, _, _, _, _, _, _, _, rfl, hb⟩
set_option maxHeartbeats 16000000 in
set_option maxRecDepth 100000 in
theorem boundsLaw_ok (f : M.Fm) (first : Int) (A : Option Addr) (n c : Nat) (xs : List Int) (w : World) (hn : xs.length = n) (hr : RdI w w.heap.size A xs) (h : M.playE f first xs = 0) :
    Calls Try.prog 9 #[.agg #[.int .i64 f.sets, .int .i64 f.games, .bool f.noAd, .int .i64 f.tie, .int .i64 f.to, .int .i64 f.lastTie, .int .i64 f.lastTo, .int .i64 f.first, .int .i64 f.next, .bool f.doubles], .agg #[.int .i64 first, .slice A n c]] w fun e w' => e = .returned (.bool true) ∧ Below w.heap.size w w' := by
  obtain ⟨hvb, hfi, hle, _⟩ := M.playE_ok h
  have hV := (M.validB_iff f).1 hvb
  have hm : n ≤ 1000000 := by omega
  have hm2 : n ≤ maxLen := by unfold maxLen; omega
  obtain ⟨m, hmE⟩ : ∃ m, M.playM f first xs = m := ⟨_, rfl⟩
  have HLEN := hide (M.playM_len f first xs)
  obtain ⟨hl1, hl2⟩ := M.play_len h
  have hz := M.zeros_play hvb hfi
  obtain ⟨bL0, bL1, bP0, bP1, bH0, bH1⟩ := M.lowG_bd hV
  have hhl := M.high_low hV
  obtain ⟨L, hL⟩ : ∃ L, M.lowG f = L := ⟨_, rfl⟩
  obtain ⟨H, hH⟩ : ∃ H, M.highG f = H := ⟨_, rfl⟩
  obtain ⟨pn, hP⟩ : ∃ pn : Nat, M.lowP f = (pn : Int) := ⟨(M.lowP f).toNat, by omega⟩
  rw [hP, Int.toNat_natCast] at hz
  rw [hmE] at HLEN hl1 hl2
  rw [hL] at bL0 bL1 hhl hl2
  rw [hH] at bH0 bH1 hhl hl1
  rw [hP] at bP0 bP1 hl2
  rw [hn] at hl2
  have HL := hide hL
  have HH := hide hH
  have HP := hide hP
  have HZ := hide hz
  have HVB := hide hvb
  have HL1 := hide hl1
  have HL2 := hide hl2
  have HHL := hide hhl
  have HME := hide hmE
  have HE := hide h
  have HE2 := hide (show (M.playE f first xs == 0) = true from by rw [h]; rfl)
  have HN := hide hn
  have HR := hide hr
  have hpn : pn ≤ 96 := by omega
  have hmk := hide (makeInts pn (by omega))
  clear hn hr h hmE hfi hle hvb hV hz hL hH hP hl1 hl2 hhl
  go_enter Try.func9, Try.ntmps9
  go_upto_region 3 with (first | (go_at_call 23; refine (ready_any f first A n c xs _ HN.out ((HR.out.below (by (repeat' first | exact zbR _ _ | assumption | refine zbD ?_ | refine zbA ?_ ?_ _ | refine zbS ?_ ?_ _ | refine zbT ?_ (by assumption) ?_ | (simp; done) | (simp; omega) | omega))).mono (by simp; omega)) hm2).mono ?_; rintro e w1 ⟨rfl, hb⟩; rw [HE2.out]; have HX0 := hide ((hb.block w.heap.size (by simp; omega)).trans (heap_alloc2_old w _ _)); have HX1 := hide ((hb.block (w.heap.size + 1) (by simp)).trans (heap_alloc2_new w _ _)); have HB := hide (show Below w.heap.size w w1 from Below.trans (by (repeat' first | exact zbR _ _ | assumption | refine zbD ?_ | refine zbA ?_ ?_ _ | refine zbS ?_ ?_ _ | refine zbT ?_ (by assumption) ?_ | (simp; done) | (simp; omega) | omega)) (hb.mono (by simp; omega))); clear hb))
  have hc0 := fun i => cell_of_row w1 w.heap.size i _ _ _ HX0.out
  go_upto_region 4 with (first | (go_at_call 33; refine (Range_val f L H pn _ HVB.out HL.out HH.out HP.out).mono ?_; rintro e w2 ⟨rfl, hb⟩; clear hc0; replace HX0 := hide (blk_keep HX0.out hb); replace HX1 := hide (blk_keep HX1.out hb); replace HB := hide (HB.out.trans (hb.mono HB.out.size)); clear hb))
  have hb := (Below.refl w2.heap.size w2).alloc (Nat.le_refl _) (.cells #[.int .i64 L, .int .i64 H] 66 (0, 0))
  have HS := hide (heap_alloc_new w2 (.cells #[.int .i64 L, .int .i64 H] 66 (0, 0)))
  replace HX0 := hide (blk_keep HX0.out hb)
  replace HX1 := hide (blk_keep HX1.out hb)
  replace HB := hide (HB.out.trans (hb.mono HB.out.size))
  clear hb
  generalize w2.alloc (.cells #[.int .i64 L, .int .i64 H] 66 (0, 0)) = w3 at *
  generalize w2.heap.size = q3 at HS ⊢
  have hc0 := fun i => cell_of_row w3 w.heap.size i _ _ _ HX0.out
  have hc1 := fun i => cell_of_row w3 (w.heap.size + 1) i _ _ _ HX1.out
  go_upto_region 5 with (first | (go_at_call 24; refine (played_ok f first A n c xs m _ HE.out HME.out HN.out ((HR.out.below HB.out).mono HB.out.size) hm).mono ?_; rintro e w4 ⟨B1, d1, G1, g1, rfl, hs, hg, hb⟩; clear hc0 hc1 hs hg; replace HX0 := hide (blk_keep HX0.out hb); replace HX1 := hide (blk_keep HX1.out hb); replace HB := hide (HB.out.trans (hb.mono HB.out.size)); replace HS := hide (blk_keep HS.out hb); clear hb))
  have hb := (Below.refl w4.heap.size w4).alloc (Nat.le_refl _) (.cells #[.slice B1 m.sets.length d1, .int .i64 m.games.A, .int .i64 m.games.B, .int .i64 m.pts.A, .int .i64 m.pts.B, .int .i64 m.server, .int .i64 m.ends, .int .i64 m.balls, .int .i64 m.winner] 36 (0, 0))
  have HM := hide (heap_alloc_new w4 (.cells #[.slice B1 m.sets.length d1, .int .i64 m.games.A, .int .i64 m.games.B, .int .i64 m.pts.A, .int .i64 m.pts.B, .int .i64 m.server, .int .i64 m.ends, .int .i64 m.balls, .int .i64 m.winner] 36 (0, 0)))
  replace HX0 := hide (blk_keep HX0.out hb)
  replace HX1 := hide (blk_keep HX1.out hb)
  replace HB := hide (HB.out.trans (hb.mono HB.out.size))
  replace HS := hide (blk_keep HS.out hb)
  clear hb
  generalize w4.alloc (.cells #[.slice B1 m.sets.length d1, .int .i64 m.games.A, .int .i64 m.games.B, .int .i64 m.pts.A, .int .i64 m.pts.B, .int .i64 m.server, .int .i64 m.ends, .int .i64 m.balls, .int .i64 m.winner] 36 (0, 0)) = w5 at *
  generalize w4.heap.size = q5 at HM ⊢
  have hcs := fun i => cell_of_row w5 q3 i _ _ _ HS.out
  have hcm := fun i => cell_of_row w5 q5 i _ _ _ HM.out
  have hc1 := fun i => cell_of_row w5 (w.heap.size + 1) i _ _ _ HX1.out
  have s0 : w5.cell? ⟨q3, 0, none⟩ = some (.int .i64 L) := (hcs 0).trans rfl
  have s1 : w5.cell? ⟨q3, 1, none⟩ = some (.int .i64 H) := (hcs 1).trans rfl
  have m8 : w5.cell? ⟨q5, 8, none⟩ = some (.int .i64 m.winner) := (hcm 8).trans rfl
  have x1 : w5.cell? ⟨w.heap.size + 1, 1, none⟩ = some (.slice A n c) := (hc1 1).trans rfl
  clear hcs hcm hc1
  have f1 : 1 ≤ L := bL0
  have f2 : (1 : Int) ≤ (pn : Int) := by omega
  have f3 : (pn : Int) ≤ 600 := by omega
  have HF := hide (show (0 ≤ H → L ≤ H ∧ (m.log.length : Int) ≤ H) from fun hh => ⟨HHL.out hh, HL1.out hh⟩)
  have HW := hide (show (0 ≤ m.winner → L ≤ (m.log.length : Int) ∧ (pn : Int) ≤ (n : Int)) from fun hh => HL2.out hh)
  have hSof : ∀ v, Below w5.heap.size w5 v → (fun w' => Below w5.heap.size w5 w' ∧ w.heap.size < w'.heap.size ∧ w.heap.size + 1 < w'.heap.size ∧ w'.cell? ⟨w.heap.size, 0, none⟩ = some (.int .i64 f.sets) ∧ w'.cell? ⟨w.heap.size, 1, none⟩ = some (.int .i64 f.games) ∧ w'.cell? ⟨w.heap.size, 2, none⟩ = some (.bool f.noAd) ∧ w'.cell? ⟨w.heap.size, 3, none⟩ = some (.int .i64 f.tie) ∧ w'.cell? ⟨w.heap.size, 4, none⟩ = some (.int .i64 f.to) ∧ w'.cell? ⟨w.heap.size, 5, none⟩ = some (.int .i64 f.lastTie) ∧ w'.cell? ⟨w.heap.size, 6, none⟩ = some (.int .i64 f.lastTo) ∧ w'.cell? ⟨w.heap.size, 7, none⟩ = some (.int .i64 f.first) ∧ w'.cell? ⟨w.heap.size, 8, none⟩ = some (.int .i64 f.next) ∧ w'.cell? ⟨w.heap.size, 9, none⟩ = some (.bool f.doubles) ∧ w'.cell? ⟨w.heap.size + 1, 0, none⟩ = some (.int .i64 first)) v := by
    intro v hb
    have hx0 := blk_keep HX0.out hb
    have hx1 := blk_keep HX1.out hb
    have hc0 := fun i => cell_of_row v w.heap.size i _ _ _ hx0
    have hc1 := fun i => cell_of_row v (w.heap.size + 1) i _ _ _ hx1
    exact ⟨hb, blk_lt hx0, blk_lt hx1, (hc0 0).trans rfl, (hc0 1).trans rfl, (hc0 2).trans rfl, (hc0 3).trans rfl, (hc0 4).trans rfl, (hc0 5).trans rfl, (hc0 6).trans rfl, (hc0 7).trans rfl, (hc0 8).trans rfl, (hc0 9).trans rfl, (hc1 0).trans rfl⟩
  have HBB := hide HB.out
  clear HX0 HX1 HS HM HLEN HL HH HP HVB HL1 HL2 HHL HME HE HE2 HN HR HB bL0 bL1 bP0 bP1 bH0 bH1
  rcases (show H < 0 ∨ (0 ≤ H ∧ L ≤ H ∧ (m.log.length : Int) ≤ H) from by rcases Int.lt_or_le H 0 with hh | hh; exact .inl hh; exact .inr ⟨hh, HF.out hh⟩) with f4 | ⟨f4, f5, f6⟩ <;> rcases (show m.winner < 0 ∨ (0 ≤ m.winner ∧ L ≤ (m.log.length : Int) ∧ (pn : Int) ≤ (n : Int)) from by rcases Int.lt_or_le m.winner 0 with hh | hh; exact .inl hh; exact .inr ⟨hh, HW.out hh⟩) with f7 | ⟨f7, f8, f9⟩
  all_goals
    go_upto_region 9 with fail
    clear s0 s1 m8 x1 HF HW f1 f2 f3 f4 f7
    (try clear f5 f6)
    (try clear f8 f9)
    have hS : (fun w' => Below w5.heap.size w5 w' ∧ w.heap.size < w'.heap.size ∧ w.heap.size + 1 < w'.heap.size ∧ w'.cell? ⟨w.heap.size, 0, none⟩ = some (.int .i64 f.sets) ∧ w'.cell? ⟨w.heap.size, 1, none⟩ = some (.int .i64 f.games) ∧ w'.cell? ⟨w.heap.size, 2, none⟩ = some (.bool f.noAd) ∧ w'.cell? ⟨w.heap.size, 3, none⟩ = some (.int .i64 f.tie) ∧ w'.cell? ⟨w.heap.size, 4, none⟩ = some (.int .i64 f.to) ∧ w'.cell? ⟨w.heap.size, 5, none⟩ = some (.int .i64 f.lastTie) ∧ w'.cell? ⟨w.heap.size, 6, none⟩ = some (.int .i64 f.lastTo) ∧ w'.cell? ⟨w.heap.size, 7, none⟩ = some (.int .i64 f.first) ∧ w'.cell? ⟨w.heap.size, 8, none⟩ = some (.int .i64 f.next) ∧ w'.cell? ⟨w.heap.size, 9, none⟩ = some (.bool f.doubles) ∧ w'.cell? ⟨w.heap.size + 1, 0, none⟩ = some (.int .i64 first)) w5 := hSof w5 (Below.refl _ _)
    (try dsimp only at hS)
    have hmk2 := hmk.out
    refine wp_region_held_drew (S := (fun w' => Below w5.heap.size w5 w' ∧ w.heap.size < w'.heap.size ∧ w.heap.size + 1 < w'.heap.size ∧ w'.cell? ⟨w.heap.size, 0, none⟩ = some (.int .i64 f.sets) ∧ w'.cell? ⟨w.heap.size, 1, none⟩ = some (.int .i64 f.games) ∧ w'.cell? ⟨w.heap.size, 2, none⟩ = some (.bool f.noAd) ∧ w'.cell? ⟨w.heap.size, 3, none⟩ = some (.int .i64 f.tie) ∧ w'.cell? ⟨w.heap.size, 4, none⟩ = some (.int .i64 f.to) ∧ w'.cell? ⟨w.heap.size, 5, none⟩ = some (.int .i64 f.lastTie) ∧ w'.cell? ⟨w.heap.size, 6, none⟩ = some (.int .i64 f.lastTo) ∧ w'.cell? ⟨w.heap.size, 7, none⟩ = some (.int .i64 f.first) ∧ w'.cell? ⟨w.heap.size, 8, none⟩ = some (.int .i64 f.next) ∧ w'.cell? ⟨w.heap.size, 9, none⟩ = some (.bool f.doubles) ∧ w'.cell? ⟨w.heap.size + 1, 0, none⟩ = some (.int .i64 first))) (by kernel_rfl) ?_ (fun hD0 => ?_)
    · (try dsimp only); first | first | assumption | (first | (go_keep; done) | (go_split_ands; (repeat' apply And.intro) <;> first | (go_keep; done) | (simp [*, zcA, zcP, zfA, zfP]; done) | (simp [zcA, zcP] <;> rfl) | (simp [*, zsS, zsO, zsA]; done) | ((first | refine (hc _ _ ?_).trans ?_ | refine (hf _ _ ?_).trans ?_) <;> first | assumption | (simp; done) | (simp; omega) | omega | (go_keep; done) | (simp [*, zcA, zcP, zfA, zfP]; done) | (simp [zcA, zcP]; rfl)) | (repeat' first | exact zbR _ _ | assumption | refine zbD ?_ | refine zbA ?_ ?_ _ | refine zbS ?_ ?_ _ | refine zbT ?_ (by assumption) ?_ | (simp; done) | (simp; omega) | omega))) | (first | (go_keep; done) | (go_split_ands; (repeat' apply And.intro) <;> first | (go_keep; done) | (simp [*, zcA, zcP, zfA, zfP]; done) | (simp [zcA, zcP] <;> rfl) | (simp [*, zsS, zsO, zsA]; done) | ((first | refine (hc _ _ ?_).trans ?_ | refine (hf _ _ ?_).trans ?_) <;> first | assumption | (simp; done) | (simp; omega) | omega | (go_keep; done) | (simp [*, zcA, zcP, zfA, zfP]; done) | (simp [zcA, zcP]; rfl)) | (repeat' first | exact zbR _ _ | assumption | refine zbD ?_ | refine zbA ?_ ?_ _ | refine zbS ?_ ?_ _ | refine zbT ?_ (by assumption) ?_ | (simp; done) | (simp; omega) | omega)))
    refine tW ?_ 0 rfl (by kernel_rfl) (fun _ _ _ h => h) (by rfl) (by assumption) ?_ ?_; rotate_left; (focus (intro w hSw; (try dsimp only at hSw); go_simp; try with_reducible rfl)); try simp only [Act.put, zl, z0, z1]
    refine tW ?_ 1 rfl (by kernel_rfl) (fun _ _ _ h => h) (by rfl) (by assumption) ?_ ?_; rotate_left; (focus (intro w hSw; (try dsimp only at hSw); go_simp; try with_reducible rfl)); try simp only [Act.put, zl, z0, z1]
    refine tW ?_ 2 rfl (by kernel_rfl) (fun _ _ _ h => h) (by rfl) (by assumption) ?_ ?_; rotate_left; (focus (intro w hSw; (try dsimp only at hSw); go_simp; try with_reducible rfl)); try simp only [Act.put, zl, z0, z1]
    refine tW ?_ 3 rfl (by kernel_rfl) (fun _ _ _ h => h) (by rfl) (by assumption) ?_ ?_; rotate_left; (focus (intro w hSw; (try dsimp only at hSw); go_simp; try with_reducible rfl)); try simp only [Act.put, zl, z0, z1]
    refine wpAnyH_ready (rs := [4, 9]) (by kernel_rfl) (by simp) ?_; refine consL 4 rfl (fun K hK => ?_) ?_
    first | (refine step_row_bounds rfl 36 (.tmp 11) (.tmp 98) rfl _ _ rfl rfl 36 _ HG.out scoreRow rfl (by simp [Value.oneCell']) ?_; have hr := setRow_heap _ _ _ (#[.slice A8 k8 c8, .int .i64 g1, .int .i64 g2, .int .i64 g3, .int .i64 g4, .int .i64 g5, .int .i64 g6, .int .i64 g7, .int .i64 0]) _ _ HG.out; have hSn := hSof _ (below_row (show Below w5.heap.size w5 _ from (by first | exact hD3.1 | exact hD4.1 | exact hD2.1)) (show w5.heap.size ≤ _ by first | exact HGL.out | omega) (#[.slice A8 k8 c8, .int .i64 g1, .int .i64 g2, .int .i64 g3, .int .i64 g4, .int .i64 g5, .int .i64 g6, .int .i64 g7, .int .i64 0])); refine cap_gen (K := K) (fun W9 hW9 => ?_); rw [← hW9] at hr hSn; have HR9 := hide hr; clear hr hW9; (try dsimp only at hSn)) | (go_simp; (first | refine cap_alloc (K := K) (O := (.cells #[.slice none 0 0, .int .i64 0, .int .i64 0, .int .i64 0, .int .i64 0, .int .i64 0, .int .i64 0, .int .i64 0, .int .i64 0] 36 (0, 0))) (fun hG hle => ?_) | refine cap_allocD (K := K) (O := (.cells #[.slice none 0 0, .int .i64 0, .int .i64 0, .int .i64 0, .int .i64 0, .int .i64 0, .int .i64 0, .int .i64 0, .int .i64 0] 36 (0, 0))) (fun hG hle => ?_)); replace hle := Nat.le_trans (show w5.heap.size ≤ _ from (by first | exact hD0.1.size | exact hD1.1.size | exact hD2.1.size)) hle; (try simp only [World.size_alloc, drew_size] at hG); (try simp only [World.size_alloc, drew_size] at hle); have HG := hide hG; have HGL := hide hle; clear hG hle) | (go_simp; (first | refine cap_old (K := K) HG.out (fun hG => ?_) | refine cap_oldD (K := K) HG.out (fun hG => ?_)); replace HG := hide hG; clear hG) | go_simp
    refine hK.out _ _ ?_ (fun hD1 => ?_)
    · (try dsimp only); first | first | assumption | (first | (go_keep; done) | (go_split_ands; (repeat' apply And.intro) <;> first | (go_keep; done) | (simp [*, zcA, zcP, zfA, zfP]; done) | (simp [zcA, zcP] <;> rfl) | (simp [*, zsS, zsO, zsA]; done) | ((first | refine (hc _ _ ?_).trans ?_ | refine (hf _ _ ?_).trans ?_) <;> first | assumption | (simp; done) | (simp; omega) | omega | (go_keep; done) | (simp [*, zcA, zcP, zfA, zfP]; done) | (simp [zcA, zcP]; rfl)) | (repeat' first | exact zbR _ _ | assumption | refine zbD ?_ | refine zbA ?_ ?_ _ | refine zbS ?_ ?_ _ | refine zbT ?_ (by assumption) ?_ | (simp; done) | (simp; omega) | omega))) | (first | (go_keep; done) | (go_split_ands; (repeat' apply And.intro) <;> first | (go_keep; done) | (simp [*, zcA, zcP, zfA, zfP]; done) | (simp [zcA, zcP] <;> rfl) | (simp [*, zsS, zsO, zsA]; done) | ((first | refine (hc _ _ ?_).trans ?_ | refine (hf _ _ ?_).trans ?_) <;> first | assumption | (simp; done) | (simp; omega) | omega | (go_keep; done) | (simp [*, zcA, zcP, zfA, zfP]; done) | (simp [zcA, zcP]; rfl)) | (repeat' first | exact zbR _ _ | assumption | refine zbD ?_ | refine zbA ?_ ?_ _ | refine zbS ?_ ?_ _ | refine zbT ?_ (by assumption) ?_ | (simp; done) | (simp; omega) | omega)))
    clear hK K hD0; try simp only [Act.put, zl, z0, z1]
    refine wpAnyH_ready (rs := [5, 9]) (by kernel_rfl) (by simp) ?_; refine consL 5 rfl (fun K hK => ?_) ?_; go_simp
    ((go_at_call 13; refine (Play_zeros f first pn _ _ HZ.out (by omega) (by first | exact rdI_cells (by first | exact heap_alloc_new _ _ | exact heap_alloc2_new _ _ _ | exact (heap_alloc_old _ _ (by simp)).trans (heap_alloc_new _ _)))).mono ?_; rintro e w8 ⟨A8, k8, c8, g1, g2, g3, g4, g5, g6, g7, rfl, hb⟩; (try replace HG := hide ((hb.block _ (blk_lt HG.out)).trans HG.out)); have hSn := hSof _ ((show Below w5.heap.size w5 _ by (repeat' first | exact zbR _ _ | assumption | refine zbD ?_ | refine zbA ?_ ?_ _ | refine zbS ?_ ?_ _ | refine zbT ?_ (by assumption) ?_ | (simp; done) | (simp; omega) | omega)).trans (hb.mono (by first | (simp; done) | (simp; omega) | omega))); (try dsimp only at hSn)))
    refine hK.out _ _ ?_ (fun hD2 => ?_)
    · (try dsimp only); first | first | assumption | (first | (go_keep; done) | (go_split_ands; (repeat' apply And.intro) <;> first | (go_keep; done) | (simp [*, zcA, zcP, zfA, zfP]; done) | (simp [zcA, zcP] <;> rfl) | (simp [*, zsS, zsO, zsA]; done) | ((first | refine (hc _ _ ?_).trans ?_ | refine (hf _ _ ?_).trans ?_) <;> first | assumption | (simp; done) | (simp; omega) | omega | (go_keep; done) | (simp [*, zcA, zcP, zfA, zfP]; done) | (simp [zcA, zcP]; rfl)) | (repeat' first | exact zbR _ _ | assumption | refine zbD ?_ | refine zbA ?_ ?_ _ | refine zbS ?_ ?_ _ | refine zbT ?_ (by assumption) ?_ | (simp; done) | (simp; omega) | omega))) | (first | (go_keep; done) | (go_split_ands; (repeat' apply And.intro) <;> first | (go_keep; done) | (simp [*, zcA, zcP, zfA, zfP]; done) | (simp [zcA, zcP] <;> rfl) | (simp [*, zsS, zsO, zsA]; done) | ((first | refine (hc _ _ ?_).trans ?_ | refine (hf _ _ ?_).trans ?_) <;> first | assumption | (simp; done) | (simp; omega) | omega | (go_keep; done) | (simp [*, zcA, zcP, zfA, zfP]; done) | (simp [zcA, zcP]; rfl)) | (repeat' first | exact zbR _ _ | assumption | refine zbD ?_ | refine zbA ?_ ?_ _ | refine zbS ?_ ?_ _ | refine zbT ?_ (by assumption) ?_ | (simp; done) | (simp; omega) | omega)))
    clear hK K hD1; try simp only [Act.put, zl, z0, z1]
    refine tW ?_ 6 rfl (by kernel_rfl) (fun _ _ _ h => h) (by rfl) (by assumption) ?_ ?_; rotate_left; (focus (intro w hSw; (try dsimp only at hSw); go_simp; try with_reducible rfl)); try simp only [Act.put, zl, z0, z1]
    refine tW ?_ 7 rfl (by kernel_rfl) (fun _ _ _ h => h) (by rfl) (by assumption) ?_ ?_; rotate_left; (focus (intro w hSw; (try dsimp only at hSw); go_simp; try with_reducible rfl)); try simp only [Act.put, zl, z0, z1]
    refine tW ?_ 8 rfl (by kernel_rfl) (fun _ _ _ h => h) (by rfl) (by assumption) ?_ ?_; rotate_left; (focus (intro w hSw; (try dsimp only at hSw); go_simp; try with_reducible rfl)); try simp only [Act.put, zl, z0, z1]
    refine wpAnyH_ready (rs := [9]) (by kernel_rfl) (by simp) ?_; refine consL 9 rfl (fun K hK => ?_) AllReadyH.nil
    first | (refine step_row_bounds rfl 36 (.tmp 11) (.tmp 98) rfl _ _ rfl rfl 36 _ HG.out scoreRow rfl (by simp [Value.oneCell']) ?_; have hr := setRow_heap _ _ _ (#[.slice A8 k8 c8, .int .i64 g1, .int .i64 g2, .int .i64 g3, .int .i64 g4, .int .i64 g5, .int .i64 g6, .int .i64 g7, .int .i64 0]) _ _ HG.out; have hSn := hSof _ (below_row (show Below w5.heap.size w5 _ from (by first | exact hD3.1 | exact hD4.1 | exact hD2.1)) (show w5.heap.size ≤ _ by first | exact HGL.out | omega) (#[.slice A8 k8 c8, .int .i64 g1, .int .i64 g2, .int .i64 g3, .int .i64 g4, .int .i64 g5, .int .i64 g6, .int .i64 g7, .int .i64 0])); refine cap_gen (K := K) (fun W9 hW9 => ?_); rw [← hW9] at hr hSn; have HR9 := hide hr; clear hr hW9; (try dsimp only at hSn)) | (go_simp; (first | refine cap_alloc (K := K) (O := (.cells #[.slice none 0 0, .int .i64 0, .int .i64 0, .int .i64 0, .int .i64 0, .int .i64 0, .int .i64 0, .int .i64 0, .int .i64 0] 36 (0, 0))) (fun hG hle => ?_) | refine cap_allocD (K := K) (O := (.cells #[.slice none 0 0, .int .i64 0, .int .i64 0, .int .i64 0, .int .i64 0, .int .i64 0, .int .i64 0, .int .i64 0, .int .i64 0] 36 (0, 0))) (fun hG hle => ?_)); replace hle := Nat.le_trans (show w5.heap.size ≤ _ from (by first | exact hD0.1.size | exact hD1.1.size | exact hD2.1.size)) hle; (try simp only [World.size_alloc, drew_size] at hG); (try simp only [World.size_alloc, drew_size] at hle); have HG := hide hG; have HGL := hide hle; clear hG hle) | (go_simp; (first | refine cap_old (K := K) HG.out (fun hG => ?_) | refine cap_oldD (K := K) HG.out (fun hG => ?_)); replace HG := hide hG; clear hG) | go_simp
    refine hK.out _ _ ?_ (fun hD3 => ?_)
    · (try dsimp only); first | first | assumption | (first | (go_keep; done) | (go_split_ands; (repeat' apply And.intro) <;> first | (go_keep; done) | (simp [*, zcA, zcP, zfA, zfP]; done) | (simp [zcA, zcP] <;> rfl) | (simp [*, zsS, zsO, zsA]; done) | ((first | refine (hc _ _ ?_).trans ?_ | refine (hf _ _ ?_).trans ?_) <;> first | assumption | (simp; done) | (simp; omega) | omega | (go_keep; done) | (simp [*, zcA, zcP, zfA, zfP]; done) | (simp [zcA, zcP]; rfl)) | (repeat' first | exact zbR _ _ | assumption | refine zbD ?_ | refine zbA ?_ ?_ _ | refine zbS ?_ ?_ _ | refine zbT ?_ (by assumption) ?_ | (simp; done) | (simp; omega) | omega))) | (first | (go_keep; done) | (go_split_ands; (repeat' apply And.intro) <;> first | (go_keep; done) | (simp [*, zcA, zcP, zfA, zfP]; done) | (simp [zcA, zcP] <;> rfl) | (simp [*, zsS, zsO, zsA]; done) | ((first | refine (hc _ _ ?_).trans ?_ | refine (hf _ _ ?_).trans ?_) <;> first | assumption | (simp; done) | (simp; omega) | omega | (go_keep; done) | (simp [*, zcA, zcP, zfA, zfP]; done) | (simp [zcA, zcP]; rfl)) | (repeat' first | exact zbR _ _ | assumption | refine zbD ?_ | refine zbA ?_ ?_ _ | refine zbS ?_ ?_ _ | refine zbT ?_ (by assumption) ?_ | (simp; done) | (simp; omega) | omega)))
    clear hK K hD2; try simp only [Act.put, zl, z0, z1]
    refine wpAnyH_ready (rs := [10]) (by kernel_rfl) (by simp) ?_; refine consL 10 rfl (fun K hK => ?_) AllReadyH.nil
    first | (refine step_row_bounds rfl 36 (.tmp 11) (.tmp 98) rfl _ _ rfl rfl 36 _ HG.out scoreRow rfl (by simp [Value.oneCell']) ?_; have hr := setRow_heap _ _ _ (#[.slice A8 k8 c8, .int .i64 g1, .int .i64 g2, .int .i64 g3, .int .i64 g4, .int .i64 g5, .int .i64 g6, .int .i64 g7, .int .i64 0]) _ _ HG.out; have hSn := hSof _ (below_row (show Below w5.heap.size w5 _ from (by first | exact hD3.1 | exact hD4.1 | exact hD2.1)) (show w5.heap.size ≤ _ by first | exact HGL.out | omega) (#[.slice A8 k8 c8, .int .i64 g1, .int .i64 g2, .int .i64 g3, .int .i64 g4, .int .i64 g5, .int .i64 g6, .int .i64 g7, .int .i64 0])); refine cap_gen (K := K) (fun W9 hW9 => ?_); rw [← hW9] at hr hSn; have HR9 := hide hr; clear hr hW9; (try dsimp only at hSn)) | (go_simp; (first | refine cap_alloc (K := K) (O := (.cells #[.slice none 0 0, .int .i64 0, .int .i64 0, .int .i64 0, .int .i64 0, .int .i64 0, .int .i64 0, .int .i64 0, .int .i64 0] 36 (0, 0))) (fun hG hle => ?_) | refine cap_allocD (K := K) (O := (.cells #[.slice none 0 0, .int .i64 0, .int .i64 0, .int .i64 0, .int .i64 0, .int .i64 0, .int .i64 0, .int .i64 0, .int .i64 0] 36 (0, 0))) (fun hG hle => ?_)); replace hle := Nat.le_trans (show w5.heap.size ≤ _ from (by first | exact hD0.1.size | exact hD1.1.size | exact hD2.1.size)) hle; (try simp only [World.size_alloc, drew_size] at hG); (try simp only [World.size_alloc, drew_size] at hle); have HG := hide hG; have HGL := hide hle; clear hG hle) | (go_simp; (first | refine cap_old (K := K) HG.out (fun hG => ?_) | refine cap_oldD (K := K) HG.out (fun hG => ?_)); replace HG := hide hG; clear hG) | go_simp
    refine hK.out _ _ ?_ (fun hD4 => ?_)
    · (try dsimp only); first | first | assumption | (first | (go_keep; done) | (go_split_ands; (repeat' apply And.intro) <;> first | (go_keep; done) | (simp [*, zcA, zcP, zfA, zfP]; done) | (simp [zcA, zcP] <;> rfl) | (simp [*, zsS, zsO, zsA]; done) | ((first | refine (hc _ _ ?_).trans ?_ | refine (hf _ _ ?_).trans ?_) <;> first | assumption | (simp; done) | (simp; omega) | omega | (go_keep; done) | (simp [*, zcA, zcP, zfA, zfP]; done) | (simp [zcA, zcP]; rfl)) | (repeat' first | exact zbR _ _ | assumption | refine zbD ?_ | refine zbA ?_ ?_ _ | refine zbS ?_ ?_ _ | refine zbT ?_ (by assumption) ?_ | (simp; done) | (simp; omega) | omega))) | (first | (go_keep; done) | (go_split_ands; (repeat' apply And.intro) <;> first | (go_keep; done) | (simp [*, zcA, zcP, zfA, zfP]; done) | (simp [zcA, zcP] <;> rfl) | (simp [*, zsS, zsO, zsA]; done) | ((first | refine (hc _ _ ?_).trans ?_ | refine (hf _ _ ?_).trans ?_) <;> first | assumption | (simp; done) | (simp; omega) | omega | (go_keep; done) | (simp [*, zcA, zcP, zfA, zfP]; done) | (simp [zcA, zcP]; rfl)) | (repeat' first | exact zbR _ _ | assumption | refine zbD ?_ | refine zbA ?_ ?_ _ | refine zbS ?_ ?_ _ | refine zbT ?_ (by assumption) ?_ | (simp; done) | (simp; omega) | omega)))
    clear hK K hD3; try simp only [Act.put, zl, z0, z1]
    refine tW ?_ 11 rfl (by kernel_rfl) (fun _ _ _ h => h) (by rfl) (by assumption) ?_ ?_; rotate_left; (focus (intro w hSw; (try dsimp only at hSw); go_simp; try with_reducible rfl)); try simp only [Act.put, zl, z0, z1]
    refine wpAnyH_done (by kernel_rfl) ?_ _
    rotate_left 1
    refine consL 9 rfl (fun K hK => ?_) AllReadyH.nil
    first | (refine step_row_bounds rfl 36 (.tmp 11) (.tmp 98) rfl _ _ rfl rfl 36 _ HG.out scoreRow rfl (by simp [Value.oneCell']) ?_; have hr := setRow_heap _ _ _ (#[.slice A8 k8 c8, .int .i64 g1, .int .i64 g2, .int .i64 g3, .int .i64 g4, .int .i64 g5, .int .i64 g6, .int .i64 g7, .int .i64 0]) _ _ HG.out; have hSn := hSof _ (below_row (show Below w5.heap.size w5 _ from (by first | exact hD3.1 | exact hD4.1 | exact hD2.1)) (show w5.heap.size ≤ _ by first | exact HGL.out | omega) (#[.slice A8 k8 c8, .int .i64 g1, .int .i64 g2, .int .i64 g3, .int .i64 g4, .int .i64 g5, .int .i64 g6, .int .i64 g7, .int .i64 0])); refine cap_gen (K := K) (fun W9 hW9 => ?_); rw [← hW9] at hr hSn; have HR9 := hide hr; clear hr hW9; (try dsimp only at hSn)) | (go_simp; (first | refine cap_alloc (K := K) (O := (.cells #[.slice none 0 0, .int .i64 0, .int .i64 0, .int .i64 0, .int .i64 0, .int .i64 0, .int .i64 0, .int .i64 0, .int .i64 0] 36 (0, 0))) (fun hG hle => ?_) | refine cap_allocD (K := K) (O := (.cells #[.slice none 0 0, .int .i64 0, .int .i64 0, .int .i64 0, .int .i64 0, .int .i64 0, .int .i64 0, .int .i64 0, .int .i64 0] 36 (0, 0))) (fun hG hle => ?_)); replace hle := Nat.le_trans (show w5.heap.size ≤ _ from (by first | exact hD0.1.size | exact hD1.1.size | exact hD2.1.size)) hle; (try simp only [World.size_alloc, drew_size] at hG); (try simp only [World.size_alloc, drew_size] at hle); have HG := hide hG; have HGL := hide hle; clear hG hle) | (go_simp; (first | refine cap_old (K := K) HG.out (fun hG => ?_) | refine cap_oldD (K := K) HG.out (fun hG => ?_)); replace HG := hide hG; clear hG) | go_simp
    refine hK.out _ _ ?_ (fun hD2 => ?_)
    · (try dsimp only); first | first | assumption | (first | (go_keep; done) | (go_split_ands; (repeat' apply And.intro) <;> first | (go_keep; done) | (simp [*, zcA, zcP, zfA, zfP]; done) | (simp [zcA, zcP] <;> rfl) | (simp [*, zsS, zsO, zsA]; done) | ((first | refine (hc _ _ ?_).trans ?_ | refine (hf _ _ ?_).trans ?_) <;> first | assumption | (simp; done) | (simp; omega) | omega | (go_keep; done) | (simp [*, zcA, zcP, zfA, zfP]; done) | (simp [zcA, zcP]; rfl)) | (repeat' first | exact zbR _ _ | assumption | refine zbD ?_ | refine zbA ?_ ?_ _ | refine zbS ?_ ?_ _ | refine zbT ?_ (by assumption) ?_ | (simp; done) | (simp; omega) | omega))) | (first | (go_keep; done) | (go_split_ands; (repeat' apply And.intro) <;> first | (go_keep; done) | (simp [*, zcA, zcP, zfA, zfP]; done) | (simp [zcA, zcP] <;> rfl) | (simp [*, zsS, zsO, zsA]; done) | ((first | refine (hc _ _ ?_).trans ?_ | refine (hf _ _ ?_).trans ?_) <;> first | assumption | (simp; done) | (simp; omega) | omega | (go_keep; done) | (simp [*, zcA, zcP, zfA, zfP]; done) | (simp [zcA, zcP]; rfl)) | (repeat' first | exact zbR _ _ | assumption | refine zbD ?_ | refine zbA ?_ ?_ _ | refine zbS ?_ ?_ _ | refine zbT ?_ (by assumption) ?_ | (simp; done) | (simp; omega) | omega)))
    clear hK K hD1; try simp only [Act.put, zl, z0, z1]
    refine wpAnyH_ready (rs := [5]) (by kernel_rfl) (by simp) ?_; refine consL 5 rfl (fun K hK => ?_) AllReadyH.nil; go_simp
    ((go_at_call 13; refine (Play_zeros f first pn _ _ HZ.out (by omega) (by first | exact rdI_cells (by first | exact heap_alloc_new _ _ | exact heap_alloc2_new _ _ _ | exact (heap_alloc_old _ _ (by simp)).trans (heap_alloc_new _ _)))).mono ?_; rintro e w8 ⟨A8, k8, c8, g1, g2, g3, g4, g5, g6, g7, rfl, hb⟩; (try replace HG := hide ((hb.block _ (blk_lt HG.out)).trans HG.out)); have hSn := hSof _ ((show Below w5.heap.size w5 _ by (repeat' first | exact zbR _ _ | assumption | refine zbD ?_ | refine zbA ?_ ?_ _ | refine zbS ?_ ?_ _ | refine zbT ?_ (by assumption) ?_ | (simp; done) | (simp; omega) | omega)).trans (hb.mono (by first | (simp; done) | (simp; omega) | omega))); (try dsimp only at hSn)))
    refine hK.out _ _ ?_ (fun hD3 => ?_)
    · (try dsimp only); first | first | assumption | (first | (go_keep; done) | (go_split_ands; (repeat' apply And.intro) <;> first | (go_keep; done) | (simp [*, zcA, zcP, zfA, zfP]; done) | (simp [zcA, zcP] <;> rfl) | (simp [*, zsS, zsO, zsA]; done) | ((first | refine (hc _ _ ?_).trans ?_ | refine (hf _ _ ?_).trans ?_) <;> first | assumption | (simp; done) | (simp; omega) | omega | (go_keep; done) | (simp [*, zcA, zcP, zfA, zfP]; done) | (simp [zcA, zcP]; rfl)) | (repeat' first | exact zbR _ _ | assumption | refine zbD ?_ | refine zbA ?_ ?_ _ | refine zbS ?_ ?_ _ | refine zbT ?_ (by assumption) ?_ | (simp; done) | (simp; omega) | omega))) | (first | (go_keep; done) | (go_split_ands; (repeat' apply And.intro) <;> first | (go_keep; done) | (simp [*, zcA, zcP, zfA, zfP]; done) | (simp [zcA, zcP] <;> rfl) | (simp [*, zsS, zsO, zsA]; done) | ((first | refine (hc _ _ ?_).trans ?_ | refine (hf _ _ ?_).trans ?_) <;> first | assumption | (simp; done) | (simp; omega) | omega | (go_keep; done) | (simp [*, zcA, zcP, zfA, zfP]; done) | (simp [zcA, zcP]; rfl)) | (repeat' first | exact zbR _ _ | assumption | refine zbD ?_ | refine zbA ?_ ?_ _ | refine zbS ?_ ?_ _ | refine zbT ?_ (by assumption) ?_ | (simp; done) | (simp; omega) | omega)))
    clear hK K hD2; try simp only [Act.put, zl, z0, z1]
    refine tW ?_ 6 rfl (by kernel_rfl) (fun _ _ _ h => h) (by rfl) (by assumption) ?_ ?_; rotate_left; (focus (intro w hSw; (try dsimp only at hSw); go_simp; try with_reducible rfl)); try simp only [Act.put, zl, z0, z1]
    refine tW ?_ 7 rfl (by kernel_rfl) (fun _ _ _ h => h) (by rfl) (by assumption) ?_ ?_; rotate_left; (focus (intro w hSw; (try dsimp only at hSw); go_simp; try with_reducible rfl)); try simp only [Act.put, zl, z0, z1]
    refine tW ?_ 8 rfl (by kernel_rfl) (fun _ _ _ h => h) (by rfl) (by assumption) ?_ ?_; rotate_left; (focus (intro w hSw; (try dsimp only at hSw); go_simp; try with_reducible rfl)); try simp only [Act.put, zl, z0, z1]
    refine wpAnyH_ready (rs := [10]) (by kernel_rfl) (by simp) ?_; refine consL 10 rfl (fun K hK => ?_) AllReadyH.nil
    first | (refine step_row_bounds rfl 36 (.tmp 11) (.tmp 98) rfl _ _ rfl rfl 36 _ HG.out scoreRow rfl (by simp [Value.oneCell']) ?_; have hr := setRow_heap _ _ _ (#[.slice A8 k8 c8, .int .i64 g1, .int .i64 g2, .int .i64 g3, .int .i64 g4, .int .i64 g5, .int .i64 g6, .int .i64 g7, .int .i64 0]) _ _ HG.out; have hSn := hSof _ (below_row (show Below w5.heap.size w5 _ from (by first | exact hD3.1 | exact hD4.1 | exact hD2.1)) (show w5.heap.size ≤ _ by first | exact HGL.out | omega) (#[.slice A8 k8 c8, .int .i64 g1, .int .i64 g2, .int .i64 g3, .int .i64 g4, .int .i64 g5, .int .i64 g6, .int .i64 g7, .int .i64 0])); refine cap_gen (K := K) (fun W9 hW9 => ?_); rw [← hW9] at hr hSn; have HR9 := hide hr; clear hr hW9; (try dsimp only at hSn)) | (go_simp; (first | refine cap_alloc (K := K) (O := (.cells #[.slice none 0 0, .int .i64 0, .int .i64 0, .int .i64 0, .int .i64 0, .int .i64 0, .int .i64 0, .int .i64 0, .int .i64 0] 36 (0, 0))) (fun hG hle => ?_) | refine cap_allocD (K := K) (O := (.cells #[.slice none 0 0, .int .i64 0, .int .i64 0, .int .i64 0, .int .i64 0, .int .i64 0, .int .i64 0, .int .i64 0, .int .i64 0] 36 (0, 0))) (fun hG hle => ?_)); replace hle := Nat.le_trans (show w5.heap.size ≤ _ from (by first | exact hD0.1.size | exact hD1.1.size | exact hD2.1.size)) hle; (try simp only [World.size_alloc, drew_size] at hG); (try simp only [World.size_alloc, drew_size] at hle); have HG := hide hG; have HGL := hide hle; clear hG hle) | (go_simp; (first | refine cap_old (K := K) HG.out (fun hG => ?_) | refine cap_oldD (K := K) HG.out (fun hG => ?_)); replace HG := hide hG; clear hG) | go_simp
    refine hK.out _ _ ?_ (fun hD4 => ?_)
    · (try dsimp only); first | first | assumption | (first | (go_keep; done) | (go_split_ands; (repeat' apply And.intro) <;> first | (go_keep; done) | (simp [*, zcA, zcP, zfA, zfP]; done) | (simp [zcA, zcP] <;> rfl) | (simp [*, zsS, zsO, zsA]; done) | ((first | refine (hc _ _ ?_).trans ?_ | refine (hf _ _ ?_).trans ?_) <;> first | assumption | (simp; done) | (simp; omega) | omega | (go_keep; done) | (simp [*, zcA, zcP, zfA, zfP]; done) | (simp [zcA, zcP]; rfl)) | (repeat' first | exact zbR _ _ | assumption | refine zbD ?_ | refine zbA ?_ ?_ _ | refine zbS ?_ ?_ _ | refine zbT ?_ (by assumption) ?_ | (simp; done) | (simp; omega) | omega))) | (first | (go_keep; done) | (go_split_ands; (repeat' apply And.intro) <;> first | (go_keep; done) | (simp [*, zcA, zcP, zfA, zfP]; done) | (simp [zcA, zcP] <;> rfl) | (simp [*, zsS, zsO, zsA]; done) | ((first | refine (hc _ _ ?_).trans ?_ | refine (hf _ _ ?_).trans ?_) <;> first | assumption | (simp; done) | (simp; omega) | omega | (go_keep; done) | (simp [*, zcA, zcP, zfA, zfP]; done) | (simp [zcA, zcP]; rfl)) | (repeat' first | exact zbR _ _ | assumption | refine zbD ?_ | refine zbA ?_ ?_ _ | refine zbS ?_ ?_ _ | refine zbT ?_ (by assumption) ?_ | (simp; done) | (simp; omega) | omega)))
    clear hK K hD3; try simp only [Act.put, zl, z0, z1]
    refine tW ?_ 11 rfl (by kernel_rfl) (fun _ _ _ h => h) (by rfl) (by assumption) ?_ ?_; rotate_left; (focus (intro w hSw; (try dsimp only at hSw); go_simp; try with_reducible rfl)); try simp only [Act.put, zl, z0, z1]
    refine wpAnyH_done (by kernel_rfl) ?_ _
    rotate_left 1
    refine consL 9 rfl (fun K hK => ?_) AllReadyH.nil
    first | (refine step_row_bounds rfl 36 (.tmp 11) (.tmp 98) rfl _ _ rfl rfl 36 _ HG.out scoreRow rfl (by simp [Value.oneCell']) ?_; have hr := setRow_heap _ _ _ (#[.slice A8 k8 c8, .int .i64 g1, .int .i64 g2, .int .i64 g3, .int .i64 g4, .int .i64 g5, .int .i64 g6, .int .i64 g7, .int .i64 0]) _ _ HG.out; have hSn := hSof _ (below_row (show Below w5.heap.size w5 _ from (by first | exact hD3.1 | exact hD4.1 | exact hD2.1)) (show w5.heap.size ≤ _ by first | exact HGL.out | omega) (#[.slice A8 k8 c8, .int .i64 g1, .int .i64 g2, .int .i64 g3, .int .i64 g4, .int .i64 g5, .int .i64 g6, .int .i64 g7, .int .i64 0])); refine cap_gen (K := K) (fun W9 hW9 => ?_); rw [← hW9] at hr hSn; have HR9 := hide hr; clear hr hW9; (try dsimp only at hSn)) | (go_simp; (first | refine cap_alloc (K := K) (O := (.cells #[.slice none 0 0, .int .i64 0, .int .i64 0, .int .i64 0, .int .i64 0, .int .i64 0, .int .i64 0, .int .i64 0, .int .i64 0] 36 (0, 0))) (fun hG hle => ?_) | refine cap_allocD (K := K) (O := (.cells #[.slice none 0 0, .int .i64 0, .int .i64 0, .int .i64 0, .int .i64 0, .int .i64 0, .int .i64 0, .int .i64 0, .int .i64 0] 36 (0, 0))) (fun hG hle => ?_)); replace hle := Nat.le_trans (show w5.heap.size ≤ _ from (by first | exact hD0.1.size | exact hD1.1.size | exact hD2.1.size)) hle; (try simp only [World.size_alloc, drew_size] at hG); (try simp only [World.size_alloc, drew_size] at hle); have HG := hide hG; have HGL := hide hle; clear hG hle) | (go_simp; (first | refine cap_old (K := K) HG.out (fun hG => ?_) | refine cap_oldD (K := K) HG.out (fun hG => ?_)); replace HG := hide hG; clear hG) | go_simp
    refine hK.out _ _ ?_ (fun hD1 => ?_)
    · (try dsimp only); first | first | assumption | (first | (go_keep; done) | (go_split_ands; (repeat' apply And.intro) <;> first | (go_keep; done) | (simp [*, zcA, zcP, zfA, zfP]; done) | (simp [zcA, zcP] <;> rfl) | (simp [*, zsS, zsO, zsA]; done) | ((first | refine (hc _ _ ?_).trans ?_ | refine (hf _ _ ?_).trans ?_) <;> first | assumption | (simp; done) | (simp; omega) | omega | (go_keep; done) | (simp [*, zcA, zcP, zfA, zfP]; done) | (simp [zcA, zcP]; rfl)) | (repeat' first | exact zbR _ _ | assumption | refine zbD ?_ | refine zbA ?_ ?_ _ | refine zbS ?_ ?_ _ | refine zbT ?_ (by assumption) ?_ | (simp; done) | (simp; omega) | omega))) | (first | (go_keep; done) | (go_split_ands; (repeat' apply And.intro) <;> first | (go_keep; done) | (simp [*, zcA, zcP, zfA, zfP]; done) | (simp [zcA, zcP] <;> rfl) | (simp [*, zsS, zsO, zsA]; done) | ((first | refine (hc _ _ ?_).trans ?_ | refine (hf _ _ ?_).trans ?_) <;> first | assumption | (simp; done) | (simp; omega) | omega | (go_keep; done) | (simp [*, zcA, zcP, zfA, zfP]; done) | (simp [zcA, zcP]; rfl)) | (repeat' first | exact zbR _ _ | assumption | refine zbD ?_ | refine zbA ?_ ?_ _ | refine zbS ?_ ?_ _ | refine zbT ?_ (by assumption) ?_ | (simp; done) | (simp; omega) | omega)))
    clear hK K hD0; try simp only [Act.put, zl, z0, z1]
    refine wpAnyH_ready (rs := [4]) (by kernel_rfl) (by simp) ?_; refine consL 4 rfl (fun K hK => ?_) AllReadyH.nil
    first | (refine step_row_bounds rfl 36 (.tmp 11) (.tmp 98) rfl _ _ rfl rfl 36 _ HG.out scoreRow rfl (by simp [Value.oneCell']) ?_; have hr := setRow_heap _ _ _ (#[.slice A8 k8 c8, .int .i64 g1, .int .i64 g2, .int .i64 g3, .int .i64 g4, .int .i64 g5, .int .i64 g6, .int .i64 g7, .int .i64 0]) _ _ HG.out; have hSn := hSof _ (below_row (show Below w5.heap.size w5 _ from (by first | exact hD3.1 | exact hD4.1 | exact hD2.1)) (show w5.heap.size ≤ _ by first | exact HGL.out | omega) (#[.slice A8 k8 c8, .int .i64 g1, .int .i64 g2, .int .i64 g3, .int .i64 g4, .int .i64 g5, .int .i64 g6, .int .i64 g7, .int .i64 0])); refine cap_gen (K := K) (fun W9 hW9 => ?_); rw [← hW9] at hr hSn; have HR9 := hide hr; clear hr hW9; (try dsimp only at hSn)) | (go_simp; (first | refine cap_alloc (K := K) (O := (.cells #[.slice none 0 0, .int .i64 0, .int .i64 0, .int .i64 0, .int .i64 0, .int .i64 0, .int .i64 0, .int .i64 0, .int .i64 0] 36 (0, 0))) (fun hG hle => ?_) | refine cap_allocD (K := K) (O := (.cells #[.slice none 0 0, .int .i64 0, .int .i64 0, .int .i64 0, .int .i64 0, .int .i64 0, .int .i64 0, .int .i64 0, .int .i64 0] 36 (0, 0))) (fun hG hle => ?_)); replace hle := Nat.le_trans (show w5.heap.size ≤ _ from (by first | exact hD0.1.size | exact hD1.1.size | exact hD2.1.size)) hle; (try simp only [World.size_alloc, drew_size] at hG); (try simp only [World.size_alloc, drew_size] at hle); have HG := hide hG; have HGL := hide hle; clear hG hle) | (go_simp; (first | refine cap_old (K := K) HG.out (fun hG => ?_) | refine cap_oldD (K := K) HG.out (fun hG => ?_)); replace HG := hide hG; clear hG) | go_simp
    refine hK.out _ _ ?_ (fun hD2 => ?_)
    · (try dsimp only); first | first | assumption | (first | (go_keep; done) | (go_split_ands; (repeat' apply And.intro) <;> first | (go_keep; done) | (simp [*, zcA, zcP, zfA, zfP]; done) | (simp [zcA, zcP] <;> rfl) | (simp [*, zsS, zsO, zsA]; done) | ((first | refine (hc _ _ ?_).trans ?_ | refine (hf _ _ ?_).trans ?_) <;> first | assumption | (simp; done) | (simp; omega) | omega | (go_keep; done) | (simp [*, zcA, zcP, zfA, zfP]; done) | (simp [zcA, zcP]; rfl)) | (repeat' first | exact zbR _ _ | assumption | refine zbD ?_ | refine zbA ?_ ?_ _ | refine zbS ?_ ?_ _ | refine zbT ?_ (by assumption) ?_ | (simp; done) | (simp; omega) | omega))) | (first | (go_keep; done) | (go_split_ands; (repeat' apply And.intro) <;> first | (go_keep; done) | (simp [*, zcA, zcP, zfA, zfP]; done) | (simp [zcA, zcP] <;> rfl) | (simp [*, zsS, zsO, zsA]; done) | ((first | refine (hc _ _ ?_).trans ?_ | refine (hf _ _ ?_).trans ?_) <;> first | assumption | (simp; done) | (simp; omega) | omega | (go_keep; done) | (simp [*, zcA, zcP, zfA, zfP]; done) | (simp [zcA, zcP]; rfl)) | (repeat' first | exact zbR _ _ | assumption | refine zbD ?_ | refine zbA ?_ ?_ _ | refine zbS ?_ ?_ _ | refine zbT ?_ (by assumption) ?_ | (simp; done) | (simp; omega) | omega)))
    clear hK K hD1; try simp only [Act.put, zl, z0, z1]
    refine wpAnyH_ready (rs := [5]) (by kernel_rfl) (by simp) ?_; refine consL 5 rfl (fun K hK => ?_) AllReadyH.nil; go_simp
    ((go_at_call 13; refine (Play_zeros f first pn _ _ HZ.out (by omega) (by first | exact rdI_cells (by first | exact heap_alloc_new _ _ | exact heap_alloc2_new _ _ _ | exact (heap_alloc_old _ _ (by simp)).trans (heap_alloc_new _ _)))).mono ?_; rintro e w8 ⟨A8, k8, c8, g1, g2, g3, g4, g5, g6, g7, rfl, hb⟩; (try replace HG := hide ((hb.block _ (blk_lt HG.out)).trans HG.out)); have hSn := hSof _ ((show Below w5.heap.size w5 _ by (repeat' first | exact zbR _ _ | assumption | refine zbD ?_ | refine zbA ?_ ?_ _ | refine zbS ?_ ?_ _ | refine zbT ?_ (by assumption) ?_ | (simp; done) | (simp; omega) | omega)).trans (hb.mono (by first | (simp; done) | (simp; omega) | omega))); (try dsimp only at hSn)))
    refine hK.out _ _ ?_ (fun hD3 => ?_)
    · (try dsimp only); first | first | assumption | (first | (go_keep; done) | (go_split_ands; (repeat' apply And.intro) <;> first | (go_keep; done) | (simp [*, zcA, zcP, zfA, zfP]; done) | (simp [zcA, zcP] <;> rfl) | (simp [*, zsS, zsO, zsA]; done) | ((first | refine (hc _ _ ?_).trans ?_ | refine (hf _ _ ?_).trans ?_) <;> first | assumption | (simp; done) | (simp; omega) | omega | (go_keep; done) | (simp [*, zcA, zcP, zfA, zfP]; done) | (simp [zcA, zcP]; rfl)) | (repeat' first | exact zbR _ _ | assumption | refine zbD ?_ | refine zbA ?_ ?_ _ | refine zbS ?_ ?_ _ | refine zbT ?_ (by assumption) ?_ | (simp; done) | (simp; omega) | omega))) | (first | (go_keep; done) | (go_split_ands; (repeat' apply And.intro) <;> first | (go_keep; done) | (simp [*, zcA, zcP, zfA, zfP]; done) | (simp [zcA, zcP] <;> rfl) | (simp [*, zsS, zsO, zsA]; done) | ((first | refine (hc _ _ ?_).trans ?_ | refine (hf _ _ ?_).trans ?_) <;> first | assumption | (simp; done) | (simp; omega) | omega | (go_keep; done) | (simp [*, zcA, zcP, zfA, zfP]; done) | (simp [zcA, zcP]; rfl)) | (repeat' first | exact zbR _ _ | assumption | refine zbD ?_ | refine zbA ?_ ?_ _ | refine zbS ?_ ?_ _ | refine zbT ?_ (by assumption) ?_ | (simp; done) | (simp; omega) | omega)))
    clear hK K hD2; try simp only [Act.put, zl, z0, z1]
    refine tW ?_ 6 rfl (by kernel_rfl) (fun _ _ _ h => h) (by rfl) (by assumption) ?_ ?_; rotate_left; (focus (intro w hSw; (try dsimp only at hSw); go_simp; try with_reducible rfl)); try simp only [Act.put, zl, z0, z1]
    refine tW ?_ 7 rfl (by kernel_rfl) (fun _ _ _ h => h) (by rfl) (by assumption) ?_ ?_; rotate_left; (focus (intro w hSw; (try dsimp only at hSw); go_simp; try with_reducible rfl)); try simp only [Act.put, zl, z0, z1]
    refine tW ?_ 8 rfl (by kernel_rfl) (fun _ _ _ h => h) (by rfl) (by assumption) ?_ ?_; rotate_left; (focus (intro w hSw; (try dsimp only at hSw); go_simp; try with_reducible rfl)); try simp only [Act.put, zl, z0, z1]
    refine wpAnyH_ready (rs := [10]) (by kernel_rfl) (by simp) ?_; refine consL 10 rfl (fun K hK => ?_) AllReadyH.nil
    first | (refine step_row_bounds rfl 36 (.tmp 11) (.tmp 98) rfl _ _ rfl rfl 36 _ HG.out scoreRow rfl (by simp [Value.oneCell']) ?_; have hr := setRow_heap _ _ _ (#[.slice A8 k8 c8, .int .i64 g1, .int .i64 g2, .int .i64 g3, .int .i64 g4, .int .i64 g5, .int .i64 g6, .int .i64 g7, .int .i64 0]) _ _ HG.out; have hSn := hSof _ (below_row (show Below w5.heap.size w5 _ from (by first | exact hD3.1 | exact hD4.1 | exact hD2.1)) (show w5.heap.size ≤ _ by first | exact HGL.out | omega) (#[.slice A8 k8 c8, .int .i64 g1, .int .i64 g2, .int .i64 g3, .int .i64 g4, .int .i64 g5, .int .i64 g6, .int .i64 g7, .int .i64 0])); refine cap_gen (K := K) (fun W9 hW9 => ?_); rw [← hW9] at hr hSn; have HR9 := hide hr; clear hr hW9; (try dsimp only at hSn)) | (go_simp; (first | refine cap_alloc (K := K) (O := (.cells #[.slice none 0 0, .int .i64 0, .int .i64 0, .int .i64 0, .int .i64 0, .int .i64 0, .int .i64 0, .int .i64 0, .int .i64 0] 36 (0, 0))) (fun hG hle => ?_) | refine cap_allocD (K := K) (O := (.cells #[.slice none 0 0, .int .i64 0, .int .i64 0, .int .i64 0, .int .i64 0, .int .i64 0, .int .i64 0, .int .i64 0, .int .i64 0] 36 (0, 0))) (fun hG hle => ?_)); replace hle := Nat.le_trans (show w5.heap.size ≤ _ from (by first | exact hD0.1.size | exact hD1.1.size | exact hD2.1.size)) hle; (try simp only [World.size_alloc, drew_size] at hG); (try simp only [World.size_alloc, drew_size] at hle); have HG := hide hG; have HGL := hide hle; clear hG hle) | (go_simp; (first | refine cap_old (K := K) HG.out (fun hG => ?_) | refine cap_oldD (K := K) HG.out (fun hG => ?_)); replace HG := hide hG; clear hG) | go_simp
    refine hK.out _ _ ?_ (fun hD4 => ?_)
    · (try dsimp only); first | first | assumption | (first | (go_keep; done) | (go_split_ands; (repeat' apply And.intro) <;> first | (go_keep; done) | (simp [*, zcA, zcP, zfA, zfP]; done) | (simp [zcA, zcP] <;> rfl) | (simp [*, zsS, zsO, zsA]; done) | ((first | refine (hc _ _ ?_).trans ?_ | refine (hf _ _ ?_).trans ?_) <;> first | assumption | (simp; done) | (simp; omega) | omega | (go_keep; done) | (simp [*, zcA, zcP, zfA, zfP]; done) | (simp [zcA, zcP]; rfl)) | (repeat' first | exact zbR _ _ | assumption | refine zbD ?_ | refine zbA ?_ ?_ _ | refine zbS ?_ ?_ _ | refine zbT ?_ (by assumption) ?_ | (simp; done) | (simp; omega) | omega))) | (first | (go_keep; done) | (go_split_ands; (repeat' apply And.intro) <;> first | (go_keep; done) | (simp [*, zcA, zcP, zfA, zfP]; done) | (simp [zcA, zcP] <;> rfl) | (simp [*, zsS, zsO, zsA]; done) | ((first | refine (hc _ _ ?_).trans ?_ | refine (hf _ _ ?_).trans ?_) <;> first | assumption | (simp; done) | (simp; omega) | omega | (go_keep; done) | (simp [*, zcA, zcP, zfA, zfP]; done) | (simp [zcA, zcP]; rfl)) | (repeat' first | exact zbR _ _ | assumption | refine zbD ?_ | refine zbA ?_ ?_ _ | refine zbS ?_ ?_ _ | refine zbT ?_ (by assumption) ?_ | (simp; done) | (simp; omega) | omega)))
    clear hK K hD3; try simp only [Act.put, zl, z0, z1]
    refine tW ?_ 11 rfl (by kernel_rfl) (fun _ _ _ h => h) (by rfl) (by assumption) ?_ ?_; rotate_left; (focus (intro w hSw; (try dsimp only at hSw); go_simp; try with_reducible rfl)); try simp only [Act.put, zl, z0, z1]
    refine wpAnyH_done (by kernel_rfl) ?_ _
    all_goals
      have rc := (cell_of_row _ _ 8 _ _ _ HR9.out).trans rfl
      have hB9 := hSn.1
      have q9 := hB9.size
      clear hSn hmk2
      go_wp2_with (first | (go_at_call 10; refine (works_any _).mono ?_; rintro e w10 ⟨rfl, hb10⟩))
      go_ret
      exact ⟨rfl, HBB.out.trans ((show Below w5.heap.size w5 _ by (repeat' first | exact zbR _ _ | assumption | refine zbD ?_ | refine zbA ?_ ?_ _ | refine zbS ?_ ?_ _ | refine zbT ?_ (by assumption) ?_ | (simp; done) | (simp; omega) | omega)).mono HBB.out.size)⟩


theorem boundsLaw_any (f : M.Fm) (first : Int) (A : Option Addr) (n c : Nat) (xs : List Int) (w : World) (hn : xs.length = n) (hr : RdI w w.heap.size A xs) (hcm : c ≤ maxLen) (hnc : n ≤ c) :
    Calls Try.prog 9 #[.agg #[.int .i64 f.sets, .int .i64 f.games, .bool f.noAd, .int .i64 f.tie, .int .i64 f.to, .int .i64 f.lastTie, .int .i64 f.lastTo, .int .i64 f.first, .int .i64 f.next, .bool f.doubles], .agg #[.int .i64 first, .slice A n c]] w fun e w' => e = .returned (.bool true) ∧ Below w.heap.size w w' := by
  cases h : (M.playE f first xs == 0)
  · exact boundsLaw_not f first A n c xs w hn hr (by omega) h
  · exact boundsLaw_ok f first A n c xs w hn hr (by simpa using h)

end Go.Proofs.Ytoaogpipogeamaa
