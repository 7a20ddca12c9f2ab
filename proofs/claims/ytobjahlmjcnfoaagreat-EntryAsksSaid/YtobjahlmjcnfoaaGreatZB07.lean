/-
  Part of a claim's texts: contracts of the program's functions and the plain functions that they compute, in build order.
-/
import Derived.Test.YtobjahlmjcnfoaaGreatZB02
import Derived.Test.YtobjahlmjcnfoaaGreatZB05
import Derived.Test.YtobjahlmjcnfoaaGreatZB06
namespace Go.Proofs.YtobjahlmjcnfoaaGreat
open Go.RowKit Go.Sort
attribute [local go_sem ↓] Go.wp_at_zero Go.wp_at_succ

def StW (w : World) (ok : Nat → Prop) (v : Value) (s : E.Rs) : Prop := ∃ (An : Option Addr) (nn cn : Nat) (A2 : Option Addr) (n2 c2 : Nat) (A3 : Option Addr) (n3 c3 : Nat), v = .agg #[.slice An nn cn, .slice A2 n2 c2, .int .i64 s.back, .slice A3 n3 c3] ∧ s.people.length = nn ∧ (An = none → cn = 0) ∧ s.wilds.length = n2 ∧ (A2 = none → c2 = 0) ∧ s.ins.length = n3 ∧
  (∀ W : World, w.heap.size ≤ W.heap.size → (∀ b, b < w.heap.size → ok b → W.heap[b]? = w.heap[b]?) → RdP W W.heap.size An s.people ∧ RdI W W.heap.size A2 s.wilds ∧ RdI W W.heap.size A3 s.ins)
theorem StW.to {w w' : World} {ok ok' : Nat → Prop} {v : Value} {s : E.Rs} (h : StW w ok v s) (hb : w.heap.size ≤ w'.heap.size) (hk : ∀ b, b < w.heap.size → ok b → w'.heap[b]? = w.heap[b]?) (ho : ∀ b, b < w.heap.size → ok b → ok' b) : StW w' ok' v s := by
  obtain ⟨An, nn, cn, A2, n2, c2, A3, n3, c3, e, h1, h3, h4, h6, h7, h8⟩ := h
  exact ⟨An, nn, cn, A2, n2, c2, A3, n3, c3, e, h1, h3, h4, h6, h7, fun W hW hWb => h8 W (Nat.le_trans hb hW) (fun b hb2 hok => (hWb b (Nat.lt_of_lt_of_le hb2 hb) (ho b hb2 hok)).trans (hk b hb2 hok))⟩
theorem owns_agree {w W : World} {base : Nat} {e : TypeId} {n size : Nat} {xs : List Value} {v : Value} (h : w.ownsRow base e size v n xs) (hk : ∀ b, b < w.heap.size → base ≤ b → W.heap[b]? = w.heap[b]?) : W.ownsRow base e size v n xs := by
  refine ⟨h.1, h.2.imp id ?_⟩
  rintro ⟨g, cap, cur, e1, hg, hh, r⟩
  exact ⟨g, cap, cur, e1, hg, (hk g (blk_lt hh) hg).trans hh, r⟩
theorem ordF_perm (ps : List E.Rp) : (ordF ps).Perm (ps.filter E.Rp.counts) := by
  have key : ∀ (l out : List E.Rp), (l.foldl (fun out p => E.rins p out) out).Perm (out ++ l) := by
    intro l
    induction l with
    | nil => intro out; rw [List.append_nil]; exact List.Perm.refl _
    | cons a r ih =>
      intro out
      rw [List.foldl_cons]
      refine (ih _).trans ?_
      refine ((E.rins_perm a out).append_right r).trans ?_
      rw [List.append_assoc]
      exact List.Perm.refl _
  have := key (ps.filter E.Rp.counts) []
  rw [List.nil_append] at this
  exact this
theorem ordF_nd {ps : List E.Rp} (h : (ps.map E.Rp.player).Nodup) : ((ordF ps).map E.Rp.player).Nodup :=
  ((ordF_perm ps).map _).nodup_iff.2 (List.Nodup.sublist (List.Sublist.map _ List.filter_sublist) h)
theorem ordF_mem {ps : List E.Rp} {p : E.Rp} (h : p ∈ ordF ps) : p ∈ ps := (List.mem_filter.1 ((ordF_perm ps).mem_iff.1 h)).1
def TakeP : Prop := ∀ (f : E.Fd) (v : Value) (s : E.Rs) (x : E.Nt) (ok : Nat → Prop) (w : World), StW w ok v s → s.people.length ≤ 199 → s.wilds.length ≤ 199 → 0 ≤ s.back → s.back ≤ 200 →
    Calls Tryz.prog 62 #[.agg #[.int .i64 f.places, .int .i64 f.wilds, .int .i64 f.guards, .int .i64 f.close, .int .i64 f.freeze], v, .agg #[.int .i64 x.id, .int .i64 x.hour, .int .i64 x.kind, .int .i64 x.player, .int .i64 x.rank]] w fun e w' => ∃ v', e = .returned v' ∧ StW w' (fun b => ok b ∨ w.heap.size ≤ b) v' (E.rtake f s x) ∧ Below w.heap.size w w'
set_option maxHeartbeats 6400000 in
set_option maxRecDepth 100000 in
theorem one_ref (hT : TakeP) (f : E.Fd) (v : Value) (s : E.Rs) (x : E.Nt) (ok : Nat → Prop) (w : World) (hs : StW w ok v s) (h1 : s.people.length ≤ 199) (h2 : s.wilds.length ≤ 199) (h3 : 0 ≤ s.back) (h4 : s.back ≤ 200)
    (hnd : ((E.rtake f s x).people.map E.Rp.player).Nodup) (hpos : ∀ p ∈ (E.rtake f s x).people, 0 ≤ p.player) (hlen : (E.rtake f s x).people.length ≤ 200) (hins : (E.rtake f s x).ins.length ≤ 400) (hbk : 0 ≤ (E.rtake f s x).back ∧ (E.rtake f s x).back ≤ 1000) (hp : 0 ≤ f.places ∧ f.places ≤ 1000) :
    Calls Tryz.prog 40 #[.agg #[.int .i64 f.places, .int .i64 f.wilds, .int .i64 f.guards, .int .i64 f.close, .int .i64 f.freeze], v, .agg #[.int .i64 x.id, .int .i64 x.hour, .int .i64 x.kind, .int .i64 x.player, .int .i64 x.rank]] w fun e w' => ∃ v', e = .returned v' ∧ StW w' (fun b => ok b ∨ w.heap.size ≤ b) v' (E.rone f s x) ∧ Below w.heap.size w w' := by
  have HS00 := hide hs
  obtain ⟨An, nn, cn, A2, n2, c2, A3, n3, c3, rfl, s1⟩ := hs
  have HS0 := hide (show StW w (fun b => ok b ∧ b < w.heap.size) (.agg #[.slice An nn cn, .slice A2 n2 c2, .int .i64 s.back, .slice A3 n3 c3]) s from HS00.out.to (Nat.le_refl _) (fun _ _ _ => rfl) (fun b hb hk => ⟨hk, hb⟩))
  clear s1 HS00
  obtain ⟨u, hu⟩ : ∃ u, E.rtake f s x = u := ⟨_, rfl⟩
  obtain ⟨r, hr⟩ : ∃ r, E.rone f s x = r := ⟨_, rfl⟩
  have HRU := hide (show r = if f.freeze < x.hour then { u with ins := E.rlater f u.back (ordF u.people) 200 (insF (ordF u.people) u.ins) } else { u with ins := E.rfill f (ordF u.people) [] 0 } by rw [← hr, ← hu]; rfl)
  rw [hu] at hnd hpos hlen hins hbk
  rw [hr]
  have HTK := hide (show ∀ (ok : Nat → Prop) (w : World), StW w ok (.agg #[.slice An nn cn, .slice A2 n2 c2, .int .i64 s.back, .slice A3 n3 c3]) s → Calls Tryz.prog 62 #[.agg #[.int .i64 f.places, .int .i64 f.wilds, .int .i64 f.guards, .int .i64 f.close, .int .i64 f.freeze], .agg #[.slice An nn cn, .slice A2 n2 c2, .int .i64 s.back, .slice A3 n3 c3], .agg #[.int .i64 x.id, .int .i64 x.hour, .int .i64 x.kind, .int .i64 x.player, .int .i64 x.rank]] w fun e w' => ∃ v', e = .returned v' ∧ StW w' (fun b => ok b ∨ w.heap.size ≤ b) v' u ∧ Below w.heap.size w w' from fun ok w h => by rw [← hu]; exact hT f _ s x ok w h h1 h2 h3 h4)
  have HND := hide (ordF_nd hnd)
  have HPOS := hide (show ∀ p ∈ ordF u.people, 0 ≤ p.player from fun p hp => hpos p (ordF_mem hp))
  have HLEN := hide hlen
  have HINS := hide hins
  have HBK := hide hbk
  have HPL := hide hp
  clear hu hr hnd hpos hlen hins hbk hp h1 h2 h3 h4 hT
  go_enter Tryz.func40, Tryz.ntmps40
  go_upto_region 1 with fail
  obtain ⟨w0, hw0⟩ : ∃ q, (((w.alloc (.cells #[.int .i64 f.places, .int .i64 f.wilds, .int .i64 f.guards, .int .i64 f.close, .int .i64 f.freeze] 23)).alloc (.cells #[.slice An nn cn, .slice A2 n2 c2, .int .i64 s.back, .slice A3 n3 c3] 53)).alloc (.cells #[.int .i64 x.id, .int .i64 x.hour, .int .i64 x.kind, .int .i64 x.player, .int .i64 x.rank] 70)).alloc (.cells #[.slice none 0 0, .slice none 0 0, .int .i64 0, .slice none 0 0] 53) = q := ⟨_, rfl⟩
  have HB0 := hide (show Below w.heap.size w w0 by rw [← hw0]; (repeat' first | exact zbR _ _ | assumption | refine zbD ?_ | refine zbA ?_ ?_ _ | refine zbS ?_ ?_ _ | refine zbT ?_ (by assumption) ?_ | (simp; done) | (simp; omega) | omega))
  have HF0 := hide (show w0.heap[w.heap.size]? = some (.cells #[.int .i64 f.places, .int .i64 f.wilds, .int .i64 f.guards, .int .i64 f.close, .int .i64 f.freeze] 23 (0, 0)) by rw [← hw0]; exact (Below.heap_alloc _ _ _ (by first | (simp; done) | (simp; omega) | omega)).trans ((Below.heap_alloc _ _ _ (by first | (simp; done) | (simp; omega) | omega)).trans ((Below.heap_alloc _ _ _ (by first | (simp; done) | (simp; omega) | omega)).trans (World.alloc_heap_new _ _))))
  have HA0 := hide (show w0.heap[w.heap.size + 1]? = some (.cells #[.slice An nn cn, .slice A2 n2 c2, .int .i64 s.back, .slice A3 n3 c3] 53 (0, 0)) by rw [← hw0]; exact (Below.heap_alloc _ _ _ (by first | (simp; done) | (simp; omega) | omega)).trans ((Below.heap_alloc _ _ _ (by first | (simp; done) | (simp; omega) | omega)).trans ((congrArg _ (by simp)).trans (World.alloc_heap_new _ _))))
  have HN0 := hide (show w0.heap[w.heap.size + 1 + 1]? = some (.cells #[.int .i64 x.id, .int .i64 x.hour, .int .i64 x.kind, .int .i64 x.player, .int .i64 x.rank] 70 (0, 0)) by rw [← hw0]; exact (Below.heap_alloc _ _ _ (by first | (simp; done) | (simp; omega) | omega)).trans ((congrArg _ (by simp)).trans (World.alloc_heap_new _ _)))
  have HT0 := hide (show w0.heap[w.heap.size + 1 + 1 + 1]? = some (.cells #[.slice none 0 0, .slice none 0 0, .int .i64 0, .slice none 0 0] 53 (0, 0)) by rw [← hw0]; exact (congrArg _ (by simp)).trans (World.alloc_heap_new _ _))
  rw [hw0]
  clear hw0
  have HS1 := hide (show StW w0 (fun b => ok b ∧ b < w.heap.size) (.agg #[.slice An nn cn, .slice A2 n2 c2, .int .i64 s.back, .slice A3 n3 c3]) s from HS0.out.to HB0.out.size (fun b hb _ => HB0.out.block b hb) (fun b hb hk => hk))
  have HZ0 := hide (show w.heap.size + 1 + 1 + 1 < w0.heap.size from blk_lt HT0.out)
  have yf0 : w0.cell? ⟨w.heap.size, 0, none⟩ = some (.int .i64 f.places) := (blk_cell HF0.out 0).trans rfl
  have yf1 : w0.cell? ⟨w.heap.size, 1, none⟩ = some (.int .i64 f.wilds) := (blk_cell HF0.out 1).trans rfl
  have yf2 : w0.cell? ⟨w.heap.size, 2, none⟩ = some (.int .i64 f.guards) := (blk_cell HF0.out 2).trans rfl
  have yf3 : w0.cell? ⟨w.heap.size, 3, none⟩ = some (.int .i64 f.close) := (blk_cell HF0.out 3).trans rfl
  have yf4 : w0.cell? ⟨w.heap.size, 4, none⟩ = some (.int .i64 f.freeze) := (blk_cell HF0.out 4).trans rfl
  have lyf := blk_lt HF0.out
  have yn0 : w0.cell? ⟨w.heap.size + 1 + 1, 0, none⟩ = some (.int .i64 x.id) := (blk_cell HN0.out 0).trans rfl
  have yn1 : w0.cell? ⟨w.heap.size + 1 + 1, 1, none⟩ = some (.int .i64 x.hour) := (blk_cell HN0.out 1).trans rfl
  have yn2 : w0.cell? ⟨w.heap.size + 1 + 1, 2, none⟩ = some (.int .i64 x.kind) := (blk_cell HN0.out 2).trans rfl
  have yn3 : w0.cell? ⟨w.heap.size + 1 + 1, 3, none⟩ = some (.int .i64 x.player) := (blk_cell HN0.out 3).trans rfl
  have yn4 : w0.cell? ⟨w.heap.size + 1 + 1, 4, none⟩ = some (.int .i64 x.rank) := (blk_cell HN0.out 4).trans rfl
  have lyn := blk_lt HN0.out
  have ya0 : w0.cell? ⟨w.heap.size + 1, 0, none⟩ = some (.slice An nn cn) := (blk_cell HA0.out 0).trans rfl
  have ya1 : w0.cell? ⟨w.heap.size + 1, 1, none⟩ = some (.slice A2 n2 c2) := (blk_cell HA0.out 1).trans rfl
  have ya2 : w0.cell? ⟨w.heap.size + 1, 2, none⟩ = some (.int .i64 s.back) := (blk_cell HA0.out 2).trans rfl
  have ya3 : w0.cell? ⟨w.heap.size + 1, 3, none⟩ = some (.slice A3 n3 c3) := (blk_cell HA0.out 3).trans rfl
  have lya := blk_lt HA0.out
  have fa0 := blk_frozen HA0.out 0
  have fa1 := blk_frozen HA0.out 1
  have fa2 := blk_frozen HA0.out 2
  have fa3 := blk_frozen HA0.out 3
  go_upto_region 2 with (go_at_call 62; refine (HTK.out _ w0 HS1.out).mono ?_; rintro e w1 ⟨v1, rfl, hst, hb1⟩; obtain ⟨Anu, nnu, cnu, A2u, n2u, c2u, A3u, n3u, c3u, rfl, u1, u3, u4, u6, u7, u8⟩ := hst; have HU := hide u8; have HUL := hide (And.intro u1 (And.intro u3 (And.intro u4 (And.intro u6 u7)))); have HB1 := hide hb1; have HF1 := hide ((HB1.out.block _ (blk_lt HF0.out)).trans HF0.out); have HA1 := hide ((HB1.out.block _ (blk_lt HA0.out)).trans HA0.out); have HN1 := hide ((HB1.out.block _ (blk_lt HN0.out)).trans HN0.out); have HT1 := hide ((HB1.out.block _ (blk_lt HT0.out)).trans HT0.out); clear hb1 u1 u3 u4 u6 u7 u8; have yb0 : w1.cell? ⟨w.heap.size + 1, 0, none⟩ = some (.slice An nn cn) := (blk_cell HA1.out 0).trans rfl; have yb1 : w1.cell? ⟨w.heap.size + 1, 1, none⟩ = some (.slice A2 n2 c2) := (blk_cell HA1.out 1).trans rfl; have yb2 : w1.cell? ⟨w.heap.size + 1, 2, none⟩ = some (.int .i64 s.back) := (blk_cell HA1.out 2).trans rfl; have yb3 : w1.cell? ⟨w.heap.size + 1, 3, none⟩ = some (.slice A3 n3 c3) := (blk_cell HA1.out 3).trans rfl; have lyb := blk_lt HA1.out; have fb0 := blk_frozen HA1.out 0; have fb1 := blk_frozen HA1.out 1; have fb2 := blk_frozen HA1.out 2; have fb3 := blk_frozen HA1.out 3)
  obtain ⟨w2, hw2⟩ : ∃ q, (((w1.setCell ⟨w.heap.size + 1, 0, none⟩ (.slice Anu nnu cnu)).setCell ⟨w.heap.size + 1, 1, none⟩ (.slice A2u n2u c2u)).setCell ⟨w.heap.size + 1, 2, none⟩ (.int .i64 u.back)).setCell ⟨w.heap.size + 1, 3, none⟩ (.slice A3u n3u c3u) = q := ⟨_, rfl⟩
  have HA2 := hide (show w2.heap[w.heap.size + 1]? = some (.cells #[.slice Anu nnu cnu, .slice A2u n2u c2u, .int .i64 u.back, .slice A3u n3u c3u] 53 (0, 0)) by rw [← hw2]; exact blk_set (blk_set (blk_set (blk_set HA1.out 0 _) 1 _) 2 _) 3 _)
  have HG2 := hide (show w1.grownBy w2 (some (w.heap.size + 1)) by rw [← hw2]; exact gr_trans (gr_trans (gr_trans (gr_set _ _ _ _) (gr_set _ _ _ _)) (gr_set _ _ _ _)) (gr_set _ _ _ _))
  rw [hw2]
  clear hw2
  clear ya0 ya1 ya2 ya3 lya yf0 yf1 yf2 yf3 yf4 lyf yn0 yn1 yn2 yn3 yn4 lyn fa0 fa1 fa2 fa3 yb0 yb1 yb2 yb3 lyb fb0 fb1 fb2 fb3
  have HF2 := hide ((HG2.out.block _ (blk_lt HF1.out) (fun e => by have := Option.some.inj e; omega)).trans HF1.out)
  have HN2 := hide ((HG2.out.block _ (blk_lt HN1.out) (fun e => by have := Option.some.inj e; omega)).trans HN1.out)
  have HT2 := hide ((HG2.out.block _ (blk_lt HT1.out) (fun e => by have := Option.some.inj e; omega)).trans HT1.out)
  have HBW1 := hide (zbT HB0.out HB1.out HB0.out.size)
  have HBW2 := hide (HBW1.out.trans (grown_below HG2.out HBW1.out.size (fun g hg => by cases hg; omega)))
  have HK12 := hide (show ∀ b, b < w1.heap.size → ((ok b ∧ b < w.heap.size) ∨ w0.heap.size ≤ b) → w2.heap[b]? = w1.heap[b]? from fun b hb hk => HG2.out.block b hb (fun e => by have := Option.some.inj e; have := HZ0.out; omega))
  have HU2 := hide (HU.out w2 HG2.out.size HK12.out)
  have HU3 := hide (And.intro HUL.out.1 (And.intro HUL.out.2.2.1 HUL.out.2.2.2.2))
  clear HF1 HA1 HN1 HT1 HF0 HA0 HN0 HT0 HS1 HTK
  have yn0 : w2.cell? ⟨w.heap.size + 1 + 1, 0, none⟩ = some (.int .i64 x.id) := (blk_cell HN2.out 0).trans rfl
  have yn1 : w2.cell? ⟨w.heap.size + 1 + 1, 1, none⟩ = some (.int .i64 x.hour) := (blk_cell HN2.out 1).trans rfl
  have yn2 : w2.cell? ⟨w.heap.size + 1 + 1, 2, none⟩ = some (.int .i64 x.kind) := (blk_cell HN2.out 2).trans rfl
  have yn3 : w2.cell? ⟨w.heap.size + 1 + 1, 3, none⟩ = some (.int .i64 x.player) := (blk_cell HN2.out 3).trans rfl
  have yn4 : w2.cell? ⟨w.heap.size + 1 + 1, 4, none⟩ = some (.int .i64 x.rank) := (blk_cell HN2.out 4).trans rfl
  have lyn := blk_lt HN2.out
  have yf0 : w2.cell? ⟨w.heap.size, 0, none⟩ = some (.int .i64 f.places) := (blk_cell HF2.out 0).trans rfl
  have yf1 : w2.cell? ⟨w.heap.size, 1, none⟩ = some (.int .i64 f.wilds) := (blk_cell HF2.out 1).trans rfl
  have yf2 : w2.cell? ⟨w.heap.size, 2, none⟩ = some (.int .i64 f.guards) := (blk_cell HF2.out 2).trans rfl
  have yf3 : w2.cell? ⟨w.heap.size, 3, none⟩ = some (.int .i64 f.close) := (blk_cell HF2.out 3).trans rfl
  have yf4 : w2.cell? ⟨w.heap.size, 4, none⟩ = some (.int .i64 f.freeze) := (blk_cell HF2.out 4).trans rfl
  have lyf := blk_lt HF2.out
  by_cases c : f.freeze < x.hour
  · have HC := hide c
    have yc0 : w2.cell? ⟨w.heap.size + 1, 0, none⟩ = some (.slice Anu nnu cnu) := (blk_cell HA2.out 0).trans rfl
    have yc1 : w2.cell? ⟨w.heap.size + 1, 1, none⟩ = some (.slice A2u n2u c2u) := (blk_cell HA2.out 1).trans rfl
    have yc2 : w2.cell? ⟨w.heap.size + 1, 2, none⟩ = some (.int .i64 u.back) := (blk_cell HA2.out 2).trans rfl
    have yc3 : w2.cell? ⟨w.heap.size + 1, 3, none⟩ = some (.slice A3u n3u c3u) := (blk_cell HA2.out 3).trans rfl
    have lyc := blk_lt HA2.out
    go_wp2_with (go_at_call 63; refine (later_ref f Anu nnu cnu u.people A2u n2u c2u u.back A3u n3u c3u u.ins w2 HU3.out.1 HU2.out.1 (by have h1 := HU3.out.1; have h2 := HLEN.out; omega) HU3.out.2.2 HU2.out.2.2 (by have h1 := HU3.out.2.2; have h2 := HINS.out; omega) HND.out HPOS.out HPL.out HBK.out).mono ?_; rintro e w3 ⟨B, k, c4, rfl, hlen, hown, hb3⟩; have HL := hide hlen; have HO3 := hide hown; have HB3 := hide hb3; have HT3 := hide ((HB3.out.block _ (blk_lt HT2.out)).trans HT2.out); clear hlen hown hb3; have z0 : w3.cell? ⟨w.heap.size + 1 + 1 + 1, 0, none⟩ = some (.slice none 0 0) := (blk_cell HT3.out 0).trans rfl; have z1 : w3.cell? ⟨w.heap.size + 1 + 1 + 1, 1, none⟩ = some (.slice none 0 0) := (blk_cell HT3.out 1).trans rfl; have z2 : w3.cell? ⟨w.heap.size + 1 + 1 + 1, 2, none⟩ = some (.int .i64 0) := (blk_cell HT3.out 2).trans rfl; have z3 : w3.cell? ⟨w.heap.size + 1 + 1 + 1, 3, none⟩ = some (.slice none 0 0) := (blk_cell HT3.out 3).trans rfl; have lz := blk_lt HT3.out; have fc0 := blk_frozen HT3.out 0; have fc1 := blk_frozen HT3.out 1; have fc2 := blk_frozen HT3.out 2; have fc3 := blk_frozen HT3.out 3)
    obtain ⟨w4, hw4⟩ : ∃ q, (((w3.setCell ⟨w.heap.size + 1 + 1 + 1, 0, none⟩ (.slice Anu nnu cnu)).setCell ⟨w.heap.size + 1 + 1 + 1, 1, none⟩ (.slice A2u n2u c2u)).setCell ⟨w.heap.size + 1 + 1 + 1, 2, none⟩ (.int .i64 u.back)).setCell ⟨w.heap.size + 1 + 1 + 1, 3, none⟩ (.slice B k c4) = q := ⟨_, rfl⟩
    have HT4 := hide (show w4.heap[w.heap.size + 1 + 1 + 1]? = some (.cells #[.slice Anu nnu cnu, .slice A2u n2u c2u, .int .i64 u.back, .slice B k c4] 53 (0, 0)) by rw [← hw4]; exact blk_set (blk_set (blk_set (blk_set HT3.out 0 _) 1 _) 2 _) 3 _)
    have HG4 := hide (show w3.grownBy w4 (some (w.heap.size + 1 + 1 + 1)) by rw [← hw4]; exact gr_trans (gr_trans (gr_trans (gr_set _ _ _ _) (gr_set _ _ _ _)) (gr_set _ _ _ _)) (gr_set _ _ _ _))
    rw [hw4]
    clear hw4
    have HK14 := hide (show ∀ b, b < w1.heap.size → ((ok b ∧ b < w.heap.size) ∨ w0.heap.size ≤ b) → w4.heap[b]? = w1.heap[b]? from fun b hb hk => (HG4.out.block b (Nat.lt_of_lt_of_le hb (Nat.le_trans HG2.out.size HB3.out.size)) (fun e => by have := Option.some.inj e; have := HZ0.out; omega)).trans ((HB3.out.block b (Nat.lt_of_lt_of_le hb HG2.out.size)).trans (HK12.out b hb hk)))
    have HO4 := hide (HO3.out.kept HG4.out (.inr (row_ne HO3.out HT3.out (by decide))))
    have HSZ := hide (show w1.heap.size ≤ w4.heap.size from Nat.le_trans HG2.out.size (Nat.le_trans HB3.out.size HG4.out.size))
    have HBW3 := hide (zbT HBW2.out HB3.out HBW2.out.size)
    have HB4 := hide (HBW3.out.trans (grown_below HG4.out HBW3.out.size (fun g hg => by cases hg; omega)))
    have HSV := hide (show r = { u with ins := E.rlater f u.back (ordF u.people) 200 (insF (ordF u.people) u.ins) } by rw [HRU.out, if_pos HC.out])
    have HST := hide (show StW w4 (fun b => ok b ∨ w.heap.size ≤ b) (.agg #[.slice Anu nnu cnu, .slice A2u n2u c2u, .int .i64 u.back, .slice B k c4]) r by
      rw [HSV.out]
      refine ⟨Anu, nnu, cnu, A2u, n2u, c2u, B, k, c4, rfl, HUL.out.1, HUL.out.2.1, HUL.out.2.2.1, HUL.out.2.2.2.1, HL.out, fun W hW hk => ?_⟩
      have h := HU.out W (Nat.le_trans HSZ.out hW) (fun b hb ho => (hk b (Nat.lt_of_lt_of_le hb HSZ.out) (ho.elim (fun h => .inl h.1) (fun h => .inr (Nat.le_trans HB0.out.size h)))).trans (HK14.out b hb ho))
      exact ⟨h.1, h.2.1, owns_RdI (owns_agree HO4.out (fun b hb hbase => hk b hb (.inr (Nat.le_trans HBW2.out.size hbase)))) HL.out⟩)
    have r0 : w4.cell? ⟨w.heap.size + 1 + 1 + 1, 0, none⟩ = some (.slice Anu nnu cnu) := (blk_cell HT4.out 0).trans rfl
    have r1 : w4.cell? ⟨w.heap.size + 1 + 1 + 1, 1, none⟩ = some (.slice A2u n2u c2u) := (blk_cell HT4.out 1).trans rfl
    have r2 : w4.cell? ⟨w.heap.size + 1 + 1 + 1, 2, none⟩ = some (.int .i64 u.back) := (blk_cell HT4.out 2).trans rfl
    have r3 : w4.cell? ⟨w.heap.size + 1 + 1 + 1, 3, none⟩ = some (.slice B k c4) := (blk_cell HT4.out 3).trans rfl
    have lr := blk_lt HT4.out
    exact bodyPost_ret (v := .agg #[.slice Anu nnu cnu, .slice A2u n2u c2u, .int .i64 u.back, .slice B k c4]) (by simp [results, Tryz.results40, go_sem, r0, r1, r2, r3]) rfl ⟨_, rfl, HST.out, HB4.out⟩
  · have hc : x.hour ≤ f.freeze := by omega
    have HC := hide hc
    clear c
    have yc0 : w2.cell? ⟨w.heap.size + 1, 0, none⟩ = some (.slice Anu nnu cnu) := (blk_cell HA2.out 0).trans rfl
    have yc1 : w2.cell? ⟨w.heap.size + 1, 1, none⟩ = some (.slice A2u n2u c2u) := (blk_cell HA2.out 1).trans rfl
    have yc2 : w2.cell? ⟨w.heap.size + 1, 2, none⟩ = some (.int .i64 u.back) := (blk_cell HA2.out 2).trans rfl
    have yc3 : w2.cell? ⟨w.heap.size + 1, 3, none⟩ = some (.slice A3u n3u c3u) := (blk_cell HA2.out 3).trans rfl
    have lyc := blk_lt HA2.out
    go_upto_region 5 with (go_at_call 64; refine (filled_ref orderP_holds f Anu nnu cnu u.people A2u n2u c2u u.back A3u n3u c3u w2 HU3.out.1 HU2.out.1 (by have h1 := HU3.out.1; have h2 := HLEN.out; omega)).mono ?_; rintro e w3 ⟨B, k, c4, rfl, hlen, hown, hb3⟩; have HL := hide hlen; have HO3 := hide hown; have HB3 := hide hb3; have HT3 := hide ((HB3.out.block _ (blk_lt HT2.out)).trans HT2.out); have HA3 := hide ((HB3.out.block _ (blk_lt HA2.out)).trans HA2.out); clear hlen hown hb3; have yd0 : w3.cell? ⟨w.heap.size + 1, 0, none⟩ = some (.slice Anu nnu cnu) := (blk_cell HA3.out 0).trans rfl; have yd1 : w3.cell? ⟨w.heap.size + 1, 1, none⟩ = some (.slice A2u n2u c2u) := (blk_cell HA3.out 1).trans rfl; have yd2 : w3.cell? ⟨w.heap.size + 1, 2, none⟩ = some (.int .i64 u.back) := (blk_cell HA3.out 2).trans rfl; have yd3 : w3.cell? ⟨w.heap.size + 1, 3, none⟩ = some (.slice A3u n3u c3u) := (blk_cell HA3.out 3).trans rfl; have lyd := blk_lt HA3.out; have fd0 := blk_frozen HA3.out 0; have fd1 := blk_frozen HA3.out 1; have fd2 := blk_frozen HA3.out 2; have fd3 := blk_frozen HA3.out 3)
    obtain ⟨w5, hw5⟩ : ∃ q, w3.setCell ⟨w.heap.size + 1, 3, none⟩ (.slice B k c4) = q := ⟨_, rfl⟩
    have HA5 := hide (show w5.heap[w.heap.size + 1]? = some (.cells #[.slice Anu nnu cnu, .slice A2u n2u c2u, .int .i64 u.back, .slice B k c4] 53 (0, 0)) by rw [← hw5]; exact blk_set HA3.out 3 _)
    have HG5 := hide (show w3.grownBy w5 (some (w.heap.size + 1)) by rw [← hw5]; exact gr_set _ _ _ _)
    have HT5 := hide ((HG5.out.block _ (blk_lt HT3.out) (fun e => by have := Option.some.inj e; omega)).trans HT3.out)
    have HO5 := hide (HO3.out.kept HG5.out (.inr (row_ne HO3.out HA3.out (by decide))))
    rw [hw5]
    clear hw5
    have ye0 : w5.cell? ⟨w.heap.size + 1, 0, none⟩ = some (.slice Anu nnu cnu) := (blk_cell HA5.out 0).trans rfl
    have ye1 : w5.cell? ⟨w.heap.size + 1, 1, none⟩ = some (.slice A2u n2u c2u) := (blk_cell HA5.out 1).trans rfl
    have ye2 : w5.cell? ⟨w.heap.size + 1, 2, none⟩ = some (.int .i64 u.back) := (blk_cell HA5.out 2).trans rfl
    have ye3 : w5.cell? ⟨w.heap.size + 1, 3, none⟩ = some (.slice B k c4) := (blk_cell HA5.out 3).trans rfl
    have lye := blk_lt HA5.out
    have z0 : w5.cell? ⟨w.heap.size + 1 + 1 + 1, 0, none⟩ = some (.slice none 0 0) := (blk_cell HT5.out 0).trans rfl
    have z1 : w5.cell? ⟨w.heap.size + 1 + 1 + 1, 1, none⟩ = some (.slice none 0 0) := (blk_cell HT5.out 1).trans rfl
    have z2 : w5.cell? ⟨w.heap.size + 1 + 1 + 1, 2, none⟩ = some (.int .i64 0) := (blk_cell HT5.out 2).trans rfl
    have z3 : w5.cell? ⟨w.heap.size + 1 + 1 + 1, 3, none⟩ = some (.slice none 0 0) := (blk_cell HT5.out 3).trans rfl
    have lz := blk_lt HT5.out
    have fe0 := blk_frozen HT5.out 0
    have fe1 := blk_frozen HT5.out 1
    have fe2 := blk_frozen HT5.out 2
    have fe3 := blk_frozen HT5.out 3
    go_wp2_with fail
    obtain ⟨w4, hw4⟩ : ∃ q, (((w5.setCell ⟨w.heap.size + 1 + 1 + 1, 0, none⟩ (.slice Anu nnu cnu)).setCell ⟨w.heap.size + 1 + 1 + 1, 1, none⟩ (.slice A2u n2u c2u)).setCell ⟨w.heap.size + 1 + 1 + 1, 2, none⟩ (.int .i64 u.back)).setCell ⟨w.heap.size + 1 + 1 + 1, 3, none⟩ (.slice B k c4) = q := ⟨_, rfl⟩
    have HT4 := hide (show w4.heap[w.heap.size + 1 + 1 + 1]? = some (.cells #[.slice Anu nnu cnu, .slice A2u n2u c2u, .int .i64 u.back, .slice B k c4] 53 (0, 0)) by rw [← hw4]; exact blk_set (blk_set (blk_set (blk_set HT5.out 0 _) 1 _) 2 _) 3 _)
    have HG4 := hide (show w5.grownBy w4 (some (w.heap.size + 1 + 1 + 1)) by rw [← hw4]; exact gr_trans (gr_trans (gr_trans (gr_set _ _ _ _) (gr_set _ _ _ _)) (gr_set _ _ _ _)) (gr_set _ _ _ _))
    rw [hw4]
    clear hw4
    have HK14 := hide (show ∀ b, b < w1.heap.size → ((ok b ∧ b < w.heap.size) ∨ w0.heap.size ≤ b) → w4.heap[b]? = w1.heap[b]? from fun b hb hk => (HG4.out.block b (Nat.lt_of_lt_of_le hb (Nat.le_trans HG2.out.size (Nat.le_trans HB3.out.size HG5.out.size))) (fun e => by have := Option.some.inj e; have := HZ0.out; omega)).trans ((HG5.out.block b (Nat.lt_of_lt_of_le hb (Nat.le_trans HG2.out.size HB3.out.size)) (fun e => by have := Option.some.inj e; have := HZ0.out; omega)).trans ((HB3.out.block b (Nat.lt_of_lt_of_le hb HG2.out.size)).trans (HK12.out b hb hk))))
    have HO4 := hide (HO5.out.kept HG4.out (.inr (row_ne HO5.out HT5.out (by decide))))
    have HSZ := hide (show w1.heap.size ≤ w4.heap.size from Nat.le_trans HG2.out.size (Nat.le_trans HB3.out.size (Nat.le_trans HG5.out.size HG4.out.size)))
    have HBW3 := hide (zbT HBW2.out HB3.out HBW2.out.size)
    have HBW5 := hide (HBW3.out.trans (grown_below HG5.out HBW3.out.size (fun g hg => by cases hg; omega)))
    have HB4 := hide (HBW5.out.trans (grown_below HG4.out HBW5.out.size (fun g hg => by cases hg; omega)))
    have HSV := hide (show r = { u with ins := E.rfill f (ordF u.people) [] 0 } by rw [HRU.out, if_neg (by have := HC.out; omega)])
    have HST := hide (show StW w4 (fun b => ok b ∨ w.heap.size ≤ b) (.agg #[.slice Anu nnu cnu, .slice A2u n2u c2u, .int .i64 u.back, .slice B k c4]) r by
      rw [HSV.out]
      refine ⟨Anu, nnu, cnu, A2u, n2u, c2u, B, k, c4, rfl, HUL.out.1, HUL.out.2.1, HUL.out.2.2.1, HUL.out.2.2.2.1, HL.out, fun W hW hk => ?_⟩
      have h := HU.out W (Nat.le_trans HSZ.out hW) (fun b hb ho => (hk b (Nat.lt_of_lt_of_le hb HSZ.out) (ho.elim (fun h => .inl h.1) (fun h => .inr (Nat.le_trans HB0.out.size h)))).trans (HK14.out b hb ho))
      exact ⟨h.1, h.2.1, owns_RdI (owns_agree HO4.out (fun b hb hbase => hk b hb (.inr (Nat.le_trans HBW2.out.size hbase)))) HL.out⟩)
    have r0 : w4.cell? ⟨w.heap.size + 1 + 1 + 1, 0, none⟩ = some (.slice Anu nnu cnu) := (blk_cell HT4.out 0).trans rfl
    have r1 : w4.cell? ⟨w.heap.size + 1 + 1 + 1, 1, none⟩ = some (.slice A2u n2u c2u) := (blk_cell HT4.out 1).trans rfl
    have r2 : w4.cell? ⟨w.heap.size + 1 + 1 + 1, 2, none⟩ = some (.int .i64 u.back) := (blk_cell HT4.out 2).trans rfl
    have r3 : w4.cell? ⟨w.heap.size + 1 + 1 + 1, 3, none⟩ = some (.slice B k c4) := (blk_cell HT4.out 3).trans rfl
    have lr := blk_lt HT4.out
    exact bodyPost_ret (v := .agg #[.slice Anu nnu cnu, .slice A2u n2u c2u, .int .i64 u.back, .slice B k c4]) (by simp [results, Tryz.results40, go_sem, r0, r1, r2, r3]) rfl ⟨_, rfl, HST.out, HB4.out⟩
end Go.Proofs.YtobjahlmjcnfoaaGreat

namespace Go.Proofs.YtobjahlmjcnfoaaGreat
open Go.RowKit Go.Sort
attribute [local go_sem ↓] Go.wp_at_zero Go.wp_at_succ

theorem gr_none_drew (u : World) (row : Option Nat) : u.grownBy u.drew row := ⟨(World.grownBy.refl u row).os, (World.grownBy.refl u row).tape, (World.grownBy.refl u row).output, (World.grownBy.refl u row).size, (World.grownBy.refl u row).block⟩
theorem gr_wide {u v : World} {row : Option Nat} (h : u.grownBy v none) : u.grownBy v row := ⟨h.os, h.tape, h.output, h.size, fun k hk _ => h.block k hk (by simp)⟩
def outF (os : List E.Rp) (ins : List Int) : List Int := (os.filter fun p => !ins.contains p.player).map E.Rp.player
theorem outF_step {os : List E.Rp} {ins : List Int} {i : Nat} {p : E.Rp} (h : os[i]? = some p) : outF (os.take (i + 1)) ins = outF (os.take i) ins ++ (if ins.contains p.player = true then [] else [p.player]) := by
  unfold outF
  rw [List.take_add_one, h, List.filter_append, List.map_append]
  congr 1
  show List.map _ (List.filter _ [p]) = _
  rw [List.filter_cons, List.filter_nil]
  cases ins.contains p.player <;> rfl
theorem outF_length (os : List E.Rp) (ins : List Int) : (outF os ins).length ≤ os.length := by
  unfold outF
  rw [List.length_map]
  exact List.length_filter_le _ _
theorem rows_apart {w : World} {b1 b2 s1 s2 n1 n2 : Nat} {e1 e2 : TypeId} {v1 v2 : Value} {xs1 xs2 : List Value} (h1 : w.ownsRow b1 e1 s1 v1 n1 xs1) (h2 : w.ownsRow b2 e2 s2 v2 n2 xs2) (he : e1 ≠ e2) : v1.ownBlock = none ∨ v1.ownBlock ≠ v2.ownBlock := by
  rcases h1.2 with ⟨rfl, _⟩ | ⟨g, cap, cur, rfl, _, hb, _⟩
  · exact .inl rfl
  · refine .inr fun e => ?_
    rcases h2.2 with ⟨rfl, _⟩ | ⟨g', cap', cur', rfl, _, hb2, _⟩
    · cases e
    · have e' : g = g' := Option.some.inj e
      subst e'
      rw [hb] at hb2
      have := Option.some.inj hb2
      injection this with _ h3
      exact he h3
set_option maxHeartbeats 6400000 in
set_option maxRecDepth 100000 in
theorem entries_ref (f : E.Fd) (An : Option Addr) (nn cn : Nat) (ps : List E.Rp) (A2 : Option Addr) (n2 c2 : Nat) (bk : Int) (A3 : Option Addr) (n3 c3 : Nat) (ins : List Int) (w : World) (hn : ps.length = nn) (hr : RdP w w.heap.size An ps) (hm : nn ≤ 200) (hn3 : ins.length = n3) (hr3 : RdI w w.heap.size A3 ins) (hm3 : n3 ≤ 400)
    (hp : 0 ≤ f.places ∧ f.places ≤ 1000) (hb : 0 ≤ bk ∧ bk ≤ 1000) :
    Calls Tryz.prog 24 #[.agg #[.int .i64 f.places, .int .i64 f.wilds, .int .i64 f.guards, .int .i64 f.close, .int .i64 f.freeze], .agg #[.slice An nn cn, .slice A2 n2 c2, .int .i64 bk, .slice A3 n3 c3]] w fun e w' => ∃ A m c, e = .returned (.agg #[.slice A3 n3 c3, .slice A2 n2 c2, .slice A m c, .int .i64 (f.places + bk - (n3 : Int))]) ∧ (outF (ordF ps) ins).length = m ∧ w'.ownsRow w.heap.size 3 1 (.slice A m c) m (flatI (outF (ordF ps) ins)) ∧ Below w.heap.size w w' := by
  have HN := hide hn
  have HR := hide hr
  have HM := hide hm
  have HN3 := hide hn3
  have HR3 := hide hr3
  have HM3 := hide hm3
  clear hn hr hm hn3 hr3
  have hwp : IntKind.i64.wrap (f.places + bk) = f.places + bk := IntWalk.i64_in _ (by omega)
  have hwq : IntKind.i64.wrap (f.places + bk - (n3 : Int)) = f.places + bk - (n3 : Int) := IntWalk.i64_in _ (by omega)
  go_enter Tryz.func24, Tryz.ntmps24
  go_upto_region 1 with fail
  obtain ⟨w0, hw0⟩ : ∃ q, ((w.alloc (.cells #[.int .i64 f.places, .int .i64 f.wilds, .int .i64 f.guards, .int .i64 f.close, .int .i64 f.freeze] 23)).alloc (.cells #[.slice An nn cn, .slice A2 n2 c2, .int .i64 bk, .slice A3 n3 c3] 53)).alloc (.cells #[.slice none 0 0, .slice none 0 0, .slice none 0 0, .int .i64 0] 38) = q := ⟨_, rfl⟩
  have HB0 := hide (show Below w.heap.size w w0 by rw [← hw0]; (repeat' first | exact zbR _ _ | assumption | refine zbD ?_ | refine zbA ?_ ?_ _ | refine zbS ?_ ?_ _ | refine zbT ?_ (by assumption) ?_ | (simp; done) | (simp; omega) | omega))
  have HF0 := hide (show w0.heap[w.heap.size]? = some (.cells #[.int .i64 f.places, .int .i64 f.wilds, .int .i64 f.guards, .int .i64 f.close, .int .i64 f.freeze] 23 (0, 0)) by rw [← hw0]; exact (Below.heap_alloc _ _ _ (by first | (simp; done) | (simp; omega) | omega)).trans ((Below.heap_alloc _ _ _ (by first | (simp; done) | (simp; omega) | omega)).trans (World.alloc_heap_new _ _)))
  have HS0 := hide (show w0.heap[w.heap.size + 1]? = some (.cells #[.slice An nn cn, .slice A2 n2 c2, .int .i64 bk, .slice A3 n3 c3] 53 (0, 0)) by rw [← hw0]; exact (Below.heap_alloc _ _ _ (by first | (simp; done) | (simp; omega) | omega)).trans ((congrArg _ (by simp)).trans (World.alloc_heap_new _ _)))
  have HT0 := hide (show w0.heap[w.heap.size + 1 + 1]? = some (.cells #[.slice none 0 0, .slice none 0 0, .slice none 0 0, .int .i64 0] 38 (0, 0)) by rw [← hw0]; exact (congrArg _ (by simp)).trans (World.alloc_heap_new _ _))
  rw [hw0]
  clear hw0
  have x0 : w0.cell? ⟨w.heap.size, 0, none⟩ = some (.int .i64 f.places) := (blk_cell HF0.out 0).trans rfl
  have lx := blk_lt HF0.out
  have s0 : w0.cell? ⟨w.heap.size + 1, 0, none⟩ = some (.slice An nn cn) := (blk_cell HS0.out 0).trans rfl
  have s1 : w0.cell? ⟨w.heap.size + 1, 1, none⟩ = some (.slice A2 n2 c2) := (blk_cell HS0.out 1).trans rfl
  have s2 : w0.cell? ⟨w.heap.size + 1, 2, none⟩ = some (.int .i64 bk) := (blk_cell HS0.out 2).trans rfl
  have s3 : w0.cell? ⟨w.heap.size + 1, 3, none⟩ = some (.slice A3 n3 c3) := (blk_cell HS0.out 3).trans rfl
  have ls := blk_lt HS0.out
  go_upto_region 2 with fail
  obtain ⟨wq, hwq2⟩ : ∃ x, w0.alloc (.cells #[.slice A3 n3 c3, .slice A2 n2 c2, .slice none 0 0, .int .i64 (f.places + bk - (n3 : Int))] 38) = x := ⟨_, rfl⟩
  have HBQ := hide (show Below w.heap.size w wq by rw [← hwq2]; exact zbA HB0.out HB0.out.size _)
  have HFQ := hide (show wq.heap[w.heap.size]? = some (.cells #[.int .i64 f.places, .int .i64 f.wilds, .int .i64 f.guards, .int .i64 f.close, .int .i64 f.freeze] 23 (0, 0)) by rw [← hwq2]; exact (Below.heap_alloc _ _ _ (blk_lt HF0.out)).trans HF0.out)
  have HSQ := hide (show wq.heap[w.heap.size + 1]? = some (.cells #[.slice An nn cn, .slice A2 n2 c2, .int .i64 bk, .slice A3 n3 c3] 53 (0, 0)) by rw [← hwq2]; exact (Below.heap_alloc _ _ _ (blk_lt HS0.out)).trans HS0.out)
  have HTQ := hide (show wq.heap[w.heap.size + 1 + 1]? = some (.cells #[.slice none 0 0, .slice none 0 0, .slice none 0 0, .int .i64 0] 38 (0, 0)) by rw [← hwq2]; exact (Below.heap_alloc _ _ _ (blk_lt HT0.out)).trans HT0.out)
  have HQ0 := hide (show wq.heap[w0.heap.size]? = some (.cells #[.slice A3 n3 c3, .slice A2 n2 c2, .slice none 0 0, .int .i64 (f.places + bk - (n3 : Int))] 38 (0, 0)) by rw [← hwq2]; exact World.alloc_heap_new _ _)
  have hql : w.heap.size + 1 + 1 < w0.heap.size := blk_lt HT0.out
  rw [hwq2]
  clear hwq2 s0 s1 s2 s3 ls x0 lx hwp hwq
  obtain ⟨q, hq⟩ : ∃ q, w0.heap.size = q := ⟨_, rfl⟩
  rw [hq] at HQ0 hql ⊢
  have HQL := hide (show w.heap.size ≤ q by omega)
  clear hq
  have HR0 := hide ((HR.out.below HBQ.out).mono HBQ.out.size)
  have s0 : wq.cell? ⟨w.heap.size + 1, 0, none⟩ = some (.slice An nn cn) := (blk_cell HSQ.out 0).trans rfl
  have s1 : wq.cell? ⟨w.heap.size + 1, 1, none⟩ = some (.slice A2 n2 c2) := (blk_cell HSQ.out 1).trans rfl
  have s2 : wq.cell? ⟨w.heap.size + 1, 2, none⟩ = some (.int .i64 bk) := (blk_cell HSQ.out 2).trans rfl
  have s3 : wq.cell? ⟨w.heap.size + 1, 3, none⟩ = some (.slice A3 n3 c3) := (blk_cell HSQ.out 3).trans rfl
  have ls := blk_lt HSQ.out
  have hm4' := HM.out
  go_wp2_with (go_at_call 20; refine (order_ref An nn cn ps A2 n2 c2 bk A3 n3 c3 wq HN.out HR0.out (by omega)).mono ?_; rintro e w1 ⟨B0, m, c, rfl, hlen, hown, hb1⟩; have HLO := hide hlen; have HOO := hide hown; have HB1 := hide hb1; clear hlen hown hb1)
  clear s0 s1 s2 s3 ls
  obtain ⟨os, hos⟩ : ∃ q, ordF ps = q := ⟨_, rfl⟩
  have HOS := hide hos
  rw [hos] at HLO HOO
  clear hos
  have HM4 := hide (show m ≤ 200 by have h1 := ordF_length ps; rw [HOS.out, HLO.out, HN.out] at h1; omega)
  have HB01 := hide (zbT HBQ.out HB1.out HBQ.out.size)
  have HS1 := hide ((HB1.out.block _ (blk_lt HSQ.out)).trans HSQ.out)
  have HT1 := hide ((HB1.out.block _ (blk_lt HTQ.out)).trans HTQ.out)
  have HQ1 := hide ((HB1.out.block _ (blk_lt HQ0.out)).trans HQ0.out)
  clear HF0 HS0 HT0 HR0 HFQ HSQ HTQ HQ0 HM hm4'
  go_loopw [7] (fun i wr => ∃ (i' : Nat) (B : Option Addr) (k c4 : Nat) (outs : List Int), i' ≤ m ∧ i = .int .i64 i' ∧ Hid (outs.length = k) ∧ Hid (outs = outF (os.take i') ins) ∧ Hid (wr.ownsRow w1.heap.size 3 1 (.slice B k c4) k (flatI outs)) ∧ Hid (wr.heap[q]? = some (.cells #[.slice A3 n3 c3, .slice A2 n2 c2, .slice B k c4, .int .i64 (f.places + bk - (n3 : Int))] 38 (0, 0))) ∧ Hid (w1.grownBy wr (some q))) (fun i _ => m - (intOf i).toNat)
  case atStart => exact ⟨0, none, 0, 0, [], by omega, rfl, hide rfl, hide rfl, hide ⟨rfl, .inl ⟨rfl, rfl⟩⟩, HQ1, hide (World.grownBy.refl _ _)⟩
  case round =>
    obtain ⟨i, B, k, c4, outs, hi, rfl, HL, HE, HO, HQR, HGR⟩ := hrel
    have hm4 := HM4.out
    have hk4 : k ≤ i := by have h := outF_length (os.take i) ins; rw [← HE.out, HL.out, List.length_take] at h; omega
    by_cases hin : i < m
    · obtain ⟨p, hp⟩ : ∃ q, os[i]? = some q := ⟨_, List.getElem?_eq_getElem (by have := HLO.out; omega)⟩
      have HPK := hide hp
      have HST := hide (outF_step (ins := ins) hp)
      clear hp
      have hi1 : (i : Int) < (m : Int) := by omega
      have hi0 : (0 : Int) ≤ (i : Int) := by omega
      go_upto_region 6 with fail
      cases hc : ins.contains p.player
      · have HC := hide hc
        clear hc
        obtain ⟨V, hV⟩ : ∃ V, (wr).drew = V := ⟨_, rfl⟩
        have HGV := hide (show w1.grownBy V (some q) by rw [← hV]; exact gr_trans HGR.out (gr_none_drew _ _))
        have HOV := hide (show V.ownsRow w1.heap.size 3 1 (.slice B k c4) k (flatI outs) by rw [← hV]; exact HO.out)
        have HQV := hide (show V.heap[q]? = some (.cells #[.slice A3 n3 c3, .slice A2 n2 c2, .slice B k c4, .int .i64 (f.places + bk - (n3 : Int))] 38 (0, 0)) by rw [← hV]; exact HQR.out)
        have HWV := hide (HB01.out.trans (grown_below HGV.out HB01.out.size (fun g hg => by cases hg; exact HQL.out)))
        have HSV := hide ((HGV.out.block _ (blk_lt HS1.out) (fun e => by have := Option.some.inj e; omega)).trans HS1.out)
        have vs3 : V.cell? ⟨w.heap.size + 1, 3, none⟩ = some (.slice A3 n3 c3) := (blk_cell HSV.out 3).trans rfl
        have lvs := blk_lt HSV.out
        have HPV := hide (owns_RdP (HOO.out.kept HGV.out (.inr (row_ne HOO.out HQ1.out (by decide)))) HLO.out)
        obtain ⟨bq, oq, hAq, lbv, q0, q1, q2, q3, q4, q5, q6⟩ := HPV.out i p HPK.out
        subst hAq
        clear q1 q2 q3 q4 q5 q6
        refine wp_region_still_lit (by kernel_rfl) (by kernel_rfl) ?_
        change wpStill _ _ (wr).drew (fun a' => Exit.then _ _ Exit.normal a' (wr).drew) _ _
        rw [hV]
        clear hV
        iterate 7 (with_reducible refine stTake (v := ?_) (by kernel_rfl) ?_ ?_; rotate_left; (focus (go_simp; (try with_reducible rfl))); (try simp only [Act.put, zl, List.set_cons_zero, List.set_cons_succ]))
        with_reducible refine stCall (v := .bool false) (f := 21) (args := #[.slice A3 n3 c3, .int .i64 p.player]) (by kernel_rfl) (by go_simp) ((In_any A3 n3 c3 ins p.player V HN3.out ((HR3.out.below HWV.out).mono HWV.out.size) (by omega)).mono (fun e w h => ⟨h.1.trans (by rw [HC.out]), h.2.symm⟩)) ?_
        (try simp only [Act.put, zl, List.set_cons_zero, List.set_cons_succ])
        with_reducible refine stTake (v := ?_) (by kernel_rfl) ?_ ?_; rotate_left; (focus (go_simp; (try with_reducible rfl))); (try simp only [Act.put, zl, List.set_cons_zero, List.set_cons_succ])
        refine wpStill_nil ?_
        clear vs3 lvs
        go_upto_region 7 with fail
        have hSof : ∀ w', V.grownBy w' (Value.slice B k c4).ownBlock → V.grownBy w' (Value.slice B k c4).ownBlock ∧ w'.cell? ⟨q, 2, none⟩ = some (.slice B k c4) ∧ w'.frozen? ⟨q, 2, none⟩ = false ∧ w'.cell? ⟨bq, oq + i * 7, none⟩ = some (.int .i64 p.player) ∧ bq < w'.heap.size := fun w' hg => by
          have hQ := (hg.block q (blk_lt HQV.out) (fun e => row_ne HOV.out HQV.out (by decide) e.symm)).trans HQV.out
          have hP := owns_RdP ((HOO.out.kept HGV.out (.inr (row_ne HOO.out HQ1.out (by decide)))).kept hg (rows_apart (HOO.out.kept HGV.out (.inr (row_ne HOO.out HQ1.out (by decide)))) HOV.out (by decide))) HLO.out
          obtain ⟨b9, o9, h9, l9, c9, _⟩ := hP i p HPK.out
          simp only [Option.some.injEq, Addr.mk.injEq, and_true] at h9
          obtain ⟨rfl, rfl⟩ := h9
          exact ⟨hg, (blk_cell hQ 2).trans rfl, blk_frozen hQ 2, c9, l9⟩
        have hS : (fun w' => V.grownBy w' (Value.slice B k c4).ownBlock ∧ w'.cell? ⟨q, 2, none⟩ = some (.slice B k c4) ∧ w'.frozen? ⟨q, 2, none⟩ = false ∧ w'.cell? ⟨bq, oq + i * 7, none⟩ = some (.int .i64 p.player) ∧ bq < w'.heap.size) V := hSof _ (World.grownBy.refl _ _)
        (try dsimp only at hS)
        refine wp_region_T_drew (S := (fun w' => V.grownBy w' (Value.slice B k c4).ownBlock ∧ w'.cell? ⟨q, 2, none⟩ = some (.slice B k c4) ∧ w'.frozen? ⟨q, 2, none⟩ = false ∧ w'.cell? ⟨bq, oq + i * 7, none⟩ = some (.int .i64 p.player) ∧ bq < w'.heap.size)) 10 (by kernel_rfl) ?_ (fun hD0 => ?_)
        · (try dsimp only); first | assumption | exact hSof _ (gr_none_drew _ _)
        refine takeT (v := ?_) 0 rfl (by kernel_rfl) (by kernel_rfl) (by kernel_rfl) (by kernel_rfl) (fun _ _ _ h => h) (Or.inl ⟨by rfl, ?_⟩) (by assumption) ?_; rotate_left
        · (intro w hSw; (try dsimp only at hSw); go_simp; try with_reducible rfl)
        try simp only [Act.put, zl, z0, z1]
        refine takeT (v := ?_) 1 rfl (by kernel_rfl) (by kernel_rfl) (by kernel_rfl) (by kernel_rfl) (fun _ _ _ h => h) (Or.inl ⟨by rfl, ?_⟩) (by assumption) ?_; rotate_left
        · (intro w hSw; (try dsimp only at hSw); go_simp; try with_reducible rfl)
        try simp only [Act.put, zl, z0, z1]
        refine takeT (v := ?_) 2 rfl (by kernel_rfl) (by kernel_rfl) (by kernel_rfl) (by kernel_rfl) (fun _ _ _ h => h) (Or.inl ⟨by rfl, ?_⟩) (by assumption) ?_; rotate_left
        · (intro w hSw; (try dsimp only at hSw); go_simp; try with_reducible rfl)
        try simp only [Act.put, zl, z0, z1]
        refine takeT (v := ?_) 3 rfl (by kernel_rfl) (by kernel_rfl) (by kernel_rfl) (by kernel_rfl) (fun _ _ _ h => h) (Or.inl ⟨by rfl, ?_⟩) (by assumption) ?_; rotate_left
        · (intro w hSw; (try dsimp only at hSw); go_simp; try with_reducible rfl)
        try simp only [Act.put, zl, z0, z1]
        refine takeT (v := ?_) 4 rfl (by kernel_rfl) (by kernel_rfl) (by kernel_rfl) (by kernel_rfl) (fun _ _ _ h => h) (Or.inl ⟨by rfl, ?_⟩) (by assumption) ?_; rotate_left
        · (intro w hSw; (try dsimp only at hSw); go_simp; try with_reducible rfl)
        try simp only [Act.put, zl, z0, z1]
        refine takeT (v := ?_) 5 rfl (by kernel_rfl) (by kernel_rfl) (by kernel_rfl) (by kernel_rfl) (fun _ _ _ h => h) (Or.inl ⟨by rfl, ?_⟩) (by assumption) ?_; rotate_left
        · (intro w hSw; (try dsimp only at hSw); go_simp; try with_reducible rfl)
        try simp only [Act.put, zl, z0, z1]
        refine takeT (v := ?_) 6 rfl (by kernel_rfl) (by kernel_rfl) (by kernel_rfl) (by kernel_rfl) (fun _ _ _ h => h) (Or.inl ⟨by rfl, ?_⟩) (by assumption) ?_; rotate_left
        · (intro w hSw; (try dsimp only at hSw); go_simp; try with_reducible rfl)
        try simp only [Act.put, zl, z0, z1]
        refine wpAnyT_ready (rs := [7]) (by kernel_rfl) (by simp) ?_; refine consT 7 rfl (fun K hK => ?_) AllReadyT.nil
        (go_simp; (first | refine capA (fun W0 hG hB hk hgr => ?_) | refine capAD (fun W0 hG hB hk hgr => ?_)); have hSn := hSof _ (by first | exact gr_trans hD0.1 (gr_wide hgr) | exact gr_trans (World.grownBy.refl _ _) (gr_wide hgr)); have HQ7 := hide (show W0.heap[_]? = some (Obj.cells #[.int .i64 p.player] 3 (0, 0)) from hG); have HO7 := hide (HOV.out.kept hgr (Classical.em _)); have HG7 := hide (show V.grownBy W0 none from hgr); clear hG hB hk hgr; (try dsimp only at hSn))
        refine hK.out _ _ ?_ (fun hD1 => ?_)
        · (try dsimp only); first | assumption | exact hSof _ (gr_none_drew _ _)
        clear hK K hD0; try simp only [Act.put, zl, z0, z1]
        refine wpAnyT_ready (rs := [8]) (by kernel_rfl) (by simp) ?_; refine consT 8 rfl (fun K hK => ?_) AllReadyT.nil
        (refine step_app_loc rfl (.tmp 40) (.tmp 46) rfl w1.heap.size _ outs k rfl HO7.out _ p.player rfl HQ7.out (by omega) (Nat.le_trans HGV.out.size HG7.out.size) (k + 1) rfl (fun B5 c5 W8 ho8 hg8 hl8 => ?_); have hSn := hSof _ (gr_trans hD1.1 hg8); have HO8 := hide ho8; clear ho8 hg8 hl8 HO7 HQ7 HG7; (try dsimp only at hSn))
        refine hK.out _ _ ?_ (fun hD2 => ?_)
        · (try dsimp only); first | assumption | exact hSof _ (gr_none_drew _ _)
        clear hK K hD1; try simp only [Act.put, zl, z0, z1]
        refine takeT (v := ?_) 9 rfl (by kernel_rfl) (by kernel_rfl) (by kernel_rfl) (by kernel_rfl) (fun _ _ _ h => h) (Or.inl ⟨by rfl, ?_⟩) (by assumption) ?_; rotate_left
        · (intro w hSw; (try dsimp only at hSw); go_simp; try with_reducible rfl)
        try simp only [Act.put, zl, z0, z1]
        refine wpAnyT_ready (rs := [10]) (by kernel_rfl) (by simp) ?_
        refine lastT rfl (fun K hK => ?_)
        (try dsimp only at hD2)
        go_simp
        refine hK.out _ _ ?_
        clear hK K
        try simp only [Act.put, zl, z0, z1]
        refine wpAnyT_done (by kernel_rfl) ?_ _
        (try dsimp only [Act.put, List.getElem_toArray, List.getElem_cons_succ, List.getElem_cons_zero])
        (try simp only [zl, z0, z1])
        have HG8 := hide hSn.1
        have HQ8 := hide ((HG8.out.block q (blk_lt HQV.out) (fun e => row_ne HOV.out HQV.out (by decide) e.symm)).trans HQV.out)
        clear hSn hS hSof
        obtain ⟨W9, hW9⟩ : ∃ x, W8.setCell ⟨q, 2, none⟩ (.slice B5 (k + 1) c5) = x := ⟨_, rfl⟩
        have HQ9 := hide (show W9.heap[q]? = some (.cells #[.slice A3 n3 c3, .slice A2 n2 c2, .slice B5 (k + 1) c5, .int .i64 (f.places + bk - (n3 : Int))] 38 (0, 0)) by rw [← hW9]; exact blk_set HQ8.out 2 _)
        have HG9 := hide (show W8.grownBy W9 (some q) by rw [← hW9]; exact gr_set _ _ _ _)
        have HO9 := hide (HO8.out.kept HG9.out (.inr (row_ne HO8.out HQ8.out (by decide))))
        have HGW := hide (gr_trans (HGV.out.andThen HG8.out (fun j hj => .inl (HOV.out.lt j hj).1)) HG9.out)
        rw [hW9]
        clear hW9
        go_wp2_with fail
        go_roundw
        case rel => exact ⟨i + 1, B5, k + 1, c5, outs ++ [p.player], by omega, by go_num, hide (by simp [HL.out]), hide (by rw [HST.out, HC.out, HE.out]; rfl), HO9, HQ9, HGW⟩
        case measure => simp [intOf]; omega
      · have HC := hide hc
        clear hc
        obtain ⟨V, hV⟩ : ∃ V, (wr).drew = V := ⟨_, rfl⟩
        have HGV := hide (show w1.grownBy V (some q) by rw [← hV]; exact gr_trans HGR.out (gr_none_drew _ _))
        have HOV := hide (show V.ownsRow w1.heap.size 3 1 (.slice B k c4) k (flatI outs) by rw [← hV]; exact HO.out)
        have HQV := hide (show V.heap[q]? = some (.cells #[.slice A3 n3 c3, .slice A2 n2 c2, .slice B k c4, .int .i64 (f.places + bk - (n3 : Int))] 38 (0, 0)) by rw [← hV]; exact HQR.out)
        have HWV := hide (HB01.out.trans (grown_below HGV.out HB01.out.size (fun g hg => by cases hg; exact HQL.out)))
        have HSV := hide ((HGV.out.block _ (blk_lt HS1.out) (fun e => by have := Option.some.inj e; omega)).trans HS1.out)
        have vs3 : V.cell? ⟨w.heap.size + 1, 3, none⟩ = some (.slice A3 n3 c3) := (blk_cell HSV.out 3).trans rfl
        have lvs := blk_lt HSV.out
        have HPV := hide (owns_RdP (HOO.out.kept HGV.out (.inr (row_ne HOO.out HQ1.out (by decide)))) HLO.out)
        obtain ⟨bq, oq, hAq, lbv, q0, q1, q2, q3, q4, q5, q6⟩ := HPV.out i p HPK.out
        subst hAq
        clear q1 q2 q3 q4 q5 q6
        refine wp_region_still_lit (by kernel_rfl) (by kernel_rfl) ?_
        change wpStill _ _ (wr).drew (fun a' => Exit.then _ _ Exit.normal a' (wr).drew) _ _
        rw [hV]
        clear hV
        iterate 7 (with_reducible refine stTake (v := ?_) (by kernel_rfl) ?_ ?_; rotate_left; (focus (go_simp; (try with_reducible rfl))); (try simp only [Act.put, zl, List.set_cons_zero, List.set_cons_succ]))
        with_reducible refine stCall (v := .bool true) (f := 21) (args := #[.slice A3 n3 c3, .int .i64 p.player]) (by kernel_rfl) (by go_simp) ((In_any A3 n3 c3 ins p.player V HN3.out ((HR3.out.below HWV.out).mono HWV.out.size) (by omega)).mono (fun e w h => ⟨h.1.trans (by rw [HC.out]), h.2.symm⟩)) ?_
        (try simp only [Act.put, zl, List.set_cons_zero, List.set_cons_succ])
        with_reducible refine stTake (v := ?_) (by kernel_rfl) ?_ ?_; rotate_left; (focus (go_simp; (try with_reducible rfl))); (try simp only [Act.put, zl, List.set_cons_zero, List.set_cons_succ])
        refine wpStill_nil ?_
        clear vs3 lvs
        go_wp2_with fail
        go_roundw
        case rel => exact ⟨i + 1, B, k, c4, outs, by omega, by go_num, HL, hide (by rw [HST.out, HC.out, if_pos rfl, List.append_nil]; exact HE.out), HOV, HQV, HGV⟩
        case measure => simp [intOf]; omega
    · have him : m = i := by omega
      subst him
      have HE1 := hide (show outs = outF os ins by rw [HE.out, List.take_of_length_le (by rw [HLO.out]; exact Nat.le_refl _)])
      have HTR := hide ((HGR.out.block _ (blk_lt HT1.out) (fun e => by have := Option.some.inj e; omega)).trans HT1.out)
      have HBW := hide (HB01.out.trans (grown_below HGR.out HB01.out.size (fun g hg => by cases hg; exact HQL.out)))
      have s0 : wr.cell? ⟨q, 0, none⟩ = some (.slice A3 n3 c3) := (blk_cell HQR.out 0).trans rfl
      have s1 : wr.cell? ⟨q, 1, none⟩ = some (.slice A2 n2 c2) := (blk_cell HQR.out 1).trans rfl
      have s2 : wr.cell? ⟨q, 2, none⟩ = some (.slice B k c4) := (blk_cell HQR.out 2).trans rfl
      have s3 : wr.cell? ⟨q, 3, none⟩ = some (.int .i64 (f.places + bk - (n3 : Int))) := (blk_cell HQR.out 3).trans rfl
      have ls := blk_lt HQR.out
      have t0 : wr.cell? ⟨w.heap.size + 1 + 1, 0, none⟩ = some (.slice none 0 0) := (blk_cell HTR.out 0).trans rfl
      have t1 : wr.cell? ⟨w.heap.size + 1 + 1, 1, none⟩ = some (.slice none 0 0) := (blk_cell HTR.out 1).trans rfl
      have t2 : wr.cell? ⟨w.heap.size + 1 + 1, 2, none⟩ = some (.slice none 0 0) := (blk_cell HTR.out 2).trans rfl
      have t3 : wr.cell? ⟨w.heap.size + 1 + 1, 3, none⟩ = some (.int .i64 0) := (blk_cell HTR.out 3).trans rfl
      have lt := blk_lt HTR.out
      have fz0 := blk_frozen HTR.out 0
      have fz1 := blk_frozen HTR.out 1
      have fz2 := blk_frozen HTR.out 2
      have fz3 := blk_frozen HTR.out 3
      go_wp2_with fail
      obtain ⟨w9, hw9⟩ : ∃ q, (((wr.setCell ⟨w.heap.size + 1 + 1, 0, none⟩ (.slice A3 n3 c3)).setCell ⟨w.heap.size + 1 + 1, 1, none⟩ (.slice A2 n2 c2)).setCell ⟨w.heap.size + 1 + 1, 2, none⟩ (.slice B k c4)).setCell ⟨w.heap.size + 1 + 1, 3, none⟩ (.int .i64 (f.places + bk - (n3 : Int))) = q := ⟨_, rfl⟩
      have HT9 := hide (show w9.heap[w.heap.size + 1 + 1]? = some (.cells #[.slice A3 n3 c3, .slice A2 n2 c2, .slice B k c4, .int .i64 (f.places + bk - (n3 : Int))] 38 (0, 0)) by rw [← hw9]; exact blk_set (blk_set (blk_set (blk_set HTR.out 0 _) 1 _) 2 _) 3 _)
      have HG9 := hide (show wr.grownBy w9 (some (w.heap.size + 1 + 1)) by rw [← hw9]; exact gr_trans (gr_trans (gr_trans (gr_set _ _ _ _) (gr_set _ _ _ _)) (gr_set _ _ _ _)) (gr_set _ _ _ _))
      have HO9 := hide (HO.out.kept HG9.out (.inr (row_ne HO.out HTR.out (by decide))))
      have HB9 := hide (HBW.out.trans (grown_below HG9.out HBW.out.size (fun g hg => by cases hg; omega)))
      rw [hw9]
      clear hw9 s0 s1 s2 s3 t0 t1 t2 t3 fz0 fz1 fz2 fz3 ls lt
      have r0 : w9.cell? ⟨w.heap.size + 1 + 1, 0, none⟩ = some (.slice A3 n3 c3) := (blk_cell HT9.out 0).trans rfl
      have r1 : w9.cell? ⟨w.heap.size + 1 + 1, 1, none⟩ = some (.slice A2 n2 c2) := (blk_cell HT9.out 1).trans rfl
      have r2 : w9.cell? ⟨w.heap.size + 1 + 1, 2, none⟩ = some (.slice B k c4) := (blk_cell HT9.out 2).trans rfl
      have r3 : w9.cell? ⟨w.heap.size + 1 + 1, 3, none⟩ = some (.int .i64 (f.places + bk - (n3 : Int))) := (blk_cell HT9.out 3).trans rfl
      exact bodyPost_ret (v := .agg #[.slice A3 n3 c3, .slice A2 n2 c2, .slice B k c4, .int .i64 (f.places + bk - (n3 : Int))]) (by simp [results, Tryz.results24, go_sem, r0, r1, r2, r3]) rfl ⟨B, k, c4, rfl, by rw [HOS.out, ← HE1.out]; exact HL.out, by rw [HOS.out, ← HE1.out]; exact owns_mono HO9.out HB01.out.size, HB9.out⟩
end Go.Proofs.YtobjahlmjcnfoaaGreat

namespace Go.Proofs.YtobjahlmjcnfoaaGreat
open Go.RowKit Go.Sort

theorem wpList_app_Ps {w : World} {ops : Array Oper} {rest : List Oper} {o : Oper} {a : Act} {Q : Exit → Act → World → Prop} (hgd : o.guard = none) (s x : Operand)
    (ho : o.op = .call { callee := .builtin .append, args := #[s, x], argTypes := #[51, 51] }) (base : Nat) (v : Value) (ps : List E.Rp) (m0 : Nat) (hs : a.eval s = v) (hown : w.ownsRow base 57 7 v m0 (flatP ps)) (hlen : ps.length = m0)
    (A : Option Addr) (n c : Nat) (xs : List E.Rp) (hx : a.eval x = .slice A n c) (hn : xs.length = n) (hr : RdP w w.heap.size A xs) (hA : A = none → c = 0) (h0 : m0 ≤ 1000) (h1 : n ≤ 1000) (hbase : base ≤ w.heap.size) (N : Nat) (hN : m0 + n = N)
    (h : ∀ A' c' w', w'.ownsRow base 57 7 (.slice A' N c') N (flatP (ps ++ xs)) → w.grownBy w' v.ownBlock → wpList Tryz.prog ops Q rest (a.put o.dst (.slice A' N c')) w') :
    wpList Tryz.prog ops Q (o :: rest) a w := by
  subst hN
  refine wpList_plain hgd fun K hK => ?_
  obtain ⟨A', c', w', hr', h2, h3⟩ := run_app_Ps o.type base v ps m0 hown hlen A n c xs hn hr hA h0 h1 hbase
  unfold Oper.wp execOp
  simp only [ho, resolve, invoke, builtin, Sem.run_bind, Sem.run_pure, Result.andThen_ok, List.map_toArray, List.map_cons, List.map_nil, hs, hx, hr']
  exact hK _ _ (h A' c' w' h2 h3)
theorem step_app_Is {w : World} {ops : Array Oper} {o : Oper} {a : Act} {K : Act → World → Prop} {Q : Exit → Act → World → Prop} {E' : Prop} (hgd : o.guard = none) (s x : Operand)
    (ho : o.op = .call { callee := .builtin .append, args := #[s, x], argTypes := #[36, 36] }) (base : Nat) (v : Value) (ps : List Int) (m0 : Nat) (hs : a.eval s = v) (hown : w.ownsRow base 3 1 v m0 (flatI ps))
    (A : Option Addr) (n c : Nat) (xs : List Int) (hx : a.eval x = .slice A n c) (hn : xs.length = n) (hr : RdI w w.heap.size A xs) (hA : A = none → c = 0) (h0 : m0 ≤ 1000) (h1 : n ≤ 1000) (hbase : base ≤ w.heap.size) (N : Nat) (hN : m0 + n = N)
    (h : ∀ A' c' w', w'.ownsRow base 3 1 (.slice A' N c') N (flatI (ps ++ xs)) → w.grownBy w' v.ownBlock → K (a.put o.dst (.slice A' N c')) w') :
    if Region.wanted o (yielded ops a.tmps) = true then Oper.wp Tryz.prog o a w K Q else E' := by
  subst hN
  have hw : Region.wanted o (yielded ops a.tmps) = true := by simp [Region.wanted, hgd]
  rw [if_pos hw]
  obtain ⟨A', c', w', hr', h2, h3⟩ := run_app_ints o.type base v ps m0 hown A n c xs hn hr hA h0 h1 hbase
  unfold Oper.wp execOp
  simp only [ho, resolve, invoke, builtin, Sem.run_bind, Sem.run_pure, Result.andThen_ok, List.map_toArray, List.map_cons, List.map_nil, hs, hx, hr']
  exact h A' c' w' h2 h3
theorem ownsI_empty {w : World} {q B : Nat} (hq : w.heap[q]? = some (.cells #[] 3 (0, 0))) (h : B ≤ q) : w.ownsRow B 3 1 (.slice (some ⟨q, 0, Option.none⟩) 0 0) 0 (flatI []) :=
  ⟨rfl, .inr ⟨q, 0, #[], rfl, h, hq, Nat.le_refl _, Nat.zero_le _, rfl, rfl⟩⟩

theorem step_app_PsL {w : World} {ops : Array Oper} {o : Oper} {a : Act} {K : Act → World → Prop} {Q : Exit → Act → World → Prop} {E' : Prop} (hgd : o.guard = none) (s x : Operand)
    (ho : o.op = .call { callee := .builtin .append, args := #[s, x], argTypes := #[51, 51] }) (base : Nat) (v : Value) (ps : List E.Rp) (m0 : Nat) (hs : a.eval s = v) (hown : w.ownsRow base 57 7 v m0 (flatP ps)) (hlen : ps.length = m0)
    (A : Option Addr) (n c : Nat) (xs : List E.Rp) (hx : a.eval x = .slice A n c) (hn : xs.length = n) (hr : RdP w w.heap.size A xs) (hA : A = none → c = 0) (h0 : m0 ≤ 1000) (h1 : n ≤ 1000) (hbase : base ≤ w.heap.size) (N : Nat) (hN : m0 + n = N)
    (h : ∀ A' c' w', w'.ownsRow base 57 7 (.slice A' N c') N (flatP (ps ++ xs)) → w.grownBy w' v.ownBlock → (∀ g, (Value.slice A' N c').ownBlock = some g → v.ownBlock = some g ∨ w.heap.size ≤ g) → K (a.put o.dst (.slice A' N c')) w') :
    if Region.wanted o (yielded ops a.tmps) = true then Oper.wp Tryz.prog o a w K Q else E' := by
  subst hN
  have hw : Region.wanted o (yielded ops a.tmps) = true := by simp [Region.wanted, hgd]
  rw [if_pos hw]
  obtain ⟨A', c', w', hr', h2, h3, h4⟩ : ∃ A' c' w', (Builtin.append_ #[51, 51] o.type #[v, .slice A n c]).run Tryz.prog w = .ok (.slice A' (m0 + n) c') w' ∧ w'.ownsRow base 57 7 (.slice A' (m0 + n) c') (m0 + n) (flatP (ps ++ xs)) ∧ w.grownBy w' v.ownBlock ∧ (∀ g, (Value.slice A' (m0 + n) c').ownBlock = some g → v.ownBlock = some g ∨ w.heap.size ≤ g) := by
    obtain ⟨i, hi, hz0, hz1, hz2⟩ := info_parts person_info
    rcases A with _ | ad
    · have hx0 : xs = [] := by
        match xs, hr with
        | [], _ => rfl
        | x :: r, hr => obtain ⟨_, _, e, _⟩ := hr 0 x rfl; cases e
      subst hx0
      have hn0 : n = 0 := by simpa using hn.symm
      subst hn0
      have hc0 := hA rfl
      subst hc0
      obtain ⟨A', c', rfl⟩ := own_form hown
      have hrun := run_append_owned_none (P := Tryz.prog) (w := w) base 51 o.type 57 i 7 Tryz.underlying51 hi (.slice A' m0 c') m0 (flatP ps) hown
      exact ⟨A', c', w, hrun, by simpa using hown, World.grownBy.refl w _, fun g hg => .inl hg⟩
    · obtain ⟨v', w', hrun, h2, h3, _, h5⟩ := run_append_own_at (P := Tryz.prog) w base 51 o.type 57 i _ 7 24 Tryz.underlying51 hi hz0 hz1 hz2 (by rfl) (by decide) v m0 (flatP ps) hown ad n c (flatP xs) (by rw [flatP_length, hn]) (by
        intro j u hj
        exact hr.cellAt hj) (flatP_one xs) (by unfold maxLen; omega) (by omega) hbase
      obtain ⟨A', c', rfl⟩ := own_form h2
      refine ⟨A', c', w', hrun, by rw [flatP_app]; exact h2, h3, fun g hg => ?_⟩
      rcases h5 with e | e
      · exact .inl (e ▸ hg)
      · rw [hg] at e
        exact .inr (by have := Option.some.inj e; omega)
  unfold Oper.wp execOp
  simp only [ho, resolve, invoke, builtin, Sem.run_bind, Sem.run_pure, Result.andThen_ok, List.map_toArray, List.map_cons, List.map_nil, hs, hx, hr']
  exact h A' c' w' h2 h3 h4
theorem own_fresh {w : World} {base : Nat} {e : TypeId} {n size : Nat} {xs : List Value} {v : Value} (h : w.ownsRow base e size v n xs) : v.ownBlock ≠ some w.heap.size := fun e' => by
  have := (h.lt _ e').2
  omega
theorem loc_ne {v v' : Value} {q u : Nat} (h : ∀ g, v'.ownBlock = some g → v.ownBlock = some g ∨ u ≤ g) (hv : v.ownBlock ≠ some q) (hq : q < u) : v'.ownBlock ≠ some q := fun e => by
  rcases h q e with h1 | h1
  · exact hv h1
  · omega

def set7 (L : List Value) (o : Nat) (y : E.Rp) : List Value := ((((((L.set o (.int .i64 y.player)).set (o + 1) (.int .i64 y.rank)).set (o + 2) (.bool y.grd)).set (o + 3) (.bool y.ent)).set (o + 4) (.bool y.quit)).set (o + 5) (.bool y.sgn)).set (o + 6) (.bool y.card)
theorem set7_flat : ∀ (xs : List E.Rp) (k : Nat) (y : E.Rp), set7 (flatP xs) (k * 7) y = flatP (xs.set k y)
  | [], k, y => by simp [flatP, set7]
  | x :: r, 0, y => by
    show set7 (pc x ++ flatP r) 0 y = pc y ++ flatP r
    rfl
  | x :: r, k + 1, y => by
    have ih := set7_flat r k y
    have e : (k + 1) * 7 = k * 7 + 7 := by omega
    rw [e]
    show set7 (pc x ++ flatP r) (k * 7 + 7) y = pc x ++ flatP (r.set k y)
    rw [← ih]
    rfl
theorem set7_take (L : List Value) (o n : Nat) (y : E.Rp) : (set7 L o y).take n = set7 (L.take n) o y := by
  unfold set7
  simp only [List.take_set]
theorem heap_set7 {w : World} {g : Nat} {cur : Array Value} {t : TypeId} (h : w.heap[g]? = some (.cells cur t (0, 0))) (o : Nat) (y : E.Rp) : ∃ cur', (w.setCells g o (pc y)).heap[g]? = some (.cells cur' t (0, 0)) ∧ cur'.toList = set7 cur.toList o y := by
  have h1 := blk_set h o (.int .i64 y.player)
  have h2 := blk_set h1 (o + 1) (.int .i64 y.rank)
  have h3 := blk_set h2 (o + 2) (.bool y.grd)
  have h4 := blk_set h3 (o + 3) (.bool y.ent)
  have h5 := blk_set h4 (o + 4) (.bool y.quit)
  have h6 := blk_set h5 (o + 5) (.bool y.sgn)
  have h7 := blk_set h6 (o + 6) (.bool y.card)
  refine ⟨_, h7, ?_⟩
  simp only [Array.toList_setIfInBounds]
  rfl
theorem grown_set7 (w : World) (g o : Nat) (y : E.Rp) : w.grownBy (w.setCells g o (pc y)) (some g) := by
  have e : w.setCells g o (pc y) = ((((((w.setCell ⟨g, o, Option.none⟩ (.int .i64 y.player)).setCell ⟨g, o + 1, Option.none⟩ (.int .i64 y.rank)).setCell ⟨g, o + 2, Option.none⟩ (.bool y.grd)).setCell ⟨g, o + 3, Option.none⟩ (.bool y.ent)).setCell ⟨g, o + 4, Option.none⟩ (.bool y.quit)).setCell ⟨g, o + 5, Option.none⟩ (.bool y.sgn)).setCell ⟨g, o + 6, Option.none⟩ (.bool y.card) := rfl
  rw [e]
  exact gr_trans (gr_trans (gr_trans (gr_trans (gr_trans (gr_trans (gr_set _ _ _ _) (gr_set _ _ _ _)) (gr_set _ _ _ _)) (gr_set _ _ _ _)) (gr_set _ _ _ _)) (gr_set _ _ _ _)) (gr_set _ _ _ _)
theorem own_set7 {w : World} {base g N c : Nat} {ms : List E.Rp} (h : w.ownsRow base 57 7 (.slice (some ⟨g, 0, Option.none⟩) N c) N (flatP ms)) (hlen : ms.length = N) (k : Nat) (y : E.Rp) : (w.setCells g (k * 7) (pc y)).ownsRow base 57 7 (.slice (some ⟨g, 0, Option.none⟩) N c) N (flatP (ms.set k y)) := by
  obtain ⟨h1, ⟨h2, _⟩ | ⟨g', cap, cur, e, hb, hblk, hc1, hc2, hsz, htk⟩⟩ := h
  · cases h2
  · simp only [Value.slice.injEq, Option.some.injEq, Addr.mk.injEq] at e
    obtain ⟨⟨rfl, _⟩, _, rfl⟩ := e
    obtain ⟨cur', hb', hl'⟩ := heap_set7 hblk (k * 7) y
    refine ⟨by rw [flatP_length, List.length_set, hlen], .inr ⟨g, c, cur', rfl, hb, hb', hc1, hc2, ?_, ?_⟩⟩
    · have : cur'.size = cur.size := by
        rw [← Array.length_toList, hl', ← Array.length_toList]
        unfold set7
        simp only [List.length_set]
      rw [this, hsz]
    · rw [hl', set7_take, htk, set7_flat]
theorem own_there7 {w : World} {base g N c : Nat} {ms : List E.Rp} (h : w.ownsRow base 57 7 (.slice (some ⟨g, 0, Option.none⟩) N c) N (flatP ms)) {k : Nat} (hk : k < N) : w.there g (k * 7) 7 := by
  obtain ⟨h1, ⟨h2, _⟩ | ⟨g', cap, cur, e, hb, hblk, hc1, hc2, hsz, htk⟩⟩ := h
  · cases h2
  · simp only [Value.slice.injEq, Option.some.injEq, Addr.mk.injEq] at e
    obtain ⟨⟨rfl, _⟩, _, rfl⟩ := e
    intro j hj
    refine ⟨?_, blk_frozen hblk _⟩
    rw [blk_cell hblk]
    have : k * 7 + j < cur.size := by rw [hsz]; have := Nat.mul_le_mul_right 7 (show k + 1 ≤ c by omega); omega
    rw [Array.getElem?_eq_getElem this]
    rfl
theorem pc_one (y : E.Rp) : (pc y).toArray.all (·.oneCell') = true := all_oneCell_toArray (fun v hv => by
  simp only [pc, List.mem_cons, List.not_mem_nil, or_false] at hv
  rcases hv with rfl | rfl | rfl | rfl | rfl | rfl | rfl <;> rfl)
theorem one4 {a b c d : Value} (h1 : a.oneCell' = true) (h2 : b.oneCell' = true) (h3 : c.oneCell' = true) (h4 : d.oneCell' = true) : (#[a, b, c, d] : Array Value).all (·.oneCell') = true := all_oneCell_toArray (cs := [a, b, c, d]) (fun v hv => by
  simp only [List.mem_cons, List.not_mem_nil, or_false] at hv
  rcases hv with rfl | rfl | rfl | rfl <;> assumption)
theorem rpSize : (Tryz.prog.info? 57).map (·.size) = some 7 := by kernel_rfl
theorem stSize : (Tryz.prog.info? 53).map (·.size) = some 4 := by kernel_rfl
theorem own_block7 {w : World} {base N c : Nat} {A : Option Addr} {ms : List E.Rp} (h : w.ownsRow base 57 7 (.slice A N c) N (flatP ms)) (hN : 0 < N) : ∃ g, A = some ⟨g, 0, none⟩ ∧ base ≤ g := by
  rcases h.2 with ⟨h1, h2⟩ | ⟨g, cap, cur, h1, hb, _⟩
  · omega
  · simp only [Value.slice.injEq] at h1
    exact ⟨g, h1.1, hb⟩

def IntsW (w : World) (ok : Nat → Prop) (v : Value) (xs : List Int) : Prop := ∃ (A : Option Addr) (n c : Nat), v = .slice A n c ∧ xs.length = n ∧ (A = none → c = 0) ∧ ∀ W : World, w.heap.size ≤ W.heap.size → (∀ b, b < w.heap.size → ok b → W.heap[b]? = w.heap[b]?) → RdI W W.heap.size A xs
theorem IntsW.to {w w' : World} {ok ok' : Nat → Prop} {v : Value} {xs : List Int} (h : IntsW w ok v xs) (hb : w.heap.size ≤ w'.heap.size) (hk : ∀ b, b < w.heap.size → ok b → w'.heap[b]? = w.heap[b]?) (ho : ∀ b, b < w.heap.size → ok b → ok' b) : IntsW w' ok' v xs := by
  obtain ⟨A, n, c, e, h1, h2, h3⟩ := h
  exact ⟨A, n, c, e, h1, h2, fun W hW hWb => h3 W (Nat.le_trans hb hW) (fun b hb2 hok => (hWb b (Nat.lt_of_lt_of_le hb2 hb) (ho b hb2 hok)).trans (hk b hb2 hok))⟩
theorem IntsW.now {w : World} {ok : Nat → Prop} {A : Option Addr} {n c : Nat} {xs : List Int} (h : IntsW w ok (.slice A n c) xs) : xs.length = n ∧ (A = none → c = 0) ∧ RdI w w.heap.size A xs := by
  obtain ⟨A', n', c', e, h1, h2, h3⟩ := h
  simp only [Value.slice.injEq] at e
  obtain ⟨rfl, rfl, rfl⟩ := e
  exact ⟨h1, h2, h3 w (Nat.le_refl _) (fun _ _ _ => rfl)⟩
theorem intsW_own {w : World} {base : Nat} {A : Option Addr} {n c : Nat} {xs : List Int} (h : w.ownsRow base 3 1 (.slice A n c) n (flatI xs)) (hn : xs.length = n) : IntsW w (fun b => base ≤ b) (.slice A n c) xs :=
  ⟨A, n, c, rfl, hn, own_nil h, fun W hW hk => (owns_RdI (owns_agree h (fun b hb hbase => hk b hb hbase)) hn)⟩
end Go.Proofs.YtobjahlmjcnfoaaGreat

namespace Go.Proofs.YtobjahlmjcnfoaaGreat
namespace E
def sel (g : Int → Bool) : Nat → Nat → List Int → List Int
  | _, _, [] => []
  | P, G, k :: r => if 0 < P ∧ (g k = false ∨ 0 < G) then k :: sel g (P - 1) (if g k then G - 1 else G) r else sel g P G r
def cg (g : Int → Bool) (l : List Int) : Nat := l.countP g
def cu (g : Int → Bool) (l : List Int) : Nat := l.countP (fun k => !g k)
variable {g : Int → Bool}
theorem cg_cons (k : Int) (l : List Int) : cg g (k :: l) = cg g l + if g k then 1 else 0 := by unfold cg; rw [List.countP_cons]
theorem cu_cons (k : Int) (l : List Int) : cu g (k :: l) = cu g l + if g k then 0 else 1 := by
  unfold cu; rw [List.countP_cons]; cases g k <;> rfl
theorem cg_app (l r : List Int) : cg g (l ++ r) = cg g l + cg g r := by unfold cg; rw [List.countP_append]
theorem cu_app (l r : List Int) : cu g (l ++ r) = cu g l + cu g r := by unfold cu; rw [List.countP_append]
theorem cucg (l : List Int) : cu g l + cg g l = l.length := by
  induction l with
  | nil => rfl
  | cons a r ih => rw [cg_cons, cu_cons, List.length_cons]; cases g a <;> simp <;> omega
def crit (g : Int → Bool) (P G : Nat) (B : List Int) (p : Int) : Prop := if g p then cg g B < G ∧ cu g B + cg g B < P else cu g B + min (cg g B) G < P
instance (g : Int → Bool) (P G : Nat) (B : List Int) (p : Int) : Decidable (crit g P G B p) := by unfold crit; infer_instance
theorem sel_sub (P G : Nat) (X : List Int) : (sel g P G X).Sublist X := by
  induction X generalizing P G with
  | nil => exact List.Sublist.refl _
  | cons a r ih =>
    unfold sel
    split
    · exact (ih _ _).cons_cons _
    · exact (ih _ _).cons _
theorem mem_sel : ∀ (B : List Int) (P G : Nat) (p : Int) (R : List Int), (B ++ p :: R).Nodup → (p ∈ sel g P G (B ++ p :: R) ↔ crit g P G B p) := by
  intro B
  induction B with
  | nil =>
    intro P G p R hn
    have hpR : p ∉ R := (List.nodup_cons.1 hn).1
    show p ∈ sel g P G (p :: R) ↔ _
    unfold sel crit
    split
    · rename_i c
      simp only [List.mem_cons, true_or, true_iff]
      split
      · rename_i e; rw [e] at c; simp [cg, cu]; rcases c with ⟨c1, c2 | c2⟩; (cases c2); exact ⟨c2, c1⟩
      · simp [cg, cu]; exact c.1
    · rename_i c
      constructor
      · intro h; exact absurd ((sel_sub P G R).subset h) hpR
      · intro h
        exfalso
        apply c
        split at h
        · simp [cg, cu] at h; exact ⟨h.2, .inr h.1⟩
        · rename_i e; simp [cg, cu] at h; exact ⟨h, .inl (by simpa using e)⟩
  | cons b B ih =>
    intro P G p R hn
    have hn' : (B ++ p :: R).Nodup := (List.nodup_cons.1 hn).2
    have hpb : p ≠ b := fun e => (List.nodup_cons.1 hn).1 (by rw [← e]; simp)
    show p ∈ sel g P G (b :: (B ++ p :: R)) ↔ _
    unfold sel
    split
    · rename_i c
      rw [List.mem_cons, ih _ _ _ _ hn']
      unfold crit
      rw [cg_cons, cu_cons]
      cases hb : g b <;> cases hp : g p <;> simp [hpb] <;> rw [hb] at c <;> simp at c <;> omega
    · rename_i c
      rw [ih _ _ _ _ hn']
      unfold crit
      rw [cg_cons, cu_cons]
      cases hb : g b <;> cases hp : g p <;> rw [hb] at c <;> simp at c ⊢ <;> omega
theorem sel_length (P G : Nat) (X : List Int) : (sel g P G X).length = min P (cu g X + min (cg g X) G) := by
  induction X generalizing P G with
  | nil => simp [sel, cu, cg]
  | cons a r ih =>
    unfold sel
    rw [cg_cons, cu_cons]
    split
    · rename_i c
      rw [List.length_cons, ih]
      cases ha : g a <;> rw [ha] at c <;> simp at c ⊢ <;> omega
    · rename_i c
      rw [ih]
      cases ha : g a <;> rw [ha] at c <;> simp at c ⊢ <;> omega
theorem sel_cg (P G : Nat) (X : List Int) : cg g (sel g P G X) ≤ G := by
  induction X generalizing P G with
  | nil => simp [sel, cg]
  | cons a r ih =>
    unfold sel
    split
    · rename_i c
      rw [cg_cons]
      cases ha : g a <;> rw [ha] at c <;> simp at c ⊢
      · exact ih _ _
      · have := ih (P - 1) (G - 1); omega
    · exact ih _ _
theorem sel_cons (P G : Nat) (k : Int) (r : List Int) : sel g P G (k :: r) = if 0 < P ∧ (g k = false ∨ 0 < G) then k :: sel g (P - 1) (if g k then G - 1 else G) r else sel g P G r := rfl
theorem sel_app (P G : Nat) (B R : List Int) : sel g P G (B ++ R) = sel g P G B ++ sel g (P - (sel g P G B).length) (G - cg g (sel g P G B)) R := by
  induction B generalizing P G with
  | nil => simp [sel, cg]
  | cons a r ih =>
    rw [List.cons_append, sel_cons, sel_cons]
    split
    · rename_i c
      rw [ih, List.length_cons, cg_cons, List.cons_append]
      congr 2
      cases ha : g a <;> rw [ha] at c <;> simp at c ⊢ <;> (congr 1 <;> omega)
    · exact ih _ _

def need (g : Int → Bool) (P G : Nat) (B : List Int) (p : Int) : Nat :=
  if g p then max (cg g B + 1 - G) (cu g B + cg g B + 1 - P) else if P ≤ G then cu g B + cg g B + 1 - P else cu g B + min (cg g B) G + 1 - P
theorem need_zero (P G : Nat) (B : List Int) (p : Int) : need g P G B p = 0 ↔ crit g P G B p := by
  unfold need crit
  cases g p <;> simp
  · split <;> omega
  · omega
theorem need_erase (P G : Nat) (B : List Int) (p k : Int) : need g P G B p ≤ need g P G (B.erase k) p + 1 := by
  by_cases h : k ∈ B
  · have h1 := (List.perm_cons_erase h).countP_eq (fun k => g k)
    have h2 := (List.perm_cons_erase h).countP_eq (fun k => !g k)
    have e1 : cg g B = cg g (B.erase k) + if g k then 1 else 0 := by rw [← cg_cons]; exact h1
    have e2 : cu g B = cu g (B.erase k) + if g k then 0 else 1 := by rw [← cu_cons]; exact h2
    unfold need
    rw [e1, e2]
    cases g p <;> cases g k <;> simp <;> (try split) <;> omega
  · rw [List.erase_of_not_mem h]; omega
theorem two_cut {X : List Int} {B R C S : List Int} {p k : Int} (h1 : X = B ++ p :: R) (h2 : X = C ++ k :: S) (hne : k ≠ p) : k ∈ B ∨ ∃ D, C = B ++ p :: D := by
  by_cases hk : k ∈ B
  · exact .inl hk
  · right
    rw [h1] at h2
    rcases List.append_eq_append_iff.1 h2 with ⟨D, e1, e2⟩ | ⟨D, e1, e2⟩
    · cases D with
      | nil => simp at e2; exact absurd e2.1.symm hne
      | cons d D => simp at e2; obtain ⟨rfl, e2⟩ := e2; exact ⟨D, e1⟩
    · cases D with
      | nil => simp at e2; exact absurd e2.1 hne
      | cons d D =>
        simp at e2
        obtain ⟨rfl, e2⟩ := e2
        exact absurd (by rw [e1]; simp) hk
theorem mem_sel_iff {P G : Nat} {X B R : List Int} {p : Int} (hn : X.Nodup) (h : X = B ++ p :: R) : p ∈ sel g P G X ↔ crit g P G B p := by
  subst h; exact mem_sel B P G p R hn
theorem first_of {q : Int → Bool} {l : List Int} (h : 0 < l.countP q) : ∃ C k S, l = C ++ k :: S ∧ q k = true ∧ C.countP q = 0 := by
  induction l with
  | nil => simp at h
  | cons a r ih =>
    cases ha : q a with
    | true => exact ⟨[], a, r, rfl, ha, rfl⟩
    | false =>
      rw [List.countP_cons_of_neg (by rw [ha]; decide)] at h
      obtain ⟨C, k, S, e, hk, hc⟩ := ih h
      exact ⟨a :: C, k, S, by rw [e]; rfl, hk, by rw [List.countP_cons_of_neg (by rw [ha]; decide)]; exact hc⟩
theorem need_drop {P G : Nat} {X B R : List Int} {p k : Int} (hn : X.Nodup) (h : X = B ++ p :: R) (hp : 0 < need g P G B p) (hg : g p = true → 0 < G) (hk : k ∈ sel g P G X) (ha : g k = g p ∨ ∀ j ∈ sel g P G X, g j ≠ g p) : k ∈ B ∧ need g P G (B.erase k) p + 1 = need g P G B p := by
  have hnc : ¬ crit g P G B p := fun c => by rw [(need_zero P G B p).2 c] at hp; omega
  have hkX := (sel_sub P G X).subset hk
  obtain ⟨C, S, hC⟩ := List.append_of_mem hkX
  have hck := (mem_sel_iff hn hC).1 hk
  have hne : k ≠ p := fun e => hnc ((mem_sel_iff hn h).1 (e ▸ hk))
  have key : ∀ {C : List Int} {z : Int} {D : List Int}, C = B ++ p :: D → crit g P G C z → (if g p then (if g z then cg g B + 1 < G ∧ cu g B + cg g B + 1 < P else cu g B + min (cg g B + 1) G < P) else (if g z then cg g B < G ∧ cu g B + 1 + cg g B < P else cu g B + 1 + min (cg g B) G < P)) := by
    intro C z D e hc
    subst e
    unfold crit at hc
    rw [cg_app, cu_app, cg_cons, cu_cons] at hc
    cases hgp : g p <;> cases hgz : g z <;> rw [hgp, hgz] at hc <;> simp at hc ⊢ <;> omega
  have hsel : ∀ {C S : List Int} {z : Int}, X = C ++ z :: S → crit g P G C z → z ∈ sel g P G X := fun e c => (mem_sel_iff hn e).2 c
  have hpart : ∀ {C S : List Int} {z : Int}, B = C ++ z :: S → X = C ++ z :: (S ++ p :: R) := fun e => by rw [h, e]; simp
  have e12 : k ∈ B → cg g B = cg g (B.erase k) + (if g k then 1 else 0) ∧ cu g B = cu g (B.erase k) + if g k then 0 else 1 := fun hkB => by
    have h1 := (List.perm_cons_erase hkB).countP_eq (fun k => g k)
    have h2 := (List.perm_cons_erase hkB).countP_eq (fun k => !g k)
    exact ⟨by rw [← cg_cons]; exact h1, by rw [← cu_cons]; exact h2⟩
  have hB : k ∈ B → (k ∈ B ∧ ∀ a b, cg g B = a + (if g k then 1 else 0) → cu g B = b + (if g k then 0 else 1) → need g P G (B.erase k) p = (if g p then max (a + 1 - G) (b + a + 1 - P) else if P ≤ G then b + a + 1 - P else b + min a G + 1 - P)) := fun hkB => ⟨hkB, fun a b ea eb => by
    obtain ⟨h1, h2⟩ := e12 hkB
    have : cg g (B.erase k) = a := by omega
    have h3 : cu g (B.erase k) = b := by omega
    unfold need
    rw [this, h3]⟩
  have hin := two_cut h hC hne
  cases hgp : g p with
  | false =>
    have hnc' : P ≤ cu g B + min (cg g B) G := by
      unfold crit at hnc; rw [hgp] at hnc; simp at hnc; exact hnc
    have hkB : k ∈ B := by
      rcases hin with h1 | ⟨D, h1⟩
      · exact h1
      · have := key h1 hck; rw [hgp] at this; cases hgk : g k <;> rw [hgk] at this <;> simp at this <;> omega
    refine ⟨hkB, ?_⟩
    obtain ⟨h1, h2⟩ := e12 hkB
    have hpos := hp
    unfold need at hp ⊢
    rw [hgp] at hp ⊢
    simp only [Bool.false_eq_true, if_false] at hp ⊢
    cases hgk : g k with
    | false => rw [hgk] at h1 h2; simp at h1 h2; rw [h1, h2] at hp ⊢; split <;> rename_i c <;> simp [c] at hp <;> omega
    | true =>
      rw [hgk] at h1 h2; simp at h1 h2
      by_cases c : P ≤ G
      · rw [if_pos c] at hp ⊢; rw [if_pos c]; omega
      · -- one who is not protected would be in
        exfalso
        rw [hgp, hgk] at ha
        rcases ha with h3 | h3
        · cases h3
        · have hu : 0 < B.countP (fun k => !g k) := by show 0 < cu g B; omega
          obtain ⟨C', z, S', e, hz, hc0⟩ := first_of hu
          have hz' : g z = false := by simpa using hz
          refine h3 z (hsel (hpart e) ?_) hz'
          unfold crit
          rw [hz']
          have : cu g C' = 0 := hc0
          simp only [Bool.false_eq_true, if_false, this]
          omega
  | true =>
    have hG := hg hgp
    have hnc' : G ≤ cg g B ∨ P ≤ cu g B + cg g B := by
      unfold crit at hnc; rw [hgp] at hnc; simp at hnc
      by_cases c : cg g B < G
      · exact .inr (hnc c)
      · exact .inl (by omega)
    cases hgk : g k with
    | true =>
      have hkB : k ∈ B := by
        rcases hin with h1 | ⟨D, h1⟩
        · exact h1
        · have := key h1 hck; rw [hgp, hgk] at this; simp at this; omega
      refine ⟨hkB, ?_⟩
      obtain ⟨h1, h2⟩ := e12 hkB
      rw [hgk] at h1 h2; simp at h1 h2
      unfold need at hp ⊢
      rw [hgp] at hp ⊢
      simp only [if_true] at hp ⊢
      omega
    | false =>
      rw [hgp, hgk] at ha
      have h3 : ∀ j ∈ sel g P G X, g j = false := by
        rcases ha with h3 | h3
        · cases h3
        · exact fun j hj => by simpa using h3 j hj
      have huB : P ≤ cu g B := by
        by_cases c0 : 0 < cg g B
        · obtain ⟨C', z, S', e, hz, hc0⟩ := first_of (q := g) c0
          have hcz : cg g C' = 0 := hc0
          have hnz : ¬ crit g P G C' z := fun c => by have := h3 z (hsel (hpart e) c); rw [hz] at this; cases this
          unfold crit at hnz
          rw [hz, hcz] at hnz
          simp at hnz
          have : cu g B = cu g C' + cu g (z :: S') := by rw [e, cu_app]
          have := hnz hG
          omega
        · omega
      have hkB : k ∈ B := by
        rcases hin with h1 | ⟨D, h1⟩
        · exact h1
        · have := key h1 hck; rw [hgp, hgk] at this; simp at this; omega
      refine ⟨hkB, ?_⟩
      obtain ⟨h1, h2⟩ := e12 hkB
      rw [hgk] at h1 h2; simp at h1 h2
      unfold need at hp ⊢
      rw [hgp] at hp ⊢
      simp only [if_true] at hp ⊢
      omega
theorem countP_split (q m : Int → Bool) (l : List Int) : l.countP q = (l.filter m).countP q + (l.filter (fun k => !m k)).countP q := by
  induction l with
  | nil => rfl
  | cons a r ih =>
    rw [List.countP_cons, ih]
    cases ha : m a <;> simp [ha, List.countP_cons] <;> omega
theorem sel_full {P G : Nat} {X : List Int} : (sel g P G X).length ≤ P := by rw [sel_length]; omega
theorem mem_split {X : List Int} {y : Int} (h : y ∈ X) : ∃ B R, X = B ++ y :: R := List.append_of_mem h
theorem erase_append' {B R : List Int} {y k : Int} (hne : k ≠ y) : (B ++ y :: R).erase k = B.erase k ++ y :: (if k ∈ B then R else R.erase k) := by
  by_cases h : k ∈ B
  · rw [List.erase_append_left _ h, if_pos h]
  · rw [List.erase_append_right _ h, List.erase_of_not_mem h, if_neg h, List.erase_cons_tail (by simpa using fun e => hne e.symm)]
theorem countP_erase' (q : Int → Bool) {l : List Int} {k : Int} (h : k ∈ l) : l.countP q = (l.erase k).countP q + if q k then 1 else 0 := by
  rw [(List.perm_cons_erase h).countP_eq, List.countP_cons]
theorem sel_front {P G : Nat} {X S : List Int} {k : Int} (hX : X.Nodup) (hS : S.Nodup) (hSX : ∀ y, y ∈ S ↔ y ∈ sel g P G X) (hk : k ∈ S) (y : Int) :
    y ∈ sel g P G (S.erase k ++ X.filter (fun z => !S.contains z)) ↔ y ∈ sel g P G (X.erase k) := by
  have hsub : ∀ z ∈ S, z ∈ X := fun z hz => (sel_sub P G X).subset ((hSX z).1 hz)
  have hselN : (sel g P G X).Nodup := hX.sublist (sel_sub P G X)
  have hperm : S.Perm (sel g P G X) := (List.perm_ext_iff_of_nodup hS hselN).2 hSX
  have hSP : S.length ≤ P := by rw [hperm.length_eq]; exact sel_full
  have hSG : cg g S ≤ G := by show S.countP g ≤ G; rw [hperm.countP_eq]; exact sel_cg P G X
  have hZ : (S.erase k ++ X.filter (fun z => !S.contains z)).Nodup := by
    rw [List.nodup_append]
    refine ⟨hS.erase k, hX.filter _, fun a ha b hb e => ?_⟩
    have h1 := List.mem_of_mem_erase ha
    have h2 := (List.mem_filter.1 hb).2
    rw [e] at h1
    simp [h1] at h2
  have hXk : (X.erase k).Nodup := hX.erase k
  by_cases hyX : y ∈ X
  · by_cases hyk : y = k
    · subst hyk
      constructor
      · intro h
        exfalso
        rcases List.mem_append.1 ((sel_sub _ _ _).subset h) with h1 | h1
        · exact ((List.Nodup.mem_erase_iff hS).1 h1).1 rfl
        · have := (List.mem_filter.1 h1).2; simp [hk] at this
      · intro h
        exact absurd rfl ((List.Nodup.mem_erase_iff hX).1 ((sel_sub _ _ _).subset h)).1
    · obtain ⟨B, R, hBR⟩ := mem_split hyX
      have hyB : y ∉ B := fun h => by rw [hBR, List.nodup_append] at hX; exact hX.2.2 y h y (by simp) rfl
      have e2 : X.erase k = B.erase k ++ y :: (if k ∈ B then R else R.erase k) := by rw [hBR]; exact erase_append' (fun e => hyk e.symm)
      rw [mem_sel_iff hXk e2]
      by_cases hyS : y ∈ S
      · have h1 : crit g P G (B.erase k) y := by
          have h2 := (mem_sel_iff hX hBR).1 ((hSX y).1 hyS)
          by_cases hkB : k ∈ B
          · have c1 := countP_erase' (fun k => g k) hkB
            have c2 := countP_erase' (fun k => !g k) hkB
            unfold crit at h2 ⊢
            have c1' : cg g B = cg g (B.erase k) + _ := c1
            have c2' : cu g B = cu g (B.erase k) + _ := c2
            rw [c1', c2'] at h2
            cases hgy : g y <;> rw [hgy] at h2 <;> simp at h2 ⊢ <;> omega
          · rw [List.erase_of_not_mem hkB]; exact h2
        simp only [h1, iff_true]
        have hyE : y ∈ S.erase k := (List.Nodup.mem_erase_iff hS).2 ⟨hyk, hyS⟩
        obtain ⟨C, D, hCD⟩ := mem_split hyE
        refine (mem_sel_iff hZ (B := C) (R := D ++ X.filter (fun z => !S.contains z)) (by rw [hCD]; simp)).2 ?_
        have l1 := cucg (g := g) S
        have c1 := countP_erase' (fun k => g k) hk
        have c2 := countP_erase' (fun k => !g k) hk
        have c1' : cg g S = cg g (S.erase k) + _ := c1
        have c2' : cu g S = cu g (S.erase k) + _ := c2
        rw [hCD, cg_app, cg_cons] at c1'
        rw [hCD, cu_app, cu_cons] at c2'
        unfold crit
        cases hgy : g y <;> rw [hgy] at c1' c2' <;> simp at c1' c2' ⊢ <;> omega
      · have e1 : S.erase k ++ X.filter (fun z => !S.contains z) = (S.erase k ++ B.filter (fun z => !S.contains z)) ++ y :: R.filter (fun z => !S.contains z) := by
          rw [hBR, List.filter_append, List.filter_cons_of_pos (by simp [hyS])]; simp
        rw [mem_sel_iff hZ e1]
        have hnc : ¬ crit g P G B y := fun c => hyS ((hSX y).2 ((mem_sel_iff hX hBR).2 c))
        have hsel : ∀ {C D : List Int} {z : Int}, X = C ++ z :: D → (z ∈ S ↔ crit g P G C z) := fun {C D z} e => (hSX z).trans (mem_sel_iff hX e)
      
        have hperm2 : ∀ q : Int → Bool, S.countP q = (B.filter (fun z => S.contains z)).countP q + (R.filter (fun z => S.contains z)).countP q := fun q => by
          have : S.Perm (X.filter (fun z => S.contains z)) := (List.perm_ext_iff_of_nodup hS (hX.filter _)).2 fun z => by
            rw [List.mem_filter]; simp; exact fun h => hsub z h
          rw [this.countP_eq, hBR, List.filter_append, List.filter_cons_of_neg (by simpa using hyS), List.countP_append]
        have hBs : ∀ q : Int → Bool, B.countP q = (B.filter (fun z => S.contains z)).countP q + (B.filter (fun z => !S.contains z)).countP q := fun q => countP_split q _ B
        have hafter : ∀ z ∈ R, z ∈ S → ∃ C D, X = C ++ z :: D ∧ cg g B + (if g y then 1 else 0) ≤ cg g C ∧ cu g B + (if g y then 0 else 1) ≤ cu g C := fun z hzR hzS => by
          obtain ⟨C, D, e⟩ := mem_split hzR
          refine ⟨B ++ y :: C, D, by rw [hBR, e]; simp, ?_, ?_⟩
          · rw [cg_app, cg_cons]; omega
          · rw [cu_app, cu_cons]; omega
        have ck1 := countP_erase' (fun k => g k) hk
        have ck2 := countP_erase' (fun k => !g k) hk
        have ck1' : cg g S = cg g (S.erase k) + _ := ck1
        have ck2' : cu g S = cu g (S.erase k) + _ := ck2
        have p1 : cg g S = _ := hperm2 (fun k => g k)
        have p2 : cu g S = _ := hperm2 (fun k => !g k)
        have b1 : cg g B = _ := hBs (fun k => g k)
        have b2 : cu g B = _ := hBs (fun k => !g k)
        have eB : k ∈ B → cg g B = cg g (B.erase k) + (if g k then 1 else 0) ∧ cu g B = cu g (B.erase k) + (if (!g k) then 1 else 0) := fun h => ⟨countP_erase' (fun k => g k) h, countP_erase' (fun k => !g k) h⟩
        have kin : k ∈ B ∨ k ∈ R := by
          have := hsub k hk
          rw [hBR] at this
          rcases List.mem_append.1 this with h | h
          · exact .inl h
          · rcases List.mem_cons.1 h with h | h
            · exact absurd h.symm hyk
            · exact .inr h
        by_cases hA : P ≤ cu g B + min (cg g B) G
        · -- nobody behind it is in
          have hR0 : R.filter (fun z => S.contains z) = [] := by
            rw [List.filter_eq_nil_iff]
            intro z hzR hzS
            have hzS' : z ∈ S := by simpa using hzS
            obtain ⟨C, D, e, g1, g2⟩ := hafter z hzR hzS'
            have := (hsel e).1 hzS'
            unfold crit at this
            cases hgz : g z <;> rw [hgz] at this <;> simp at this <;> omega
          have hkB : k ∈ B := by
            rcases kin with h | h
            · exact h
            · exfalso
              have : k ∈ R.filter (fun z => S.contains z) := List.mem_filter.2 ⟨h, by simpa using hk⟩
              rw [hR0] at this; cases this
          obtain ⟨eb1, eb2⟩ := eB hkB
          rw [hR0] at p1 p2
          simp only [List.countP_nil, Nat.add_zero] at p1 p2
          have q1 : cg g (S.erase k ++ B.filter (fun z => !S.contains z)) = cg g (B.erase k) := by
            rw [cg_app]
            show _ + (B.filter (fun z => !S.contains z)).countP (fun k => g k) = _
            omega
          have q2 : cu g (S.erase k ++ B.filter (fun z => !S.contains z)) = cu g (B.erase k) := by
            rw [cu_app]
            show _ + (B.filter (fun z => !S.contains z)).countP (fun k => !g k) = _
            omega
          unfold crit
          rw [q1, q2]
        · -- it is protected, and there is no room for such ones
          have hgy : g y = true := by
            cases e : g y with
            | true => rfl
            | false => exfalso; apply hnc; unfold crit; rw [e]; simp; omega
          have hcB : G ≤ cg g B := by
            unfold crit at hnc; rw [hgy] at hnc; simp at hnc; omega
          have hRg : (R.filter (fun z => S.contains z)).countP (fun k => g k) = 0 := by
            rw [List.countP_eq_zero]
            intro z hz hgz
            obtain ⟨hzR, hzS⟩ := List.mem_filter.1 hz
            have hzS' : z ∈ S := by simpa using hzS
            obtain ⟨C, D, e, g1, g2⟩ := hafter z hzR hzS'
            have := (hsel e).1 hzS'
            unfold crit at this
            rw [hgz] at this
            simp at this
            omega
          have hBu : (B.filter (fun z => !S.contains z)).countP (fun k => !g k) = 0 := by
            rw [List.countP_eq_zero]
            intro z hz hgz
            obtain ⟨hzB, hzS⟩ := List.mem_filter.1 hz
            have hgz' : g z = false := by simpa using hgz
            obtain ⟨C, D, e⟩ := mem_split hzB
            have : z ∈ S := (hsel (show X = C ++ z :: (D ++ y :: R) by rw [hBR, e]; simp)).2 (by
              unfold crit
              rw [hgz']
              simp only [Bool.false_eq_true, if_false]
              have h1 : cg g B = cg g C + cg g (z :: D) := by rw [e, cg_app]
              have h2 : cu g B = cu g C + cu g (z :: D) := by rw [e, cu_app]
              rw [cu_cons, hgz'] at h2
              simp at h2
              omega)
            simp [this] at hzS
          rw [hRg] at p1
          rw [hBu] at b2
          have q1 : cg g (S.erase k ++ B.filter (fun z => !S.contains z)) + (if g k then 1 else 0) = cg g B := by
            rw [cg_app]
            show _ + (B.filter (fun z => !S.contains z)).countP (fun k => g k) + _ = _
            omega
          have q2 : cu g (S.erase k ++ B.filter (fun z => !S.contains z)) = cu g (S.erase k) := by
            rw [cu_app]
            show _ + (B.filter (fun z => !S.contains z)).countP (fun k => !g k) = _
            omega
          unfold crit
          rw [hgy, q2]
          simp only [if_true]
          cases hgk : g k with
          | false =>
            rw [hgk] at q1
            have q3 : cg g (B.erase k) = cg g B := by
              by_cases hkB : k ∈ B
              · have := (eB hkB).1; rw [hgk] at this; simp at this; exact this.symm
              · rw [List.erase_of_not_mem hkB]
            rw [if_neg (by decide), Nat.add_zero] at q1
            rw [q1, q3]
            constructor <;> (intro h; omega)
          | true =>
            have hkB : k ∈ B := by
              rcases kin with h | h
              · exact h
              · exfalso
                have h1 : k ∈ R.filter (fun z => S.contains z) := List.mem_filter.2 ⟨h, by simpa using hk⟩
                have := List.countP_eq_zero.1 hRg k h1
                exact this hgk
            obtain ⟨eb1, eb2⟩ := eB hkB
            rw [hgk] at q1 eb1 eb2 ck1' ck2'
            rw [if_pos rfl] at q1
            simp at eb1 eb2 ck1' ck2'
          
            have hu : cu g S + G ≤ P := by
              have e3 := sel_app (g := g) P G B (y :: R)
              rw [← hBR] at e3
              have l1 := sel_length (g := g) P G B
              have l2 := cucg (g := g) (sel g P G B)
              have l3 := sel_cg (g := g) P G B
              have l4 : cu g (sel g P G B) ≤ cu g B := (sel_sub P G B).countP_le
              have l5 : cg g S = cg g (sel g P G X) := hperm.countP_eq _
              have l6 : cg g (sel g P G X) = cg g (sel g P G B) + cg g (sel g (P - (sel g P G B).length) (G - cg g (sel g P G B)) (y :: R)) := by rw [e3, cg_app]
              have l7 := cucg (g := g) S
              omega
            constructor <;> (intro h; omega)
  · constructor
    · intro h
      exfalso
      rcases List.mem_append.1 ((sel_sub _ _ _).subset h) with h1 | h1
      · exact hyX (hsub y (List.mem_of_mem_erase h1))
      · exact hyX (List.mem_filter.1 h1).1
    · intro h
      exact absurd (List.mem_of_mem_erase ((sel_sub _ _ _).subset h)) hyX

theorem sel_some {P G : Nat} {X B R : List Int} {p : Int} (h : X = B ++ p :: R) (hg : g p = true → 0 < G) (hP : 0 < P) : sel g P G X ≠ [] := by
  intro e
  have hl := sel_length (g := g) P G X
  rw [e, h, cg_app, cu_app, cg_cons, cu_cons] at hl
  cases hp : g p <;> rw [hp] at hl <;> simp at hl
  · omega
  · have := hg hp; omega
end E
end Go.Proofs.YtobjahlmjcnfoaaGreat

namespace Go.Proofs.YtobjahlmjcnfoaaGreat
namespace E

theorem fill_sel (s : St) (lt : Bool) (P G : Nat) (hP : s.f.places = (P : Int)) (hG : s.f.guards = (G : Int)) : ∀ (l m : List Int) (gc : Nat), s.fill lt l m (gc : Int) = m ++ sel (fun k => (s.pl k).grd) (P - m.length) (G - gc) (l.filter (fun k => (s.pl k).sgn || !lt))
  | [], m, gc => by simp [St.fill, sel]
  | k :: r, m, gc => by
    unfold St.fill
    rw [hP, hG]
    by_cases hq : ((s.pl k).sgn || !lt) = true
    · have hq' : (s.pl k).sgn = true ∨ lt = false := by
        cases h1 : (s.pl k).sgn with
        | true => exact .inl rfl
        | false => rw [h1] at hq; exact .inr (by simpa using hq)
      rw [List.filter_cons_of_pos (p := fun k => (s.pl k).sgn || !lt) (a := k) hq, sel_cons]
      by_cases hc : (m.length : Int) < (P : Int) ∧ ((gc : Int) < (G : Int) ∨ (s.pl k).grd = false)
      · rw [if_pos ⟨hc.1, hq', hc.2⟩, if_pos (by
          refine ⟨by omega, ?_⟩
          rcases hc.2 with h | h
          · exact .inr (by omega)
          · exact .inl h)]
        have e1 : (gc : Int) + one (s.pl k).grd = ((gc + (if (s.pl k).grd then 1 else 0) : Nat) : Int) := by
          cases (s.pl k).grd <;> simp [one]
        rw [e1, fill_sel s lt P G hP hG r (m ++ [k])]
        rw [List.length_append, List.append_assoc]
        congr 1
        show [k] ++ _ = k :: _
        rw [List.singleton_append]
        congr 1
        cases hg : (s.pl k).grd <;> simp <;> congr 1
      · rw [if_neg (fun h => hc ⟨h.1, h.2.2⟩), if_neg (fun h => hc ⟨by omega, by
          rcases h.2 with h1 | h1
          · exact .inr h1
          · exact .inl (by omega)⟩)]
        exact fill_sel s lt P G hP hG r m gc
    · rw [List.filter_cons_of_neg (p := fun k => (s.pl k).sgn || !lt) (a := k) hq, if_neg (fun h => hq (by
        rcases h.2.1 with h1 | h1
        · rw [h1]; rfl
        · rw [h1]; simp))]
      exact fill_sel s lt P G hP hG r m gc

def quitN (h k : Int) : Nt := ⟨0, h, 4, k, 0⟩
theorem quit_late (s : St) (h k : Int) : Late s (s.said (quitN h k)) (quitN h k) := by
  unfold St.said
  dsimp only
  have k12 : ¬ ((quitN h k).kind = 1 ∨ (quitN h k).kind = 2) := by show ¬ ((4 : Int) = 1 ∨ (4 : Int) = 2); decide
  have k3 : ¬ (quitN h k).kind = 3 := by show ¬ (4 : Int) = 3; decide
  have k4 : (quitN h k).kind = 4 := rfl
  rw [if_neg k12, if_neg k3, if_pos k4]
  by_cases hcond : late s.f (quitN h k).hour = true ∧ (s.pl (quitN h k).player).card = true ∧ (s.pl (quitN h k).player).quit = false
  · rw [if_pos hcond]
    exact put_late rfl rfl rfl rfl rfl rfl rfl (by rw [k4]; simp) id rfl rfl rfl (fun h => by rw [hcond.1] at h; cases h)
  · rw [if_neg hcond]
    exact put_late rfl rfl rfl rfl rfl rfl rfl (by rw [k4]; simp) id rfl rfl rfl (fun _ => rfl)
theorem quit_places {s : St} {h k : Int} (he : (s.pl k).entry = true) : (s.said (quitN h k)).f.places = s.f.places := by
  unfold St.said
  dsimp only
  have k12 : ¬ ((quitN h k).kind = 1 ∨ (quitN h k).kind = 2) := by show ¬ ((4 : Int) = 1 ∨ (4 : Int) = 2); decide
  have k3 : ¬ (quitN h k).kind = 3 := by show ¬ (4 : Int) = 3; decide
  have k4 : (quitN h k).kind = 4 := rfl
  rw [if_neg k12, if_neg k3, if_pos k4, if_neg (fun hc => by
    have h1 : (s.pl k).card = true := hc.2.1
    unfold Pl.entry at he
    rw [h1] at he
    simp at he)]
  rfl
structure Tr (h : Int) (s : St) (X : List Int) : Prop where
  ok : StOk s
  turns : 0 ≤ s.turns
  mnd : s.main.Nodup
  ment : ∀ k ∈ s.main, (s.pl k).entry = true
  p0 : 0 ≤ s.f.places
  g0 : 0 ≤ s.f.guards
  nd : X.Nodup
  sel : ∀ y, y ∈ s.main ↔ y ∈ sel (fun k => (s.pl k).grd) s.f.places.toNat s.f.guards.toNat X
  early : late s.f h = false → X = s.order ∧ s.main = s.greedy
  rest : late s.f h = true → s.order.filter (fun k => !s.main.contains k && (s.pl k).sgn) = X.filter (fun k => !s.main.contains k)
theorem greedy_sel {s : St} (hp : 0 ≤ s.f.places) (hg : 0 ≤ s.f.guards) : s.greedy = E.sel (fun k => (s.pl k).grd) s.f.places.toNat s.f.guards.toNat s.order := by
  unfold St.greedy
  have := fill_sel s false s.f.places.toNat s.f.guards.toNat (by omega) (by omega) s.order [] 0
  rw [List.filter_eq_self.2 (fun k _ => by simp)] at this
  simpa using this
theorem guardsOf_cg (s : St) (l : List Int) : s.guardsOf l = ((cg (fun k => (s.pl k).grd) l : Nat) : Int) := by
  induction l with
  | nil => rfl
  | cons a r ih =>
    rw [cg_cons]
    have : s.guardsOf (a :: r) = one (s.pl a).grd + s.guardsOf r := by simp [St.guardsOf]
    rw [this, ih]
    cases (s.pl a).grd <;> simp [one] <;> omega
theorem sel_fit {g : Int → Bool} : ∀ (P G : Nat) (l : List Int), l.length ≤ P → cg g l ≤ G → E.sel g P G l = l
  | _, _, [], _, _ => rfl
  | P, G, k :: r, h1, h2 => by
    rw [sel_cons]
    rw [List.length_cons] at h1
    rw [cg_cons] at h2
    rw [if_pos (by
      refine ⟨by omega, ?_⟩
      cases hk : g k with
      | false => exact .inl rfl
      | true => rw [hk] at h2; simp at h2; exact .inr (by omega))]
    rw [sel_fit (P - 1) _ r (by omega) (by cases hk : g k <;> rw [hk] at h2 <;> simp at h2 ⊢ <;> omega)]
theorem sel_none {g : Int → Bool} : ∀ (P G : Nat) (l : List Int), (∀ k ∈ l, P = 0 ∨ g k = true ∧ G = 0) → E.sel g P G l = []
  | _, _, [], _ => rfl
  | P, G, k :: r, h => by
    have h1 := h k (List.mem_cons_self ..)
    rw [sel_cons, if_neg (by
      rintro ⟨c1, c2⟩
      rcases h1 with h2 | ⟨h2, h3⟩
      · omega
      · rw [h2] at c2; rcases c2 with c2 | c2
        · cases c2
        · omega)]
    exact sel_none P G r (fun j hj => h j (List.mem_cons_of_mem _ hj))
theorem sel_congr {g g' : Int → Bool} (h : ∀ k, g' k = g k) (P G : Nat) (l : List Int) : E.sel g' P G l = E.sel g P G l := by
  have : g' = g := funext h
  rw [this]
theorem Tr.quit {h : Int} {s : St} {X : List Int} (t : Tr h s X) {k : Int} (hk : k ∈ s.main) : Tr h (s.take (quitN h k)) (X.erase k) := by
  have hke := t.ment k hk
  have hkn := t.ok.main k hk
  have hkr := t.ok.range k hkn
  have hL := quit_late s h k
  have hpl := quit_places (h := h) hke
  have hu := said_ok t.ok (quitN h k) hkr t.turns
  have hts := take_ok t.ok (quitN h k) hkr t.turns
  have hkX : k ∈ X := (sel_sub _ _ _).subset ((t.sel k).1 hk)
  have hent : ∀ j ∈ s.order, ((s.said (quitN h k)).pl j).entry = (j != k) := fun j hj => by
    by_cases e : j = k
    · subst e
      have h1 := hL.quit j
      have : ((s.said (quitN h j)).pl j).quit = true := by rw [h1]; simp [quitN]
      unfold Pl.entry
      rw [this]; simp
    · rw [hL.other j e, (order_mem.1 hj).2]; simp [e]
  have hord : (s.said (quitN h k)).order = s.order.erase k := by
    rw [late_order t.ok hu.1 hL, (order_nodup t.ok).erase_eq_filter]
    exact List.filter_congr hent
  have hgrd : ∀ j, ((s.take (quitN h k)).pl j).grd = (s.pl j).grd := fun j => hL.grd j
  have hpl2 : (s.take (quitN h k)).f.places = s.f.places := hpl
  have hgd2 : (s.take (quitN h k)).f.guards = s.f.guards := hL.guards
  have hlt : ∀ z, late (s.take (quitN h k)).f z = late s.f z := fun z => said_late s (quitN h k) z
  have hordT : (s.take (quitN h k)).order = s.order.erase k := hord
  have hselc : ∀ Y, E.sel (fun j => ((s.take (quitN h k)).pl j).grd) (s.take (quitN h k)).f.places.toNat (s.take (quitN h k)).f.guards.toNat Y = E.sel (fun j => (s.pl j).grd) s.f.places.toNat s.f.guards.toNat Y := fun Y => by
    rw [hpl2, hgd2]; exact sel_congr hgrd _ _ _
  cases hl : late s.f h with
  | false =>
    obtain ⟨hX, hm⟩ := t.early hl
    have hgreedy : (s.take (quitN h k)).main = (s.take (quitN h k)).greedy := by
      rw [greedy_take]
      unfold St.take
      rw [show late s.f (quitN h k).hour = false from hl, settle_early]
    have hm2 : (s.take (quitN h k)).main = E.sel (fun j => (s.pl j).grd) s.f.places.toNat s.f.guards.toNat (X.erase k) := by
      rw [hgreedy, greedy_sel (by rw [hpl2]; exact t.p0) (by rw [hgd2]; exact t.g0), hselc, hordT, hX]
    refine ⟨hts.1, hts.2, ?_, main_entry s _, by rw [hpl2]; exact t.p0, by rw [hgd2]; exact t.g0, t.nd.erase k, fun y => by rw [hselc, hm2], fun _ => ⟨by rw [hordT, hX], hgreedy⟩, fun hc => by rw [hlt, hl] at hc; cases hc⟩
    rw [hm2]
    exact (t.nd.erase k).sublist (sel_sub _ _ _)
  | true =>
    have hrest := t.rest hl
  
    have hm1 : s.main.filter (fun j => true && ((s.said (quitN h k)).pl j).entry) = s.main.erase k := by
      rw [t.mnd.erase_eq_filter]
      refine List.filter_congr fun j hj => ?_
      rw [Bool.true_and]
      by_cases e : j = k
      · subst e
        have := hent j (order_mem.2 ⟨hkn, hke⟩)
        rw [this]
      · rw [hL.other j e, t.ment j hj]; simp [e]
    have hW : ((s.order.erase k).filter (fun j => !(s.main.erase k).contains j)).filter (fun j => ((s.said (quitN h k)).pl j).sgn || !true) = X.filter (fun j => !s.main.contains j) := by
      rw [← hrest, (order_nodup t.ok).erase_eq_filter, List.filter_filter, List.filter_filter]
      refine List.filter_congr fun j hj => ?_
      by_cases e : j = k
      · subst e; simp [hk]
      · rw [hL.other j e]
        have e2 : (s.main.erase k).contains j = s.main.contains j := by
          rw [Bool.eq_iff_iff]
          simp only [List.contains_iff_mem]
          rw [List.Nodup.mem_erase_iff t.mnd]
          exact ⟨fun h => h.2, fun h => ⟨e, h⟩⟩
        rw [e2]
        cases (s.pl j).sgn <;> cases s.main.contains j <;> simp [e]
    have hmain : (s.take (quitN h k)).main = (s.said (quitN h k)).fill true ((s.order.erase k).filter (fun j => !(s.main.erase k).contains j)) (s.main.erase k) ((s.said (quitN h k)).guardsOf (s.main.erase k)) := by
      unfold St.take
      rw [show late s.f (quitN h k).hour = true from hl]
      unfold St.settle
      dsimp only
      rw [hL.main, hm1]
      unfold St.alts
      have e3 : ({ (s.said (quitN h k)) with main := s.main.erase k } : St).order = s.order.erase k := hord
      rw [e3]
    have hcg : (s.said (quitN h k)).guardsOf (s.main.erase k) = ((cg (fun j => (s.pl j).grd) (s.main.erase k) : Nat) : Int) := by
      rw [guardsOf_cg]
      have : (fun j => ((s.said (quitN h k)).pl j).grd) = (fun j => (s.pl j).grd) := funext hL.grd
      rw [this]
    have hfull : s.main.length ≤ s.f.places.toNat ∧ cg (fun j => (s.pl j).grd) s.main ≤ s.f.guards.toNat := by
      have hp : s.main.Perm (E.sel (fun k => (s.pl k).grd) s.f.places.toNat s.f.guards.toNat X) := (List.perm_ext_iff_of_nodup t.mnd (t.nd.sublist (sel_sub _ _ _))).2 t.sel
      exact ⟨by rw [hp.length_eq]; exact sel_full, by show s.main.countP _ ≤ _; rw [hp.countP_eq]; exact sel_cg _ _ _⟩
    have hfit : E.sel (fun j => (s.pl j).grd) s.f.places.toNat s.f.guards.toNat (s.main.erase k) = s.main.erase k := by
      refine sel_fit _ _ _ (Nat.le_trans (List.length_erase_le ..) hfull.1) (Nat.le_trans ?_ hfull.2)
      exact (List.erase_sublist).countP_le
    have hmsel : (s.take (quitN h k)).main = E.sel (fun j => (s.pl j).grd) s.f.places.toNat s.f.guards.toNat (s.main.erase k ++ X.filter (fun j => !s.main.contains j)) := by
      rw [hmain, hcg, fill_sel (s.said (quitN h k)) true s.f.places.toNat s.f.guards.toNat (by rw [hpl]; have := t.p0; omega) (by rw [hL.guards]; have := t.g0; omega), hW, sel_app, hfit]
      congr 1
      exact sel_congr hL.grd _ _ _
    have hsel2 : ∀ y, y ∈ (s.take (quitN h k)).main ↔ y ∈ E.sel (fun j => (s.pl j).grd) s.f.places.toNat s.f.guards.toNat (X.erase k) := fun y => by
      rw [hmsel]
      exact sel_front t.nd t.mnd t.sel hk y
    have hsub : ∀ j ∈ s.main, j ≠ k → j ∈ (s.take (quitN h k)).main := fun j hj hne => by
      rw [hmain]
      exact fill_keep _ _ _ _ ((List.Nodup.mem_erase_iff t.mnd).2 ⟨hne, hj⟩)
    have hmnd : (s.take (quitN h k)).main.Nodup := by
      rw [hmsel]
      refine List.Nodup.sublist (sel_sub _ _ _) ?_
      rw [List.nodup_append]
      refine ⟨t.mnd.erase k, t.nd.filter _, fun a ha b hb e => ?_⟩
      have h1 := List.mem_of_mem_erase ha
      have h2 := (List.mem_filter.1 hb).2
      rw [e] at h1
      simp [h1] at h2
    have hknot : k ∉ (s.take (quitN h k)).main := fun hc => by
      have := main_entry s (quitN h k) k hc
      have h1 : ((s.take (quitN h k)).pl k).entry = _ := hent k (order_mem.2 ⟨hkn, hke⟩)
      rw [h1] at this
      simp at this
    refine ⟨hts.1, hts.2, hmnd, main_entry s _, by rw [hpl2]; exact t.p0, by rw [hgd2]; exact t.g0, t.nd.erase k, fun y => (by rw [hselc]; exact hsel2 y), fun hc => (by rw [hlt, hl] at hc; cases hc), fun _ => ?_⟩
    rw [hordT, (order_nodup t.ok).erase_eq_filter, t.nd.erase_eq_filter, List.filter_filter, List.filter_filter]
  
    have e5 : ∀ (L : List Int) (q : Int → Bool), L.filter (fun j => (!(s.take (quitN h k)).main.contains j && q j) && (j != k)) = (L.filter (fun j => !s.main.contains j && q j)).filter (fun j => !(s.take (quitN h k)).main.contains j) := fun L q => by
      rw [List.filter_filter]
      refine List.filter_congr fun j _ => ?_
      by_cases e : j = k
      · subst e; simp [hk]
      · by_cases hjm : j ∈ s.main
        · have := hsub j hjm e
          simp [hjm, this]
        · simp [hjm, e]
    have e6 := e5 s.order (fun j => ((s.take (quitN h k)).pl j).sgn)
    have e7 := e5 X (fun _ => true)
    have e8 : s.order.filter (fun j => !s.main.contains j && ((s.take (quitN h k)).pl j).sgn) = s.order.filter (fun j => !s.main.contains j && (s.pl j).sgn) := by
      refine List.filter_congr fun j _ => ?_
      by_cases e : j = k
      · subst e; simp [hk]
      · have : (s.take (quitN h k)).pl j = s.pl j := hL.other j e
        rw [this]
    rw [e8, hrest] at e6
    simp only [Bool.and_true] at e7
    rw [e6, e7]
end E
end Go.Proofs.YtobjahlmjcnfoaaGreat

namespace Go.Proofs.YtobjahlmjcnfoaaGreat
namespace E

def bef (X : List Int) (y : Int) : List Int := X.take (X.findIdx (· == y))
theorem bef_split {X : List Int} {y : Int} (h : y ∈ X) : X = bef X y ++ y :: X.drop (X.findIdx (· == y) + 1) := by
  have hlt : X.findIdx (· == y) < X.length := List.findIdx_lt_length_of_exists ⟨y, h, by simp⟩
  have he := List.findIdx_getElem (w := hlt) (p := (· == y))
  have e1 := List.drop_eq_getElem_cons hlt
  have e2 := List.take_append_drop (X.findIdx (· == y)) X
  rw [e1, beq_iff_eq.1 he] at e2
  exact e2.symm
theorem bef_of {X B R : List Int} {y : Int} (hn : X.Nodup) (h : X = B ++ y :: R) : bef X y = B := by
  have hy : y ∉ B := fun hb => by
    rw [h, List.nodup_append] at hn
    exact hn.2.2 y hb y (by simp) rfl
  unfold bef
  rw [h, List.findIdx_append]
  have h1 : B.findIdx (· == y) = B.length := List.findIdx_eq_length.2 (fun z hz => by
    simp only [beq_eq_false_iff_ne]
    rintro rfl
    exact hy hz)
  rw [h1, if_neg (by omega), List.findIdx_cons]
  simp
def needX (h : Int) (s : St) (X : List Int) (y : Int) : Option Nat :=
  if y ∈ X ∧ ((s.pl y).grd = true → 0 < s.f.guards.toNat) then some (need (fun k => (s.pl k).grd) s.f.places.toNat s.f.guards.toNat (bef X y) y) else none
theorem needX_zero {h : Int} {s : St} {X : List Int} (t : Tr h s X) (y : Int) : needX h s X y = some 0 ↔ y ∈ s.main := by
  unfold needX
  constructor
  · intro hh
    split at hh
    · rename_i c
      have h0 := (need_zero _ _ _ _).1 (Option.some.inj hh)
      exact (t.sel y).2 ((mem_sel_iff t.nd (bef_split c.1)).2 h0)
    · cases hh
  · intro hm
    have hs := (t.sel y).1 hm
    have hX := (sel_sub _ _ _).subset hs
    have hc := (mem_sel_iff t.nd (bef_split hX)).1 hs
    have hg : (s.pl y).grd = true → 0 < s.f.guards.toNat := fun hg => by
      unfold crit at hc
      rw [if_pos (show (fun k => (s.pl k).grd) y = true from hg)] at hc
      omega
    rw [if_pos ⟨hX, hg⟩, (need_zero _ _ _ _).2 hc]
theorem erase_bef {X : List Int} {y k : Int} (hn : X.Nodup) (hy : y ∈ X) (hne : k ≠ y) : bef (X.erase k) y = (bef X y).erase k := by
  have e := bef_split hy
  have hn' : (X.erase k).Nodup := hn.erase k
  refine bef_of hn' (R := if k ∈ bef X y then X.drop (X.findIdx (· == y) + 1) else (X.drop (X.findIdx (· == y) + 1)).erase k) ?_
  conv => lhs; rw [e]
  exact erase_append' hne
theorem quit_kept {h k : Int} {s : St} (he : (s.pl k).entry = true) : (s.take (quitN h k)).f.places = s.f.places ∧ (s.take (quitN h k)).f.guards = s.f.guards ∧ ∀ j, ((s.take (quitN h k)).pl j).grd = (s.pl j).grd :=
  ⟨quit_places he, (quit_late s h k).guards, fun j => (quit_late s h k).grd j⟩
theorem needX_quit {h : Int} {s : St} {X : List Int} (t : Tr h s X) {k y : Int} (hk : k ∈ s.main) (hy : y ∉ s.main) : needX h (s.take (quitN h k)) (X.erase k) y = (if y ∈ X ∧ ((s.pl y).grd = true → 0 < s.f.guards.toNat) then some (need (fun k => (s.pl k).grd) s.f.places.toNat s.f.guards.toNat ((bef X y).erase k) y) else none) := by
  obtain ⟨q1, q2, q3⟩ := quit_kept (h := h) (t.ment k hk)
  have hne : k ≠ y := fun e => hy (e ▸ hk)
  unfold needX
  rw [q1, q2, q3]
  have e1 : (fun j => ((s.take (quitN h k)).pl j).grd) = (fun j => (s.pl j).grd) := funext q3
  rw [e1]
  have e2 : y ∈ X.erase k ↔ y ∈ X := by
    rw [List.Nodup.mem_erase_iff t.nd]
    exact ⟨fun h => h.2, fun h => ⟨fun e => hne e.symm, h⟩⟩
  by_cases c : y ∈ X ∧ ((s.pl y).grd = true → 0 < s.f.guards.toNat)
  · rw [if_pos c, if_pos ⟨e2.2 c.1, c.2⟩, erase_bef t.nd c.1 hne]
  · rw [if_neg c, if_neg (fun h => c ⟨e2.1 h.1, h.2⟩)]
theorem needX_less {h : Int} {s : St} {X : List Int} (t : Tr h s X) {k y : Int} (hk : k ∈ s.main) (hy : y ∉ s.main) {n : Nat} (hn : needX h s X y = some n) : ∃ m, needX h (s.take (quitN h k)) (X.erase k) y = some m ∧ n ≤ m + 1 := by
  rw [needX_quit t hk hy]
  unfold needX at hn
  split at hn
  · rename_i c
    rw [if_pos c]
    refine ⟨_, rfl, ?_⟩
    rw [← Option.some.inj hn]
    exact need_erase _ _ _ _ _
  · cases hn
theorem quitter_spec {s : St} (hm : s.main ≠ []) (y : Int) : s.quitter y ∈ s.main ∧ ((s.pl (s.quitter y)).grd = (s.pl y).grd ∨ ∀ j ∈ s.main, (s.pl j).grd ≠ (s.pl y).grd) := by
  unfold St.quitter
  cases e : s.main.findIdx? (fun o => (s.pl o).grd == (s.pl y).grd) with
  | some i =>
    dsimp only
    obtain ⟨h1, h2, _⟩ := List.findIdx?_eq_some_iff_getElem.1 e
    rw [List.getD_eq_getElem?_getD, List.getElem?_eq_getElem h1]
    exact ⟨List.getElem_mem h1, .inl (beq_iff_eq.1 h2)⟩
  | none =>
    dsimp only
    rw [List.findIdx?_eq_none_iff] at e
    refine ⟨?_, .inr fun j hj => by simpa using e j hj⟩
    cases hc : s.main with
    | nil => exact absurd hc hm
    | cons a r => exact List.mem_cons_self ..
theorem needX_best {h : Int} {s : St} {X : List Int} (t : Tr h s X) {y : Int} (hy : y ∉ s.main) {n : Nat} (hn : needX h s X y = some n) (hP : 0 < s.f.places) : s.main ≠ [] ∧ needX h (s.take (quitN h (s.quitter y))) (X.erase (s.quitter y)) y = some (n - 1) ∧ 0 < n := by
  have hn0 : n ≠ 0 := fun e => hy ((needX_zero t y).1 (e ▸ hn))
  have hn' := hn
  unfold needX at hn'
  split at hn'
  · rename_i c
    have hnn := Option.some.inj hn'
    have e := bef_split c.1
    have hsome : s.main ≠ [] := fun hm => by
      have h1 := sel_some (g := fun k => (s.pl k).grd) (P := s.f.places.toNat) (G := s.f.guards.toNat) e c.2 (by omega)
      cases hs : sel (fun k => (s.pl k).grd) s.f.places.toNat s.f.guards.toNat X with
      | nil => exact h1 hs
      | cons a r =>
        have := (t.sel a).2 (by rw [hs]; exact List.mem_cons_self ..)
        rw [hm] at this
        cases this
    obtain ⟨q1, q2⟩ := quitter_spec hsome y
    refine ⟨hsome, ?_, by omega⟩
    rw [needX_quit t q1 hy, if_pos c]
    have := need_drop (g := fun k => (s.pl k).grd) t.nd e (by rw [hnn]; omega) c.2 ((t.sel _).1 q1) (q2.imp id (fun h j hj => h j ((t.sel j).2 hj)))
    rw [hnn] at this
    congr 1
    omega
  · cases hn'
theorem needs_some {h y : Int} : ∀ (fuel : Nat) (q : Int) (s : St) (X : List Int) (n : Nat), Tr h s X → 0 < s.f.places → needX h s X y = some n → n < fuel → St.needs h y fuel q s = some (q + (n : Int))
  | 0, _, _, _, _, _, _, _, hlt => by omega
  | fuel + 1, q, s, X, n, t, hP, hn, hlt => by
    unfold St.needs
    by_cases hy : y ∈ s.main
    · have h0 := (needX_zero t y).2 hy
      rw [h0] at hn
      have : 0 = n := Option.some.inj hn
      subst this
      rw [if_pos (by simpa using hy)]
      simp
    · obtain ⟨hne, hb, hpos⟩ := needX_best t hy hn hP
      rw [if_neg (by simpa using hy), if_neg hne]
      have hq := (quitter_spec hne y).1
      have t2 := t.quit hq
      have hP2 : 0 < (s.take (quitN h (s.quitter y))).f.places := by rw [(quit_kept (t.ment _ hq)).1]; exact hP
      have ih := needs_some fuel (q + 1) (s.take (quitN h (s.quitter y))) (X.erase (s.quitter y)) (n - 1) t2 hP2 hb (by omega)
      have e : s.take ⟨0, h, 4, s.quitter y, 0⟩ = s.take (quitN h (s.quitter y)) := rfl
      rw [e, ih]
      congr 1
      omega
theorem needs_none {h y : Int} : ∀ (fuel : Nat) (q : Int) (s : St) (X : List Int), Tr h s X → needX h s X y = none → St.needs h y fuel q s = none
  | 0, _, _, _, _, _ => rfl
  | fuel + 1, q, s, X, t, hn => by
    unfold St.needs
    have hy : y ∉ s.main := fun hm => by rw [(needX_zero t y).2 hm] at hn; cases hn
    rw [if_neg (by simpa using hy)]
    by_cases hne : s.main = []
    · rw [if_pos hne]
    · rw [if_neg hne]
      have hq := (quitter_spec hne y).1
      have e : s.take ⟨0, h, 4, s.quitter y, 0⟩ = s.take (quitN h (s.quitter y)) := rfl
      rw [e]
      refine needs_none fuel (q + 1) _ (X.erase (s.quitter y)) (t.quit hq) ?_
      rw [needX_quit t hq hy]
      unfold needX at hn
      split at hn
      · cases hn
      · rename_i c; rw [if_neg c]
theorem need_le {g : Int → Bool} {P G : Nat} {B : List Int} {p : Int} (hP : 0 < P) (hg : g p = true → 0 < G) : need g P G B p ≤ B.length := by
  have := cucg (g := g) B
  unfold need
  split
  · have := hg (by assumption); omega
  · split <;> omega
theorem needs_eq {h y : Int} {s : St} {X : List Int} (t : Tr h s X) (hP : 0 < s.f.places) (hX : X.length ≤ 60) : St.needs h y 61 0 s = (needX h s X y).map (fun n => (n : Int)) := by
  cases e : needX h s X y with
  | none => rw [needs_none 61 0 s X t e]; rfl
  | some n =>
    have hlt : n < 61 := by
      have e2 := e
      unfold needX at e2
      split at e2
      · rename_i c
        have h1 := need_le (g := fun k => (s.pl k).grd) (P := s.f.places.toNat) (G := s.f.guards.toNat) (B := bef X y) (p := y) (by omega) c.2
        rw [Option.some.inj e2] at h1
        have h2 : (bef X y).length ≤ X.length := by unfold bef; exact List.length_take_le' _ _
        omega
      · cases e2
    rw [needs_some 61 0 s X n t hP e hlt]
    simp
def queue (h : Int) (s : St) : List Int := if late s.f h = true then s.main ++ s.order.filter (fun k => !s.main.contains k && (s.pl k).sgn) else s.order
theorem tr_of {h : Int} {s : St} (ok : StOk s) (hT : 0 ≤ s.turns) (hp : Plc s) (hp0 : 0 ≤ s.f.places) (he : late s.f h = false → s.main = s.greedy) (hw : late s.f h = true → ∀ o ∈ s.alts, (s.pl o).sgn = true → s.f.places ≤ (s.main.length : Int) ∨ ((s.pl o).grd = true ∧ s.f.guards ≤ s.guardsOf s.main)) : Tr h s (queue h s) := by
  unfold queue
  cases hl : late s.f h with
  | false =>
    rw [if_neg (by decide)]
    exact ⟨ok, hT, hp.mnd, hp.ment, hp0, hp.g0, order_nodup ok, fun y => (by rw [he hl, greedy_sel hp0 hp.g0]), fun _ => ⟨rfl, he hl⟩, fun hc => (by rw [hl] at hc; cases hc)⟩
  | true =>
    rw [if_pos rfl]
    have hroom := hp.room
    have hgu := hp.guards
    rw [guardsOf_cg] at hgu
    have hg0 := hp.g0
    have hsel : sel (fun k => (s.pl k).grd) s.f.places.toNat s.f.guards.toNat (s.main ++ s.order.filter (fun k => !s.main.contains k && (s.pl k).sgn)) = s.main := by
      have hfit := sel_fit (g := fun k => (s.pl k).grd) s.f.places.toNat s.f.guards.toNat s.main (by omega) (by omega)
      rw [sel_app, hfit, sel_none, List.append_nil]
      intro o ho
      obtain ⟨h1, h2⟩ := List.mem_filter.1 ho
      simp only [Bool.and_eq_true, Bool.not_eq_true', List.contains_eq_mem, decide_eq_false_iff_not] at h2
      rcases hw hl o (alts_mem.2 ⟨h1, h2.1⟩) h2.2 with h3 | ⟨h3, h4⟩
      · left; omega
      · right
        rw [guardsOf_cg] at h4
        exact ⟨h3, by omega⟩
    refine ⟨ok, hT, hp.mnd, hp.ment, hp0, hp.g0, ?_, fun y => (by rw [hsel]), fun hc => (by rw [hl] at hc; cases hc), fun _ => ?_⟩
    · rw [List.nodup_append]
      refine ⟨hp.mnd, (order_nodup ok).filter _, fun a ha b hb e => ?_⟩
      have := (List.mem_filter.1 hb).2
      rw [← e] at this
      simp [ha] at this
    · rw [List.filter_append]
      have e1 : s.main.filter (fun k => !s.main.contains k) = [] := by
        rw [List.filter_eq_nil_iff]
        intro a ha
        simp [ha]
      rw [e1, List.nil_append, List.filter_filter]
      refine List.filter_congr fun k _ => ?_
      cases s.main.contains k <;> simp
theorem tr_at {f : Fd} {l d : List Nt} (hd : diffs l = some d) (hv : validField f = true) (h : Int) : Tr h (atL f h d) (queue h (atL f h d)) ∧ (queue h (atL f h d)).length ≤ 60 ∧ 0 < (atL f h d).f.places := by
  obtain ⟨_, ht, _⟩ := diffs_spec hd
  have hp : ∀ x ∈ d, 0 ≤ x.player ∧ x.player ≤ 999 := fun x hx => valid_player (ht.valid x hx)
  obtain ⟨hok, hT⟩ := atL_ok f h hp
  have hs := taken_hours ht
  have hplc : Plc (atL f h d) := plc_fold _ _ (new_ok f) (Int.le_refl _) (plc_new hv) (fun x hx => hp x (List.mem_filter.1 hx).1)
  have hpl0 : f.places ≤ (atL f h d).f.places := by
    have : ∀ (r : List Nt) (s : St), s.f.places ≤ (r.foldl St.take s).f.places := by
      intro r
      induction r with
      | nil => intro s; exact Int.le_refl _
      | cons x r ih => intro s; exact Int.le_trans (said_places s x) (ih (s.take x))
    exact this _ (St.new f)
  have hvp := valid_places hv
  have hfz : (atL f h d).f.freeze = f.freeze := (fold_fd _ (St.new f)).2
  have hlate : ∀ z, late (atL f h d).f z = decide (f.freeze < z) := fun z => by unfold late; rw [hfz]
  refine ⟨tr_of hok hT hplc (by omega) (fun hl => ?_) (fun hl o ho hsg => ?_), ?_, by omega⟩
  · rw [hlate] at hl
    have hl' := of_decide_eq_false hl
    exact fold_greedy f.freeze _ (St.new f) rfl (fun x hx => by have := (List.mem_filter.1 hx).2; simp at this; omega) (greedy_new f)
  · by_cases hz : ∃ z ∈ d, f.freeze < z.hour ∧ z.hour ≤ h
    · obtain ⟨x, hx, hx1, hx2⟩ := hz
      obtain ⟨r, z, hr⟩ : ∃ r z, d.filter (fun x => decide (x.hour ≤ h)) = r ++ [z] := by
        have hmem : x ∈ d.filter (fun x => decide (x.hour ≤ h)) := List.mem_filter.2 ⟨hx, by simpa using hx2⟩
        have hne : d.filter (fun x => decide (x.hour ≤ h)) ≠ [] := List.ne_nil_of_mem hmem
        exact ⟨_, _, (List.dropLast_concat_getLast hne).symm⟩
      have hz2 : f.freeze < z.hour := by
        have hmem : x ∈ r ++ [z] := by rw [← hr]; exact List.mem_filter.2 ⟨hx, by simpa using hx2⟩
        have hs' : (r ++ [z]).Pairwise (fun a b => a.hour ≤ b.hour) := by rw [← hr]; exact List.Pairwise.sublist List.filter_sublist hs
        rcases List.mem_append.1 hmem with h1 | h1
        · have := (List.pairwise_append.1 hs').2.2 x h1 z (by simp)
          omega
        · simp at h1; rw [← h1]; exact hx1
      have hat : atL f h d = (r.foldl St.take (St.new f)).take z := by
        unfold atL
        rw [hr, List.foldl_append]
        rfl
      have hl2 : late (r.foldl St.take (St.new f)).f z.hour = true := by
        unfold late
        rw [(fold_fd r (St.new f)).2]
        exact decide_eq_true hz2
      rw [hat] at ho hsg ⊢
      exact right_late hl2 ho hsg
    · have hgreedy : (atL f h d).main = (atL f h d).greedy := fold_greedy f.freeze _ (St.new f) rfl (fun x hx => by
        obtain ⟨h1, h2⟩ := List.mem_filter.1 hx
        have h3 := of_decide_eq_true h2
        have : ¬ f.freeze < x.hour := fun c => hz ⟨x, h1, c, h3⟩
        omega) (greedy_new f)
      rcases right_early hgreedy ho with h1 | h1
      · exact .inl h1.1
      · exact .inr h1
  · have hkn : (atL f h d).known.length ≤ 60 := by
      have : ∀ (r : List Nt) (s : St), (r.foldl St.take s).known.length ≤ s.known.length + r.length := by
        intro r
        induction r with
        | nil => intro s; simp
        | cons x r ih =>
          intro s
          have h1 := ih (s.take x)
          have h2 : (s.take x).known.length ≤ s.known.length + 1 := known_said s x
          rw [List.foldl_cons, List.length_cons]; omega
      have h1 := this (d.filter fun x => decide (x.hour ≤ h)) (St.new f)
      have h2 := List.length_filter_le (fun x : Nt => decide (x.hour ≤ h)) d
      have h3 := diffs_len hd
      have h4 : (St.new f).known.length = 0 := rfl
      have h5 : (atL f h d).known.length ≤ (St.new f).known.length + (d.filter fun x => decide (x.hour ≤ h)).length := h1
      omega
    have hnd : (queue h (atL f h d)).Nodup := by
      unfold queue
      split
      · rw [List.nodup_append]
        refine ⟨hplc.mnd, (order_nodup hok).filter _, fun a ha b hb e => ?_⟩
        have := (List.mem_filter.1 hb).2
        rw [← e] at this
        simp [ha] at this
      · exact order_nodup hok
    have hsub : ∀ k ∈ queue h (atL f h d), k ∈ (atL f h d).known := by
      intro k hk
      unfold queue at hk
      split at hk
      · rcases List.mem_append.1 hk with h1 | h1
        · exact hok.main k h1
        · exact (order_mem.1 (List.mem_filter.1 h1).1).1
      · exact (order_mem.1 hk).1
    exact Nat.le_trans (List.Nodup.length_le_of_subset hnd hsub) hkn
end E
end Go.Proofs.YtobjahlmjcnfoaaGreat

namespace Go.Proofs.YtobjahlmjcnfoaaGreat
namespace E
inductive Rch (g : Int → Bool) (P G : Nat) (X0 : List Int) : List Int → Prop
  | start : Rch g P G X0 X0
  | quit {X : List Int} {k : Int} : Rch g P G X0 X → k ∈ sel g P G X → Rch g P G X0 (X.erase k)
variable {g : Int → Bool} {P G : Nat}
theorem Rch.sub {X0 X : List Int} (h : Rch g P G X0 X) : X.Sublist X0 := by
  induction h with
  | start => exact List.Sublist.refl _
  | quit _ _ ih => exact List.Sublist.trans List.erase_sublist ih
theorem Rch.was {X0 X : List Int} (h0 : X0.Nodup) (h : Rch g P G X0 X) (z : Int) (hz : z ∈ X0) (hn : z ∉ X) : ∃ Y, Rch g P G X0 Y ∧ X.Sublist Y ∧ z ∈ sel g P G Y := by
  induction h with
  | start => exact absurd hz hn
  | @quit X k hr hk ih =>
    by_cases hzX : z ∈ X
    · have hzk : z = k := by
        by_cases e : z = k
        · exact e
        · exact absurd ((List.Nodup.mem_erase_iff (h0.sublist hr.sub)).2 ⟨e, hzX⟩) hn
      exact ⟨X, hr, List.erase_sublist, hzk ▸ hk⟩
    · obtain ⟨Y, h1, h2, h3⟩ := ih hzX
      exact ⟨Y, h1, List.Sublist.trans List.erase_sublist h2, h3⟩
theorem sub_filter {X X0 : List Int} (h0 : X0.Nodup) (h : X.Sublist X0) : X = X0.filter (fun z => decide (z ∈ X)) := by
  induction h with
  | slnil => rfl
  | @cons l r a hs ih =>
    have hn := List.nodup_cons.1 h0
    have ha : a ∉ l := fun c => hn.1 (hs.subset c)
    rw [List.filter_cons_of_neg (by simpa using ha)]
    exact ih hn.2
  | @cons_cons l r a hs ih =>
    have hn := List.nodup_cons.1 h0
    rw [List.filter_cons_of_pos (by simp)]
    congr 1
    conv => lhs; rw [ih hn.2]
    refine List.filter_congr fun z hz => ?_
    have hza : z ≠ a := fun e => hn.1 (e ▸ hz)
    simp [hza]
theorem crit_less {B C : List Int} {p : Int} (h : B.Sublist C) (hc : crit g P G C p) : crit g P G B p := by
  have h1 : cg g B ≤ cg g C := h.countP_le ..
  have h2 : cu g B ≤ cu g C := h.countP_le ..
  unfold crit at hc ⊢
  split <;> rename_i e <;> simp only [e, if_true, if_false, Bool.false_eq_true] at hc <;> omega
theorem first_diff {X0 : List Int} {a b : Int → Bool} (h : ∃ z ∈ X0, a z ≠ b z) : ∃ B z R, X0 = B ++ z :: R ∧ a z ≠ b z ∧ ∀ y ∈ B, a y = b y := by
  induction X0 with
  | nil => obtain ⟨z, hz, _⟩ := h; cases hz
  | cons x r ih =>
    by_cases e : a x = b x
    · obtain ⟨z, hz, hd⟩ := h
      have hzr : z ∈ r := by
        rcases List.mem_cons.1 hz with e' | e'
        · subst e'; exact absurd e hd
        · exact e'
      obtain ⟨B, y, R, h1, h2, h3⟩ := ih ⟨z, hzr, hd⟩
      refine ⟨x :: B, y, R, by rw [h1]; rfl, h2, fun w hw => ?_⟩
      rcases List.mem_cons.1 hw with rfl | hw
      · exact e
      · exact h3 w hw
    · exact ⟨[], x, r, rfl, e, fun y hy => by cases hy⟩
theorem rch_less {X0 X1 X2 B R : List Int} {z : Int} (h0 : X0.Nodup) (h1 : Rch g P G X0 X1) (h2 : Rch g P G X0 X2) (hs : ∀ y, y ∈ sel g P G X1 ↔ y ∈ sel g P G X2) (e : X0 = B ++ z :: R) (hB : ∀ y ∈ B, decide (y ∈ X1) = decide (y ∈ X2)) (hz1 : z ∈ X1) (hz2 : z ∉ X2) : False := by
  have hzX0 : z ∈ X0 := by rw [e]; simp
  obtain ⟨Y, hY, hXY, hzY⟩ := h2.was h0 z hzX0 hz2
  have hYX := (sel_sub P G Y).subset hzY
  have f1 : X1 = B.filter (fun y => decide (y ∈ X1)) ++ z :: R.filter (fun y => decide (y ∈ X1)) := by
    conv => lhs; rw [sub_filter h0 h1.sub, e, List.filter_append, List.filter_cons_of_pos (by simpa using hz1)]
  have fY : Y = B.filter (fun y => decide (y ∈ Y)) ++ z :: R.filter (fun y => decide (y ∈ Y)) := by
    conv => lhs; rw [sub_filter h0 hY.sub, e, List.filter_append, List.filter_cons_of_pos (by simpa using hYX)]
  have hc := (mem_sel_iff (h0.sublist hY.sub) fY).1 hzY
  have hsub : (B.filter (fun y => decide (y ∈ X1))).Sublist (B.filter (fun y => decide (y ∈ Y))) := by
    have e1 : B.filter (fun y => decide (y ∈ X1)) = (B.filter (fun y => decide (y ∈ Y))).filter (fun y => decide (y ∈ X2)) := by
      rw [List.filter_filter]
      refine List.filter_congr fun y hy => ?_
      rw [hB y hy]
      by_cases c : y ∈ X2
      · simp [c, hXY.subset c]
      · simp [c]
    rw [e1]
    exact List.filter_sublist
  have := (mem_sel_iff (h0.sublist h1.sub) f1).2 (crit_less hsub hc)
  exact hz2 ((sel_sub P G X2).subset ((hs z).1 this))
theorem rch_same {X0 X1 X2 : List Int} (h0 : X0.Nodup) (h1 : Rch g P G X0 X1) (h2 : Rch g P G X0 X2) (hs : ∀ y, y ∈ sel g P G X1 ↔ y ∈ sel g P G X2) : X1 = X2 := by
  by_cases hd : ∃ z ∈ X0, decide (z ∈ X1) ≠ decide (z ∈ X2)
  · exfalso
    obtain ⟨B, z, R, e, hz, hB⟩ := first_diff (a := fun z => decide (z ∈ X1)) (b := fun z => decide (z ∈ X2)) hd
    by_cases hz1 : z ∈ X1
    · by_cases hz2 : z ∈ X2
      · exact hz (by simp [hz1, hz2])
      · exact rch_less h0 h1 h2 hs e hB hz1 hz2
    · by_cases hz2 : z ∈ X2
      · exact rch_less h0 h2 h1 (fun y => (hs y).symm) e (fun y hy => (hB y hy).symm) hz2 hz1
      · exact hz (by simp [hz1, hz2])
  · rw [sub_filter h0 h1.sub, sub_filter h0 h2.sub]
    refine List.filter_congr fun z hz => ?_
    by_cases c : decide (z ∈ X1) = decide (z ∈ X2)
    · exact c
    · exact absurd ⟨z, hz, c⟩ hd
def addS {σ : Type} (key : σ → List Int) (l : List σ) (s : σ) : List σ := if l.any (fun t => key t == key s) then l else l ++ [s]
def addsS {σ : Type} (key : σ → List Int) (step : σ → Int → σ) (s : σ) (ks : List Int) (l : List σ) : List σ := ks.foldl (fun a k => addS key a (step s k)) l
def nextsS {σ : Type} (key : σ → List Int) (reps : σ → List Int) (step : σ → Int → σ) (now l : List σ) : List σ := now.foldl (fun a s => addsS key step s (reps s) a) l
def findS {σ : Type} (key : σ → List Int) (reps : σ → List Int) (step : σ → Int → σ) (y : Int) : Nat → Nat → List σ → Option Nat
  | 0, _, _ => none
  | fuel + 1, n, now => if now = [] then none else if now.any (fun s => (key s).contains y) then some n else findS key reps step y fuel (n + 1) (nextsS key reps step now [])
section
variable {σ : Type} {key : σ → List Int} {reps : σ → List Int} {step : σ → Int → σ}
theorem addS_mem {l : List σ} {s t : σ} (h : t ∈ addS key l s) : t ∈ l ∨ t = s := by
  unfold addS at h
  split at h
  · exact .inl h
  · simpa using h
theorem addS_keep {l : List σ} {s t : σ} (h : t ∈ l) : t ∈ addS key l s := by
  unfold addS
  split
  · exact h
  · exact List.mem_append_left _ h
theorem addS_key (l : List σ) (s : σ) : ∃ t ∈ addS key l s, key t = key s := by
  unfold addS
  split
  · rename_i h
    obtain ⟨t, h1, h2⟩ := List.any_eq_true.1 h
    exact ⟨t, h1, by simpa using h2⟩
  · exact ⟨s, by simp, rfl⟩
theorem addsS_mem {s t : σ} : ∀ {ks : List Int} {l : List σ}, t ∈ addsS key step s ks l → t ∈ l ∨ ∃ k ∈ ks, t = step s k
  | [], _, h => .inl h
  | k :: r, l, h => by
    rcases addsS_mem (ks := r) (l := addS key l (step s k)) h with h1 | ⟨j, h1, h2⟩
    · rcases addS_mem h1 with h2 | h2
      · exact .inl h2
      · exact .inr ⟨k, by simp, h2⟩
    · exact .inr ⟨j, by simp [h1], h2⟩
theorem addsS_keep {s t : σ} : ∀ {ks : List Int} {l : List σ}, t ∈ l → t ∈ addsS key step s ks l
  | [], _, h => h
  | _ :: r, _, h => addsS_keep (ks := r) (addS_keep h)
theorem addsS_key {s : σ} {k : Int} : ∀ {ks : List Int} {l : List σ}, k ∈ ks → ∃ t ∈ addsS key step s ks l, key t = key (step s k)
  | [], _, h => by cases h
  | j :: r, l, h => by
    rcases List.mem_cons.1 h with rfl | h
    · obtain ⟨t, h1, h2⟩ := addS_key (key := key) l (step s k)
      exact ⟨t, addsS_keep (ks := r) h1, h2⟩
    · exact addsS_key (ks := r) (l := addS key l (step s j)) h
theorem nextsS_mem {t : σ} : ∀ {now l : List σ}, t ∈ nextsS key reps step now l → t ∈ l ∨ ∃ s ∈ now, ∃ k ∈ reps s, t = step s k
  | [], _, h => .inl h
  | s :: r, l, h => by
    rcases nextsS_mem (now := r) (l := addsS key step s (reps s) l) h with h1 | ⟨j, h1, h2⟩
    · rcases addsS_mem h1 with h2 | ⟨k, h2, h3⟩
      · exact .inl h2
      · exact .inr ⟨s, by simp, k, h2, h3⟩
    · exact .inr ⟨j, by simp [h1], h2⟩
theorem nextsS_keep {t : σ} : ∀ {now l : List σ}, t ∈ l → t ∈ nextsS key reps step now l
  | [], _, h => h
  | s :: r, _, h => nextsS_keep (now := r) (addsS_keep (s := s) (ks := reps s) h)
theorem nextsS_key {s : σ} {k : Int} (hk : k ∈ reps s) : ∀ {now l : List σ}, s ∈ now → ∃ t ∈ nextsS key reps step now l, key t = key (step s k)
  | [], _, h => by cases h
  | j :: r, l, h => by
    rcases List.mem_cons.1 h with rfl | h
    · obtain ⟨t, h1, h2⟩ := addsS_key (key := key) (step := step) (s := s) (l := l) hk
      exact ⟨t, nextsS_keep (now := r) h1, h2⟩
    · exact nextsS_key hk (now := r) (l := addsS key step j (reps j) l) h
structure Srch (key : σ → List Int) (reps : σ → List Int) (step : σ → Int → σ) (y : Int) (R : σ → Prop) (nd : σ → Option Nat) : Prop where
  on : ∀ s, R s → y ∉ key s → ∀ k ∈ reps s, R (step s k)
  zero : ∀ s, R s → (y ∈ key s ↔ nd s = some 0)
  non : ∀ s, R s → y ∉ key s → ∀ k ∈ reps s, nd s = none → nd (step s k) = none
  less : ∀ s, R s → y ∉ key s → ∀ k ∈ reps s, ∀ m, nd s = some m → ∃ n, nd (step s k) = some n ∧ m ≤ n + 1
  best : ∀ s, R s → ∀ m, nd s = some (m + 1) → ∃ k ∈ reps s, nd (step s k) = some m
  same : ∀ s t, R s → R t → key s = key t → nd s = nd t
theorem Srch.next {y : Int} {R : σ → Prop} {nd : σ → Option Nat} (S : Srch key reps step y R nd) {now : List σ} (hR : ∀ s ∈ now, R s) (hy : ∀ s ∈ now, y ∉ key s) : ∀ t ∈ nextsS key reps step now [], R t := by
  intro t ht
  rcases nextsS_mem ht with h | ⟨s, hs, k, hk, rfl⟩
  · cases h
  · exact S.on s (hR s hs) (hy s hs) k hk
theorem Srch.find {y : Int} {R : σ → Prop} {nd : σ → Option Nat} (S : Srch key reps step y R nd) : ∀ (fuel n m : Nat) (now : List σ), (∀ s ∈ now, R s) → (∃ s ∈ now, nd s = some m) → (∀ s ∈ now, ∃ k, nd s = some k ∧ m ≤ k) → m < fuel → findS key reps step y fuel n now = some (n + m)
  | 0, _, _, _, _, _, _, h => by omega
  | fuel + 1, n, m, now, hR, ⟨s, hs, hm⟩, hmin, hf => by
    unfold findS
    rw [if_neg (fun e => by rw [e] at hs; cases hs)]
    cases m with
    | zero =>
      rw [if_pos (List.any_eq_true.2 ⟨s, hs, by simpa using (S.zero s (hR s hs)).2 hm⟩)]
      rfl
    | succ m =>
      have hy : ∀ t ∈ now, y ∉ key t := fun t ht hc => by
        obtain ⟨k, h1, h2⟩ := hmin t ht
        rw [(S.zero t (hR t ht)).1 hc] at h1
        have := Option.some.inj h1
        omega
      rw [if_neg (fun c => by
        obtain ⟨t, h1, h2⟩ := List.any_eq_true.1 c
        exact hy t h1 (by simpa using h2))]
      have hR2 := S.next hR hy
      obtain ⟨k, hk, hkm⟩ := S.best s (hR s hs) m hm
      obtain ⟨t, ht, hkey⟩ := nextsS_key (key := key) (step := step) hk (l := []) hs
      have := S.find fuel (n + 1) m (nextsS key reps step now []) hR2 ⟨t, ht, by
        rw [S.same t (step s k) (hR2 t ht) (S.on s (hR s hs) (hy s hs) k hk) hkey]; exact hkm⟩ (fun u hu => by
        rcases nextsS_mem hu with h | ⟨v, hv, j, hj, rfl⟩
        · cases h
        · obtain ⟨q, h1, h2⟩ := hmin v hv
          obtain ⟨q', h3, h4⟩ := S.less v (hR v hv) (hy v hv) j hj q h1
          exact ⟨q', h3, by omega⟩) (by omega)
      rw [this]
      congr 1
      omega
theorem Srch.none {y : Int} {R : σ → Prop} {nd : σ → Option Nat} (S : Srch key reps step y R nd) : ∀ (fuel n : Nat) (now : List σ), (∀ s ∈ now, R s) → (∀ s ∈ now, nd s = none) → findS key reps step y fuel n now = none
  | 0, _, _, _, _ => rfl
  | fuel + 1, n, now, hR, hn => by
    unfold findS
    split
    · rfl
    · have hy : ∀ t ∈ now, y ∉ key t := fun t ht hc => by
        have := (S.zero t (hR t ht)).1 hc
        rw [hn t ht] at this
        cases this
      rw [if_neg (fun c => by
        obtain ⟨t, h1, h2⟩ := List.any_eq_true.1 c
        exact hy t h1 (by simpa using h2))]
      refine S.none fuel (n + 1) _ (S.next hR hy) fun u hu => ?_
      rcases nextsS_mem hu with h | ⟨v, hv, j, hj, rfl⟩
      · cases h
      · exact S.non v (hR v hv) (hy v hv) j hj (hn v hv)
end
end E
end Go.Proofs.YtobjahlmjcnfoaaGreat

namespace Go.Proofs.YtobjahlmjcnfoaaGreat
namespace E
def firstIn (s : St) (b : Bool) : Option Int := s.main.find? (fun k => (s.pl k).grd == b)
def repsX (z : St × List Int) : List Int := (firstIn z.1 false).toList ++ (firstIn z.1 true).toList
def stepX (h : Int) (z : St × List Int) (k : Int) : St × List Int := (z.1.take (quitN h k), z.2.erase k)
def keyX (z : St × List Int) : List Int := z.1.main
theorem firstIn_mem {s : St} {b : Bool} {k : Int} (h : firstIn s b = some k) : k ∈ s.main ∧ (s.pl k).grd = b := ⟨List.mem_of_find?_eq_some h, by simpa using List.find?_some h⟩
theorem repsX_mem {z : St × List Int} {k : Int} (h : k ∈ repsX z) : k ∈ z.1.main := by
  unfold repsX at h
  rcases List.mem_append.1 h with h | h
  · exact (firstIn_mem (by simpa using h)).1
  · exact (firstIn_mem (by simpa using h)).1
theorem reps_in {z : St × List Int} {b : Bool} {k : Int} (h : firstIn z.1 b = some k) : k ∈ repsX z := by
  unfold repsX
  cases b
  · rw [h]; simp
  · rw [h]; simp
theorem find_idx {l : List Int} {q : Int → Bool} {i : Nat} (h : l.findIdx? q = some i) : l.find? q = some (l.getD i 0) := by
  obtain ⟨h1, h2, h3⟩ := List.findIdx?_eq_some_iff_getElem.1 h
  rw [List.getD_eq_getElem?_getD, List.getElem?_eq_getElem h1]
  rw [List.find?_eq_some_iff_getElem]
  exact ⟨h2, i, h1, rfl, fun j hj => by simpa using h3 j hj⟩
theorem quitter_reps {s : St} {X : List Int} (hm : s.main ≠ []) (y : Int) : s.quitter y ∈ repsX (s, X) := by
  unfold St.quitter
  cases e : s.main.findIdx? (fun o => (s.pl o).grd == (s.pl y).grd) with
  | some i =>
    dsimp only
    exact reps_in (z := (s, X)) (b := (s.pl y).grd) (find_idx e)
  | none =>
    dsimp only
    rw [List.findIdx?_eq_none_iff] at e
    cases hc : s.main with
    | nil => exact absurd hc hm
    | cons a r =>
      have ha := e a (by rw [hc]; exact List.mem_cons_self ..)
      refine reps_in (z := (s, X)) (b := (s.pl a).grd) ?_
      unfold firstIn
      rw [hc, List.find?_cons_of_pos (by simp)]
      rfl
structure RX (h : Int) (s0 : St) (X0 : List Int) (z : St × List Int) : Prop where
  tr : Tr h z.1 z.2
  rch : Rch (fun k => (s0.pl k).grd) s0.f.places.toNat s0.f.guards.toNat X0 z.2
  pl : z.1.f.places = s0.f.places
  gu : z.1.f.guards = s0.f.guards
  gr : ∀ k, (z.1.pl k).grd = (s0.pl k).grd
theorem RX.eqs {h : Int} {s0 : St} {X0 : List Int} {z : St × List Int} (r : RX h s0 X0 z) (y : Int) : (y ∈ z.1.main ↔ y ∈ sel (fun k => (s0.pl k).grd) s0.f.places.toNat s0.f.guards.toNat z.2) ∧ needX h z.1 z.2 y = if y ∈ z.2 ∧ ((s0.pl y).grd = true → 0 < s0.f.guards.toNat) then some (need (fun k => (s0.pl k).grd) s0.f.places.toNat s0.f.guards.toNat (bef z.2 y) y) else none := by
  have e1 : (fun k => (z.1.pl k).grd) = (fun k => (s0.pl k).grd) := funext r.gr
  have h1 := r.tr.sel y
  rw [e1, r.pl, r.gu] at h1
  refine ⟨h1, ?_⟩
  unfold needX
  rw [e1, r.pl, r.gu, r.gr]
theorem RX.quit {h : Int} {s0 : St} {X0 : List Int} {z : St × List Int} (r : RX h s0 X0 z) {k : Int} (hk : k ∈ z.1.main) : RX h s0 X0 (stepX h z k) := by
  obtain ⟨q1, q2, q3⟩ := quit_kept (h := h) (r.tr.ment k hk)
  exact ⟨r.tr.quit hk, .quit r.rch ((r.eqs k).1.1 hk), by rw [← r.pl]; exact q1, by rw [← r.gu]; exact q2, fun j => by rw [← r.gr]; exact q3 j⟩
theorem srchX {h y : Int} {s0 : St} {X0 : List Int} (h0 : X0.Nodup) (hP : 0 < s0.f.places) : Srch keyX repsX (stepX h) y (RX h s0 X0) (fun z => needX h z.1 z.2 y) where
  on := fun z r _ k hk => r.quit (repsX_mem hk)
  zero := fun z r => (needX_zero r.tr y).symm
  non := fun z r hy k hk hn => by
    show needX h (z.1.take (quitN h k)) (z.2.erase k) y = none
    rw [needX_quit r.tr (repsX_mem hk) hy]
    have hn' : needX h z.1 z.2 y = none := hn
    unfold needX at hn'
    split at hn'
    · cases hn'
    · rename_i c; rw [if_neg c]
  less := fun z r hy k hk m hm => needX_less r.tr (repsX_mem hk) hy hm
  best := fun z r m hm => by
    have hy : y ∉ z.1.main := fun hc => by
      have h1 := (needX_zero r.tr y).2 hc
      have h2 : needX h z.1 z.2 y = some (m + 1) := hm
      rw [h1] at h2
      cases h2
    obtain ⟨h1, h2, _⟩ := needX_best r.tr hy hm (by rw [r.pl]; exact hP)
    exact ⟨z.1.quitter y, quitter_reps (X := z.2) h1 y, h2⟩
  same := fun z t rz rt hk => by
    have hX : z.2 = t.2 := rch_same h0 rz.rch rt.rch fun y => by
      rw [← (rz.eqs y).1, ← (rt.eqs y).1]
      have hk' : z.1.main = t.1.main := hk
      rw [hk']
    show needX h z.1 z.2 y = needX h t.1 t.2 y
    rw [(rz.eqs y).2, (rt.eqs y).2, hX]
theorem findX {h y : Int} {s0 : St} {X0 : List Int} (t : Tr h s0 X0) (hP : 0 < s0.f.places) {fuel : Nat} (hf : X0.length < fuel) : findS keyX repsX (stepX h) y fuel 0 [(s0, X0)] = needX h s0 X0 y := by
  have S := srchX (h := h) (y := y) (s0 := s0) (X0 := X0) t.nd hP
  have r0 : RX h s0 X0 (s0, X0) := ⟨t, .start, rfl, rfl, fun _ => rfl⟩
  cases e : needX h s0 X0 y with
  | none =>
    exact S.none fuel 0 _ (fun z hz => by rw [List.mem_singleton.1 hz]; exact r0) (fun z hz => by rw [List.mem_singleton.1 hz]; exact e)
  | some m =>
    have hm : m < fuel := by
      have e2 := e
      unfold needX at e2
      split at e2
      · rename_i c
        have h1 := need_le (g := fun k => (s0.pl k).grd) (P := s0.f.places.toNat) (G := s0.f.guards.toNat) (B := bef X0 y) (p := y) (by omega) c.2
        rw [Option.some.inj e2] at h1
        have h2 : (bef X0 y).length ≤ X0.length := by unfold bef; exact List.length_take_le' _ _
        omega
      · cases e2
    have := S.find fuel 0 m [(s0, X0)] (fun z hz => by rw [List.mem_singleton.1 hz]; exact r0) ⟨(s0, X0), by simp, e⟩ (fun z hz => by rw [List.mem_singleton.1 hz]; exact ⟨m, e, Nat.le_refl _⟩) hm
    rw [this, Nat.zero_add]
theorem find_map {σ τ : Type} {key : σ → List Int} {reps : σ → List Int} {step : σ → Int → σ} {key' : τ → List Int} {reps' : τ → List Int} {step' : τ → Int → τ} (f : τ → σ) (R : τ → Prop) (hk : ∀ t, R t → key (f t) = key' t) (hr : ∀ t, R t → reps (f t) = reps' t) (hs : ∀ t, R t → ∀ k ∈ reps' t, step (f t) k = f (step' t k)) (y : Int) (hR : ∀ t, R t → ∀ k ∈ reps' t, R (step' t k)) : ∀ (fuel n : Nat) (now : List τ), (∀ t ∈ now, R t) → findS key reps step y fuel n (now.map f) = findS key' reps' step' y fuel n now := by
  have ha : ∀ (l : List τ) (t : τ), (∀ u ∈ l, R u) → R t → addS key (l.map f) (f t) = (addS key' l t).map f := fun l t hl ht => by
    unfold addS
    have e : (l.map f).any (fun u => key u == key (f t)) = l.any (fun u => key' u == key' t) := by
      rw [List.any_map, Bool.eq_iff_iff, List.any_eq_true, List.any_eq_true]
      constructor
      · rintro ⟨u, h1, h2⟩; refine ⟨u, h1, ?_⟩; rw [← hk u (hl u h1), ← hk t ht]; exact h2
      · rintro ⟨u, h1, h2⟩; refine ⟨u, h1, ?_⟩; show (key (f u) == key (f t)) = true; rw [hk u (hl u h1), hk t ht]; exact h2
    rw [e]
    split
    · rfl
    · rw [List.map_append]; rfl
  have hb : ∀ (ks : List Int) (t : τ) (l : List τ), R t → (∀ k ∈ ks, k ∈ reps' t) → (∀ u ∈ l, R u) → addsS key step (f t) ks (l.map f) = (addsS key' step' t ks l).map f ∧ ∀ u ∈ addsS key' step' t ks l, R u := by
    intro ks
    induction ks with
    | nil => intro t l _ _ hl; exact ⟨rfl, hl⟩
    | cons k r ih =>
      intro t l ht hks hl
      have hkr := hks k (by simp)
      have hRk := hR t ht k hkr
      have := ih t (addS key' l (step' t k)) ht (fun j hj => hks j (by simp [hj])) (fun u hu => by
        rcases addS_mem hu with h1 | h1
        · exact hl u h1
        · rw [h1]; exact hRk)
      refine ⟨?_, this.2⟩
      show addsS key step (f t) r (addS key (l.map f) (step (f t) k)) = _
      rw [hs t ht k hkr, ha l _ hl hRk]
      exact this.1
  have hc : ∀ (now l : List τ), (∀ t ∈ now, R t) → (∀ u ∈ l, R u) → nextsS key reps step (now.map f) (l.map f) = (nextsS key' reps' step' now l).map f ∧ ∀ u ∈ nextsS key' reps' step' now l, R u := by
    intro now
    induction now with
    | nil => intro l _ hl; exact ⟨rfl, hl⟩
    | cons t r ih =>
      intro l hn hl
      have ht := hn t (by simp)
      have h1 := hb (reps' t) t l ht (fun _ h => h) hl
      have := ih (addsS key' step' t (reps' t) l) (fun u hu => hn u (by simp [hu])) h1.2
      refine ⟨?_, this.2⟩
      show nextsS key reps step (r.map f) (addsS key step (f t) (reps (f t)) (l.map f)) = _
      rw [hr t ht, h1.1]
      exact this.1
  intro fuel
  induction fuel with
  | zero => intro n now _; rfl
  | succ fuel ih =>
    intro n now hn
    unfold findS
    have e0 : now.map f = [] ↔ now = [] := List.map_eq_nil_iff
    have e1 : (now.map f).any (fun s => (key s).contains y) = now.any (fun s => (key' s).contains y) := by
      rw [List.any_map, Bool.eq_iff_iff, List.any_eq_true, List.any_eq_true]
      constructor
      · rintro ⟨u, h1, h2⟩; refine ⟨u, h1, ?_⟩; rw [← hk u (hn u h1)]; exact h2
      · rintro ⟨u, h1, h2⟩; refine ⟨u, h1, ?_⟩; show (key (f u)).contains y = true; rw [hk u (hn u h1)]; exact h2
    by_cases h0 : now = []
    · rw [if_pos h0, if_pos (e0.2 h0)]
    · rw [if_neg h0, if_neg (fun c => h0 (e0.1 c)), e1]
      split
      · rfl
      · have h1 := hc now [] hn (fun u hu => by cases hu)
        have h2 : nextsS key reps step (now.map f) [] = (nextsS key' reps' step' now []).map f := h1.1
        rw [h2]
        exact ih (n + 1) _ h1.2
end E
end Go.Proofs.YtobjahlmjcnfoaaGreat
