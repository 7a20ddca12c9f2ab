/-
  Part of a claim's texts: contracts of the program's functions and the plain functions that they compute, in build order.
-/
import Derived.Test.YtobjahlmjcnfoaaGreatZB06
import Derived.Test.YtobjahlmjcnfoaaGreatZB08
import Derived.Test.YtobjahlmjcnfoaaGreatZB09
namespace Go.Proofs.YtobjahlmjcnfoaaGreat
open Go.RowKit Go.Sort
attribute [local go_sem ↓] Go.wp_at_zero Go.wp_at_succ

structure RMid (w : World) (f : E.Fd) (x : E.Nt) (sv : Array Value) (bo : Nat) (ov : Array Value) (W : World) : Prop where
  below : Below w.heap.size w W
  f : W.heap[w.heap.size]? = some (.cells #[.int .i64 f.places, .int .i64 f.wilds, .int .i64 f.guards, .int .i64 f.close, .int .i64 f.freeze] 23 (0, 0))
  s : W.heap[w.heap.size + 1]? = some (.cells sv 53 (0, 0))
  x : W.heap[w.heap.size + 1 + 1]? = some (.cells #[.int .i64 x.id, .int .i64 x.hour, .int .i64 x.kind, .int .i64 x.player, .int .i64 x.rank] 70 (0, 0))
  r : W.heap[w.heap.size + 1 + 1 + 1]? = some (.cells #[.slice none 0 0, .slice none 0 0, .int .i64 0, .slice none 0 0] 53 (0, 0))
  o : W.heap[bo]? = some (.cells ov 53 (0, 0))
  bo : w.heap.size + 4 ≤ bo
theorem RMid.grown {w : World} {f : E.Fd} {x : E.Nt} {sv : Array Value} {bo : Nat} {ov : Array Value} {W W2 : World} {g : Nat} (h : RMid w f x sv bo ov W) (hg : W.grownBy W2 (some g)) (h4 : w.heap.size + 4 ≤ g) (hne : g = bo → False) : RMid w f x sv bo ov W2 :=
  ⟨h.below.trans (grown_below hg h.below.size (fun q hq => by cases hq; omega)), (hg.block _ (blk_lt h.f) (fun e => by have := Option.some.inj e; omega)).trans h.f, (hg.block _ (blk_lt h.s) (fun e => by have := Option.some.inj e; omega)).trans h.s, (hg.block _ (blk_lt h.x) (fun e => by have := Option.some.inj e; omega)).trans h.x, (hg.block _ (blk_lt h.r) (fun e => by have := Option.some.inj e; omega)).trans h.r, (hg.block _ (blk_lt h.o) (fun e => hne (Option.some.inj e).symm)).trans h.o, h.bo⟩
theorem RMid.mono {w : World} {f : E.Fd} {x : E.Nt} {sv : Array Value} {bo : Nat} {ov : Array Value} {W W2 : World} (h : RMid w f x sv bo ov W) (hb : Below W.heap.size W W2) : RMid w f x sv bo ov W2 :=
  ⟨zbT h.below hb h.below.size, (hb.block _ (blk_lt h.f)).trans h.f, (hb.block _ (blk_lt h.s)).trans h.s, (hb.block _ (blk_lt h.x)).trans h.x, (hb.block _ (blk_lt h.r)).trans h.r, (hb.block _ (blk_lt h.o)).trans h.o, h.bo⟩
theorem RMid.setO {w : World} {f : E.Fd} {x : E.Nt} {sv : Array Value} {bo : Nat} {ov ov2 : Array Value} {W W2 : World} (h : RMid w f x sv bo ov W) (hg : W.grownBy W2 (some bo)) (ho : W2.heap[bo]? = some (.cells ov2 53 (0, 0))) : RMid w f x sv bo ov2 W2 :=
  have hbo := h.bo
  ⟨h.below.trans (grown_below hg h.below.size (fun q hq => by cases hq; omega)), (hg.block _ (blk_lt h.f) (fun e => by have := Option.some.inj e; omega)).trans h.f, (hg.block _ (blk_lt h.s) (fun e => by have := Option.some.inj e; omega)).trans h.s, (hg.block _ (blk_lt h.x) (fun e => by have := Option.some.inj e; omega)).trans h.x, (hg.block _ (blk_lt h.r) (fun e => by have := Option.some.inj e; omega)).trans h.r, ho, h.bo⟩
theorem own_blk {w : World} {base g N c n size : Nat} {e : TypeId} {xs : List Value} (h : w.ownsRow base e size (.slice (some ⟨g, 0, Option.none⟩) N c) n xs) : ∃ cs, w.heap[g]? = some (.cells cs e (0, 0)) := by
  rcases h.2 with ⟨h1, _⟩ | ⟨g', cap, cur, h1, _, hh, _⟩
  · cases h1
  · simp only [Value.slice.injEq, Option.some.injEq, Addr.mk.injEq] at h1
    obtain ⟨⟨rfl, _⟩, _, rfl⟩ := h1
    exact ⟨cur, hh⟩
theorem stw_fin {w W : World} {ok : Nat → Prop} {z0 m c1 n3 c3 : Nat} {A1 A3 : Option Addr} {wv : Value} {bk : Int} {Pl : List E.Rp} {wl ins : List Int} (hb : Below w.heap.size w W) (hown : W.ownsRow z0 57 7 (.slice A1 m c1) m (flatP Pl)) (hz : w.heap.size ≤ z0) (hlen : Pl.length = m) (hw : IntsW W (fun b => ok b ∨ w.heap.size ≤ b) wv wl) (hi : ins.length = n3)
    (hii : ∀ W' : World, w.heap.size ≤ W'.heap.size → (∀ b, b < w.heap.size → ok b → W'.heap[b]? = w.heap[b]?) → RdI W' W'.heap.size A3 ins) : StW W (fun b => ok b ∨ w.heap.size ≤ b) (.agg #[.slice A1 m c1, wv, .int .i64 bk, .slice A3 n3 c3]) ⟨Pl, wl, bk, ins⟩ := by
  obtain ⟨A2, n2, c2, rfl, w1, w2, w3⟩ := hw
  refine ⟨A1, m, c1, A2, n2, c2, A3, n3, c3, rfl, hlen, own_nil hown, w1, w2, hi, fun W' hW hk => ⟨?_, w3 W' hW hk, ?_⟩⟩
  · exact owns_RdP (owns_agree hown (fun b hb2 hbase => hk b hb2 (.inr (Nat.le_trans hz hbase)))) hlen
  · exact hii W' (Nat.le_trans hb.size hW) (fun b hb2 ho => (hk b (Nat.lt_of_lt_of_le hb2 hb.size) (.inl ho)).trans (hb.block b hb2))
theorem RMid.mono' {w : World} {f : E.Fd} {x : E.Nt} {sv : Array Value} {bo : Nat} {ov : Array Value} {W W2 : World} {row : Option Nat} (h : RMid w f x sv bo ov W) (hg : W.grownBy W2 row) (h4 : ∀ q, row = some q → w.heap.size + 4 ≤ q) (hne : row ≠ some bo) : RMid w f x sv bo ov W2 :=
  ⟨h.below.trans (grown_below hg h.below.size (fun q hq => by have := h4 q hq; omega)), (hg.block _ (blk_lt h.f) (fun e => by have := h4 _ e.symm; omega)).trans h.f, (hg.block _ (blk_lt h.s) (fun e => by have := h4 _ e.symm; omega)).trans h.s, (hg.block _ (blk_lt h.x) (fun e => by have := h4 _ e.symm; omega)).trans h.x, (hg.block _ (blk_lt h.r) (fun e => by have := h4 _ e.symm; omega)).trans h.r, (hg.block _ (blk_lt h.o) (fun e => hne e.symm)).trans h.o, h.bo⟩
set_option maxRecDepth 100000 in
set_option maxHeartbeats 64000000 in
theorem take_ref (f : E.Fd) (v : Value) (s : E.Rs) (x : E.Nt) (ok : Nat → Prop) (w : World) (hs : StW w ok v s) (h1 : s.people.length ≤ 199) (h2 : s.wilds.length ≤ 199) (hk0 : 0 ≤ s.back) (hk1 : s.back ≤ 200) :
    Calls Tryz.prog 62 #[.agg #[.int .i64 f.places, .int .i64 f.wilds, .int .i64 f.guards, .int .i64 f.close, .int .i64 f.freeze], v, .agg #[.int .i64 x.id, .int .i64 x.hour, .int .i64 x.kind, .int .i64 x.player, .int .i64 x.rank]] w fun e w' => ∃ v', e = .returned v' ∧ StW w' (fun b => ok b ∨ w.heap.size ≤ b) v' (E.rtake f s x) ∧ Below w.heap.size w w' := by
  have HS0 := hide hs
  have hs0 := hs
  clear hs
  obtain ⟨An, nn, cn, A2, n2, c2, A3, n3, c3, rfl, s1, s3, s4, s6, s7, s8⟩ := hs0
  have HRW := hide (s8 w (Nat.le_refl _) (fun _ _ _ => rfl))
  have HWI := hide (show IntsW w ok (.slice A2 n2 c2) s.wilds from ⟨A2, n2, c2, rfl, s4, s6, fun W hW hk => (s8 W hW hk).2.1⟩)
  have HII := hide (show ∀ W' : World, w.heap.size ≤ W'.heap.size → (∀ b, b < w.heap.size → ok b → W'.heap[b]? = w.heap[b]?) → RdI W' W'.heap.size A3 s.ins from fun W hW hk => (s8 W hW hk).2.2)
  have HIN := hide s7
  have HL := hide (And.intro s1 (And.intro s3 (And.intro s4 s6)))
  have hn199 : nn ≤ 199 := by omega
  have hw199 : n2 ≤ 199 := by omega
  clear s1 s3 s4 s6 s7 s8 h1 h2
  obtain ⟨PP, hPP⟩ : ∃ q, s.with_ x.player = q := ⟨_, rfl⟩
  obtain ⟨n, hnx⟩ : ∃ q, E.idxR PP x.player = q := ⟨_, rfl⟩
  obtain ⟨m, hmx⟩ : ∃ q, PP.length = q := ⟨_, rfl⟩
  have HIL := E.idxR_lt (E.with_mem s x.player)
  rw [hPP, hnx, hmx] at HIL
  obtain ⟨hnm, p, hpn, hpx⟩ := HIL
  have HPP := hide hPP
  have HIX := hide hnx
  have HM := hide hmx
  have HPN := hide hpn
  have HGT := hide (show PP.getD n (E.Rp.new x.player) = p by rw [List.getD_eq_getElem?_getD, hpn]; rfl)
  have hm200 : m ≤ 200 := by have := E.with_length s x.player; rw [hPP, hmx] at this; have := HL.out.1; omega
  clear hPP hnx hmx hpn hpx
  go_enter Tryz.func62, Tryz.ntmps62
  go_upto_region 1 with fail
  obtain ⟨w0, hw0⟩ : ∃ q, (((w.alloc (.cells #[.int .i64 f.places, .int .i64 f.wilds, .int .i64 f.guards, .int .i64 f.close, .int .i64 f.freeze] 23)).alloc (.cells #[.slice An nn cn, .slice A2 n2 c2, .int .i64 s.back, .slice A3 n3 c3] 53)).alloc (.cells #[.int .i64 x.id, .int .i64 x.hour, .int .i64 x.kind, .int .i64 x.player, .int .i64 x.rank] 70)).alloc (.cells #[.slice none 0 0, .slice none 0 0, .int .i64 0, .slice none 0 0] 53) = q := ⟨_, rfl⟩
  have HB0 := hide (show Below w.heap.size w w0 by rw [← hw0]; (repeat' first | exact zbR _ _ | assumption | refine zbD ?_ | refine zbA ?_ ?_ _ | refine zbS ?_ ?_ _ | refine zbT ?_ (by assumption) ?_ | (simp; done) | (simp; omega) | omega))
  have HF0 := hide (show w0.heap[w.heap.size]? = some (.cells #[.int .i64 f.places, .int .i64 f.wilds, .int .i64 f.guards, .int .i64 f.close, .int .i64 f.freeze] 23 (0, 0)) by rw [← hw0]; exact (Below.heap_alloc _ _ _ (by first | (simp; done) | (simp; omega) | omega)).trans ((Below.heap_alloc _ _ _ (by first | (simp; done) | (simp; omega) | omega)).trans ((Below.heap_alloc _ _ _ (by first | (simp; done) | (simp; omega) | omega)).trans (World.alloc_heap_new _ _))))
  have HA0 := hide (show w0.heap[w.heap.size + 1]? = some (.cells #[.slice An nn cn, .slice A2 n2 c2, .int .i64 s.back, .slice A3 n3 c3] 53 (0, 0)) by rw [← hw0]; exact (Below.heap_alloc _ _ _ (by first | (simp; done) | (simp; omega) | omega)).trans ((Below.heap_alloc _ _ _ (by first | (simp; done) | (simp; omega) | omega)).trans ((congrArg _ (by simp)).trans (World.alloc_heap_new _ _))))
  have HN0 := hide (show w0.heap[w.heap.size + 1 + 1]? = some (.cells #[.int .i64 x.id, .int .i64 x.hour, .int .i64 x.kind, .int .i64 x.player, .int .i64 x.rank] 70 (0, 0)) by rw [← hw0]; exact (Below.heap_alloc _ _ _ (by first | (simp; done) | (simp; omega) | omega)).trans ((congrArg _ (by simp)).trans (World.alloc_heap_new _ _)))
  have HT0 := hide (show w0.heap[w.heap.size + 1 + 1 + 1]? = some (.cells #[.slice none 0 0, .slice none 0 0, .int .i64 0, .slice none 0 0] 53 (0, 0)) by rw [← hw0]; exact (congrArg _ (by simp)).trans (World.alloc_heap_new _ _))
  have hz4 : w0.heap.size = w.heap.size + 4 := by rw [← hw0]; simp
  rw [hw0]
  clear hw0
  obtain ⟨z0, hz0⟩ : ∃ q, w0.heap.size = q := ⟨_, rfl⟩
  have HZ4 := hide (show z0 = w.heap.size + 4 by omega)
  have HZ0 := hide hz0
  have HZL := hide (show w.heap.size ≤ z0 by omega)
  clear hz4 hz0
  refine rtake1 (fun _ _ d _ _ h => by cases d <;> exact h) (w.heap.size + 1) An nn cn s.people A2 A3 n2 c2 n3 c3 s.back w0 HA0.out HL.out.1 ((HRW.out.1.below HB0.out).mono HB0.out.size) HL.out.2.1 (by omega) _ _ _ _ _ _ _ _ _ _ _ _ _ _ _ _ _ _ _ _ _ _ _ _ _ _ _ _ _ _ _ _ _ _ _ _ _ _ _ _ _ _ _ _ _ _ _ _ _ _ _ _ _ _ _ _ _ _ _ _ _ _ _ _ _ _ _ _ _ _ _ _ _ _ _ _ _ _ _ _ _ _ _ _ _ _ _ _ _ _ _ _ _ _ _ _ _ _ _ _ _ _ _ _ _ _ _ _ _ _ _ _ _ _ _ _ _ _ _ _ _ _ _ _ _ _ _ _ _ _ _ _ _ _ _ _ _ _ _ _ _ _ _ _ _ _ _ _ _ _ _ _ _ _  ?_
  intro v0 v1 v2 v3 v4 v5 v6 v7 v8 v9 v10 bo A1 c1 W1 HQ1 HO1 HBO HB1
  rw [HZ0.out] at HO1 HBO
  have M1 : Hid (RMid w f x #[.slice An nn cn, .slice A2 n2 c2, .int .i64 s.back, .slice A3 n3 c3] bo #[.slice A1 nn c1, .slice A2 n2 c2, .int .i64 s.back, .slice A3 n3 c3] W1) := hide ⟨zbT HB0.out HB1.out HB0.out.size, (HB1.out.block _ (blk_lt HF0.out)).trans HF0.out, (HB1.out.block _ (blk_lt HA0.out)).trans HA0.out, (HB1.out.block _ (blk_lt HN0.out)).trans HN0.out, (HB1.out.block _ (blk_lt HT0.out)).trans HT0.out, HQ1.out, by have h1 := HBO.out; have h2 := HZ4.out; omega⟩
  clear HQ1 HBO HB1 HB0 HF0 HA0 HN0 HT0
  obtain ⟨av, hav⟩ : ∃ q, atV s.people x.player = q := ⟨_, rfl⟩
  have HAV := hide hav
  clear hav
  have yo0 : W1.cell? ⟨bo, 0, none⟩ = some (.slice A1 nn c1) := (blk_cell M1.out.o 0).trans rfl
  have yo1 : W1.cell? ⟨bo, 1, none⟩ = some (.slice A2 n2 c2) := (blk_cell M1.out.o 1).trans rfl
  have yo2 : W1.cell? ⟨bo, 2, none⟩ = some (.int .i64 s.back) := (blk_cell M1.out.o 2).trans rfl
  have yo3 : W1.cell? ⟨bo, 3, none⟩ = some (.slice A3 n3 c3) := (blk_cell M1.out.o 3).trans rfl
  have lyo := blk_lt M1.out.o
  have yx3 : W1.cell? ⟨w.heap.size + 1 + 1, 3, none⟩ = some (.int .i64 x.player) := (blk_cell M1.out.x 3).trans rfl
  have lx1 := blk_lt M1.out.x
  go_upto_if 26 with (go_at_call 25; refine (at_ref A1 nn c1 s.people A2 n2 c2 s.back A3 n3 c3 x.player W1 HL.out.1 (owns_RdP HO1.out HL.out.1) (by omega)).mono ?_; rintro e W2 ⟨rfl, hb2⟩; rw [HAV.out]; have M2 := hide (M1.out.mono hb2); have HO2 := hide (owns_below HO1.out hb2); clear hb2)
  clear yo0 yo1 yo2 yo3 lyo yx3 lx1 M1 HO1
  go_cut [8] from 10 (fun v8 wx => ∃ (A5 : Option Addr) (c5 : Nat), v8 = .int .i64 (n : Int) ∧ Hid (RMid w f x #[.slice An nn cn, .slice A2 n2 c2, .int .i64 s.back, .slice A3 n3 c3] bo #[.slice A5 m c5, .slice A2 n2 c2, .int .i64 s.back, .slice A3 n3 c3] wx) ∧ Hid (wx.ownsRow z0 57 7 (.slice A5 m c5) m (flatP PP)))
  case first =>
    by_cases c : av < 0
    · have HNO := hide (show ¬ (s.people.any (fun p => p.player == x.player)) = true by
        intro hc
        have h1 := HAV.out
        unfold atV at h1
        rw [if_pos hc] at h1
        omega)
      have HPA := hide (show PP = s.people ++ [E.Rp.new x.player] by rw [← HPP.out]; unfold E.Rs.with_; rw [if_neg HNO.out])
      have HMA := hide (show m = nn + 1 by rw [← HM.out, HPA.out, List.length_append, HL.out.1]; rfl)
      have HNA := hide (show n = nn by
        rw [← HIX.out, HPA.out]
        unfold E.idxR
        rw [List.findIdx_append]
        have h1 : s.people.findIdx (fun p => p.player == x.player) = s.people.length := List.findIdx_eq_length.2 (fun y hy => by
          have h2 := HNO.out
          rw [List.any_eq_true] at h2
          simpa using fun e => h2 ⟨y, hy, by simp [e]⟩)
        rw [h1, if_neg (by omega), HL.out.1]
        simp [E.Rp.new])
      have yo0 : W2.cell? ⟨bo, 0, none⟩ = some (.slice A1 nn c1) := (blk_cell M2.out.o 0).trans rfl
      have fo0 := blk_frozen M2.out.o 0
      have yx3 : W2.cell? ⟨w.heap.size + 1 + 1, 3, none⟩ = some (.int .i64 x.player) := (blk_cell M2.out.x 3).trans rfl
      have lyo := blk_lt M2.out.o
      have lx1 := blk_lt M2.out.x
      go_upto_region 5 with (at_builtin; refine wpList_app_Ps rfl (.tmp 28) (.tmp 32) rfl z0 (.slice A1 nn c1) s.people nn rfl (HO2.out.kept (World.grownBy_alloc _ _ none) (Classical.em _)) HL.out.1 (some ⟨_, 0, none⟩) 1 1 [E.Rp.new x.player] rfl rfl (rdP_one (World.alloc_heap_new _ _)) (fun e => by cases e) (by omega) (by omega) (by have h1 := M2.out.below.size; have h2 := HZ4.out; have h3 := blk_lt M2.out.o; have h4 := M2.out.bo; simp; omega) (nn + 1) rfl ?_; intro A5 c5 w9 hown hgrow; have HO9 := hide hown; have M9 := hide (show RMid w f x #[.slice An nn cn, .slice A2 n2 c2, .int .i64 s.back, .slice A3 n3 c3] bo #[.slice A1 nn c1, .slice A2 n2 c2, .int .i64 s.back, .slice A3 n3 c3] w9 from (M2.out.mono (zbA (zbR _ _) (Nat.le_refl _) _)).mono' hgrow (by have h1 := HZ4.out; exact fun q hq => by have h2 := ((HO2.out.kept (World.grownBy_alloc W2 (.cells (pc (E.Rp.new x.player)).toArray 57) none) (Classical.em _)).lt q hq).1; omega) (row_ne (HO2.out.kept (World.grownBy_alloc W2 (.cells (pc (E.Rp.new x.player)).toArray 57) none) (Classical.em _)) ((M2.out.mono (zbA (zbR _ _) (Nat.le_refl _) (.cells (pc (E.Rp.new x.player)).toArray 57))).o) (by decide))); clear hown hgrow; have yo9 : w9.cell? ⟨bo, 0, none⟩ = some (.slice A1 nn c1) := (blk_cell M9.out.o 0).trans rfl; have fo9 := blk_frozen M9.out.o 0; have lo9 := blk_lt M9.out.o)
      clear yo0 fo0 yx3 lyo lx1
      obtain ⟨W5, hW5⟩ : ∃ q, w9.setCell ⟨bo, 0, none⟩ (.slice A5 (nn + 1) c5) = q := ⟨_, rfl⟩
      have HG5 := hide (show w9.grownBy W5 (some bo) by rw [← hW5]; exact gr_set _ _ _ _)
      have HQ5 := hide (show W5.heap[bo]? = some (.cells #[.slice A5 (nn + 1) c5, .slice A2 n2 c2, .int .i64 s.back, .slice A3 n3 c3] 53 (0, 0)) by rw [← hW5]; exact blk_set M9.out.o 0 _)
      rw [hW5]
      clear hW5 yo9 fo9 lo9
      have M5 := hide (M9.out.setO HG5.out HQ5.out)
      have HO5 := hide (HO9.out.kept HG5.out (.inr (row_ne HO9.out M9.out.o (by decide))))
      have y50 : W5.cell? ⟨bo, 0, none⟩ = some (.slice A5 (nn + 1) c5) := (blk_cell M5.out.o 0).trans rfl
      have l50 := blk_lt M5.out.o
      have hw1 : IntKind.i64.wrap ((nn : Int) + 1 - 1) = (nn : Int) := by rw [show (nn : Int) + 1 - 1 = (nn : Int) by omega]; exact IntWalk.i64_in _ (by omega)
      have hw2 : IntKind.i64.wrap (nn : Int) = (nn : Int) := IntWalk.i64_in _ (by omega)
      go_wp2_with fail
      go_meet
      case rel => exact ⟨A5, c5, by rw [HNA.out], by rw [HMA.out]; exact M5, by rw [HMA.out, HPA.out]; exact HO5⟩
    · have HYES := hide (show (s.people.any (fun p => p.player == x.player)) = true by
        cases hc : s.people.any (fun p => p.player == x.player) with
        | true => rfl
        | false =>
          exfalso
          have h1 := HAV.out
          unfold atV at h1
          rw [if_neg (by rw [hc]; decide)] at h1
          omega)
      have HPA := hide (show PP = s.people by rw [← HPP.out]; unfold E.Rs.with_; rw [if_pos HYES.out])
      have HMA := hide (show m = nn by rw [← HM.out, HPA.out, HL.out.1])
      have HNA := hide (show av = (n : Int) by rw [← HAV.out, ← HIX.out, HPA.out]; unfold atV; rw [if_pos HYES.out])
      have hc0 : 0 ≤ av := by omega
      clear c
      go_wp2_with fail
      go_meet
      case rel => exact ⟨A1, c1, by rw [HNA.out], by rw [HMA.out]; exact M2, by rw [HMA.out, HPA.out]; exact HO2⟩
  case rest =>
    clear M2 HO2 HAV
    obtain ⟨A5, c5, rfl, M2, HO2⟩ := hcut
    obtain ⟨W2, hW2⟩ : ∃ q, wc = q := ⟨_, rfl⟩
    rw [hW2] at M2 HO2 ⊢
    clear hW2
    obtain ⟨gA, hgA, hgz⟩ := own_block7 HO2.out (by omega)
    subst hgA
    have HGA := hide (show w.heap.size + 4 ≤ gA by have := HZ4.out; omega)
    clear hgz
    obtain ⟨bA, oA, heA, _, d0, d1, d2, d3, d4, d5, d6⟩ := (owns_RdP HO2.out HM.out) n p HPN.out
    simp only [Option.some.injEq, Addr.mk.injEq, and_true] at heA
    obtain ⟨rfl, rfl⟩ := heA
    rw [Nat.zero_add] at d0 d1 d2 d3 d4 d5 d6
    have lgA := (HO2.out.lt gA rfl).2
    have yo0 : W2.cell? ⟨bo, 0, none⟩ = some (.slice (some ⟨gA, 0, none⟩) m c5) := (blk_cell M2.out.o 0).trans rfl
    have lyo := blk_lt M2.out.o
    have hni0 : (0 : Int) ≤ (n : Int) := by omega
    have hnim : (n : Int) < (m : Int) := by omega
    go_upto_region 7 with fail
    obtain ⟨W3, hW3⟩ : ∃ q, W2.alloc (.cells #[.int .i64 p.player, .int .i64 p.rank, .bool p.grd, .bool p.ent, .bool p.quit, .bool p.sgn, .bool p.card] 57) = q := ⟨_, rfl⟩
    have MW3 := hide (show RMid w f x #[.slice An nn cn, .slice A2 n2 c2, .int .i64 s.back, .slice A3 n3 c3] bo #[.slice (some ⟨gA, 0, none⟩) m c5, .slice A2 n2 c2, .int .i64 s.back, .slice A3 n3 c3] W3 by rw [← hW3]; exact M2.out.mono (zbA (zbR _ _) (Nat.le_refl _) _))
    have M3 := MW3
    have HP3 := hide (show W3.heap[W2.heap.size]? = some (.cells #[.int .i64 p.player, .int .i64 p.rank, .bool p.grd, .bool p.ent, .bool p.quit, .bool p.sgn, .bool p.card] 57 (0, 0)) by rw [← hW3]; exact World.alloc_heap_new _ _)
    have HO3 := hide (show W3.ownsRow z0 57 7 (.slice (some ⟨gA, 0, none⟩) m c5) m (flatP PP) by rw [← hW3]; exact HO2.out.kept (World.grownBy_alloc _ _ none) (Classical.em _))
    have HNE := hide (show (Value.slice (some ⟨gA, 0, none⟩) m c5).ownBlock ≠ some W2.heap.size from own_fresh HO2.out)
    have HBN := hide (show W2.heap.size ≠ bo by have := blk_lt M2.out.o; omega)
    have HB4 := hide (show w.heap.size + 4 ≤ W2.heap.size by have h1 := blk_lt M2.out.o; have h2 := M2.out.bo; omega)
    rw [hW3]
    obtain ⟨bp, hbp⟩ : ∃ q, W2.heap.size = q := ⟨_, rfl⟩
    rw [hbp] at HP3 HNE HBN HB4 ⊢
    clear hW3 hbp d0 d1 d2 d3 d4 d5 d6 lgA yo0 lyo hni0 hnim M2 HO2
    have yk : W3.cell? ⟨w.heap.size + 1 + 1, 2, none⟩ = some (.int .i64 x.kind) := (blk_cell M3.out.x 2).trans rfl
    have lk := blk_lt M3.out.x
    by_cases h1 : x.kind = 1
    · have HKD := hide h1
      have d1 : (x.kind == 1) = true := by rw [h1]; rfl
      clear h1
      have yx1 : W3.cell? ⟨w.heap.size + 1 + 1, 1, none⟩ = some (.int .i64 x.hour) := (blk_cell M3.out.x 1).trans rfl
      have yf3 : W3.cell? ⟨w.heap.size, 3, none⟩ = some (.int .i64 f.close) := (blk_cell M3.out.f 3).trans rfl
      have yp3 : W3.cell? ⟨bp, 3, none⟩ = some (.bool p.ent) := (blk_cell HP3.out 3).trans rfl
      have lf := blk_lt M3.out.f
      have lp := blk_lt HP3.out
      by_cases c : f.close < x.hour
      · go_upto_region 11 with fail
        clear yx1 yf3 yp3 lf lp yk lk
        have HC := hide c
        clear c
        have ya0 : W3.cell? ⟨w.heap.size + 1, 0, none⟩ = some (.slice An nn cn) := (blk_cell MW3.out.s 0).trans rfl
        have ya1 : W3.cell? ⟨w.heap.size + 1, 1, none⟩ = some (.slice A2 n2 c2) := (blk_cell MW3.out.s 1).trans rfl
        have ya2 : W3.cell? ⟨w.heap.size + 1, 2, none⟩ = some (.int .i64 s.back) := (blk_cell MW3.out.s 2).trans rfl
        have ya3 : W3.cell? ⟨w.heap.size + 1, 3, none⟩ = some (.slice A3 n3 c3) := (blk_cell MW3.out.s 3).trans rfl
        have lya := blk_lt MW3.out.s
        have yz0 : W3.cell? ⟨w.heap.size + 1 + 1 + 1, 0, none⟩ = some (.slice none 0 0) := (blk_cell MW3.out.r 0).trans rfl
        have yz1 : W3.cell? ⟨w.heap.size + 1 + 1 + 1, 1, none⟩ = some (.slice none 0 0) := (blk_cell MW3.out.r 1).trans rfl
        have yz2 : W3.cell? ⟨w.heap.size + 1 + 1 + 1, 2, none⟩ = some (.int .i64 0) := (blk_cell MW3.out.r 2).trans rfl
        have yz3 : W3.cell? ⟨w.heap.size + 1 + 1 + 1, 3, none⟩ = some (.slice none 0 0) := (blk_cell MW3.out.r 3).trans rfl
        have lyz := blk_lt MW3.out.r
        have fz0 := blk_frozen MW3.out.r 0
        have fz1 := blk_frozen MW3.out.r 1
        have fz2 := blk_frozen MW3.out.r 2
        have fz3 := blk_frozen MW3.out.r 3
        go_wp2_with fail
        obtain ⟨w8, hw8⟩ : ∃ q, (((W3.setCell ⟨w.heap.size + 1 + 1 + 1, 0, none⟩ (.slice An nn cn)).setCell ⟨w.heap.size + 1 + 1 + 1, 1, none⟩ (.slice A2 n2 c2)).setCell ⟨w.heap.size + 1 + 1 + 1, 2, none⟩ (.int .i64 s.back)).setCell ⟨w.heap.size + 1 + 1 + 1, 3, none⟩ (.slice A3 n3 c3) = q := ⟨_, rfl⟩
        have HT8 := hide (show w8.heap[w.heap.size + 1 + 1 + 1]? = some (.cells #[.slice An nn cn, .slice A2 n2 c2, .int .i64 s.back, .slice A3 n3 c3] 53 (0, 0)) by rw [← hw8]; exact blk_set (blk_set (blk_set (blk_set MW3.out.r 0 _) 1 _) 2 _) 3 _)
        have HG8 := hide (show W3.grownBy w8 (some (w.heap.size + 1 + 1 + 1)) by rw [← hw8]; exact gr_trans (gr_trans (gr_trans (gr_set _ _ _ _) (gr_set _ _ _ _)) (gr_set _ _ _ _)) (gr_set _ _ _ _))
        rw [hw8]
        clear hw8
        have HB8 := hide (MW3.out.below.trans (grown_below HG8.out MW3.out.below.size (fun g hg => by cases hg; omega)))
        have HSD := hide (show E.rtake f s x = s by (unfold E.rtake; dsimp only; rw [HPP.out, HIX.out, HGT.out]; rw [if_pos (.inl HKD.out), if_pos (.inl HC.out)]))
        have HST := hide (show StW w8 (fun b => ok b ∨ w.heap.size ≤ b) (.agg #[.slice An nn cn, .slice A2 n2 c2, .int .i64 s.back, .slice A3 n3 c3]) (E.rtake f s x) by
          rw [HSD.out]
          exact HS0.out.to HB8.out.size (fun b hb _ => HB8.out.block b hb) (fun b hb hk => .inl hk))
        have r0 : w8.cell? ⟨w.heap.size + 1 + 1 + 1, 0, none⟩ = some (.slice An nn cn) := (blk_cell HT8.out 0).trans rfl
        have r1 : w8.cell? ⟨w.heap.size + 1 + 1 + 1, 1, none⟩ = some (.slice A2 n2 c2) := (blk_cell HT8.out 1).trans rfl
        have r2 : w8.cell? ⟨w.heap.size + 1 + 1 + 1, 2, none⟩ = some (.int .i64 s.back) := (blk_cell HT8.out 2).trans rfl
        have r3 : w8.cell? ⟨w.heap.size + 1 + 1 + 1, 3, none⟩ = some (.slice A3 n3 c3) := (blk_cell HT8.out 3).trans rfl
        have lr := blk_lt HT8.out
        exact bodyPost_ret (v := .agg #[.slice An nn cn, .slice A2 n2 c2, .int .i64 s.back, .slice A3 n3 c3]) (by simp [results, Tryz.results62, go_sem, r0, r1, r2, r3]) rfl ⟨_, rfl, HST.out, HB8.out⟩
      · have c' : x.hour ≤ f.close := by omega
        clear c
        obtain ⟨pe, hpe⟩ : ∃ q, p.ent = q := ⟨_, rfl⟩
        rw [hpe] at yp3
        cases pe
        · go_upto_region 12 with fail
          clear yx1 yf3 yp3 lf lp yk lk
          have HC := hide c'
          have HPE := hide hpe
          clear c' hpe
          refine rtake12 (fun _ _ d _ _ h => by cases d <;> exact h) (w.heap.size + 1 + 1) bp x p W3 M3.out.x HP3.out (by have h1 := HB4.out; omega) _ _ _ _ _ _ _ _ _ _ _ _ _ _ _ _ _ _ _ _ _ _ _ _ _ _ _ _ _ _ _ _ _ _ _ _ _ _ _ _ _ _ _ _ _ _ _ _ _ _ _ _ _ _ _ _ _ _ _ _ _ _ _ _ _ _ _ _ _ _ _ _ _ _ _ _ _ _ _ _ _ _ _ _ _ _ _ _ _ _ _ _ _ _ _ _ _ _ _ _ _ _ _ _ _ _ _ _ _ _ _ _ _ _ _ _ _ _ _ _ _ _ _ _ _ _ _ _ _ _ _ _ _ _ _ _ _ _ _ _ _ _ _ _ _ _ _ _ _ _ _ _ _  ?_
          intro v0 v1 v2 v3 v4 v5 v6 v7 W4 HP4 HG4
          obtain ⟨q, hq⟩ : ∃ q : E.Rp, q = { p with ent := true, rank := x.rank, grd := decide (x.kind = 2) } := ⟨_, rfl⟩
          have HQE := hide hq
          have HPq := hide (show W4.heap[bp]? = some (.cells #[.int .i64 q.player, .int .i64 q.rank, .bool q.grd, .bool q.ent, .bool q.quit, .bool q.sgn, .bool q.card] 57 (0, 0)) by rw [hq]; exact HP4.out)
          clear hq
          have M4 := hide (M3.out.grown HG4.out HB4.out HBN.out)
          have HO4 := hide (HO3.out.kept HG4.out (.inr HNE.out))
          go_upto_region 13 with fail
          refine rtake13 (fun _ _ d _ _ h => by cases d <;> exact h) bo bp n m c5 (some ⟨gA, 0, none⟩) PP q (.slice A2 n2 c2) (.slice A3 n3 c3) s.back z0 W4 M4.out.o HPq.out HM.out HO4.out hnm (by omega) _ _ _ _ _ _ _ _ _ _ _ _ _ _ _ _ _ _ _ _ _ _ _ _ _ _ _ _ _ _ _ _ _ _ _ _ _ _ _ _ _ _ _ _ _ _ _ _ _ _ _ _ _ _ _ _ _ _ _ _ _ _ _ _ _ _ _ _ _ _ _ _ _ _ _ _ _ _ _ _ _ _ _ _ _ _ _ _ _ _ _ _ _ _ _ _ _ _ _ _ _ _ _ _ _ _ _ _ _ _ _ _ _ _ _ _ _ _ _ _ _ _ _ _ _ _ _ _ _ _ _ _ _ _ _ _ _ _ _ _ _ _ _ _ _ _ _ _ _ _ _ _  ?_
          intro g0 g1 g2 g3 g4 g5 g6 g7 g8 g9 g10 g11 g12 g13 g14 g15 A6 c6 W5 HQ5 HO5 HG5
          have MW5 := hide (M4.out.setO HG5.out HQ5.out)
          have HOW := hide (owns_mono HO5.out (show z0 ≤ W4.heap.size by have h1 := M4.out.bo; have h2 := blk_lt M4.out.o; have h3 := HZ4.out; omega))
          clear HO5 HQ5
          have yo0 : W5.cell? ⟨bo, 0, none⟩ = some (.slice A6 m c6) := (blk_cell MW5.out.o 0).trans rfl
          have yo1 : W5.cell? ⟨bo, 1, none⟩ = some (.slice A2 n2 c2) := (blk_cell MW5.out.o 1).trans rfl
          have yo2 : W5.cell? ⟨bo, 2, none⟩ = some (.int .i64 s.back) := (blk_cell MW5.out.o 2).trans rfl
          have yo3 : W5.cell? ⟨bo, 3, none⟩ = some (.slice A3 n3 c3) := (blk_cell MW5.out.o 3).trans rfl
          have lyo := blk_lt MW5.out.o
          have yz0 : W5.cell? ⟨w.heap.size + 1 + 1 + 1, 0, none⟩ = some (.slice none 0 0) := (blk_cell MW5.out.r 0).trans rfl
          have yz1 : W5.cell? ⟨w.heap.size + 1 + 1 + 1, 1, none⟩ = some (.slice none 0 0) := (blk_cell MW5.out.r 1).trans rfl
          have yz2 : W5.cell? ⟨w.heap.size + 1 + 1 + 1, 2, none⟩ = some (.int .i64 0) := (blk_cell MW5.out.r 2).trans rfl
          have yz3 : W5.cell? ⟨w.heap.size + 1 + 1 + 1, 3, none⟩ = some (.slice none 0 0) := (blk_cell MW5.out.r 3).trans rfl
          have lyz := blk_lt MW5.out.r
          have fz0 := blk_frozen MW5.out.r 0
          have fz1 := blk_frozen MW5.out.r 1
          have fz2 := blk_frozen MW5.out.r 2
          have fz3 := blk_frozen MW5.out.r 3
          go_wp2_with fail
          obtain ⟨w8, hw8⟩ : ∃ q, (((W5.setCell ⟨w.heap.size + 1 + 1 + 1, 0, none⟩ (.slice A6 m c6)).setCell ⟨w.heap.size + 1 + 1 + 1, 1, none⟩ (.slice A2 n2 c2)).setCell ⟨w.heap.size + 1 + 1 + 1, 2, none⟩ (.int .i64 s.back)).setCell ⟨w.heap.size + 1 + 1 + 1, 3, none⟩ (.slice A3 n3 c3) = q := ⟨_, rfl⟩
          have HT8 := hide (show w8.heap[w.heap.size + 1 + 1 + 1]? = some (.cells #[.slice A6 m c6, .slice A2 n2 c2, .int .i64 s.back, .slice A3 n3 c3] 53 (0, 0)) by rw [← hw8]; exact blk_set (blk_set (blk_set (blk_set MW5.out.r 0 _) 1 _) 2 _) 3 _)
          have HG8 := hide (show W5.grownBy w8 (some (w.heap.size + 1 + 1 + 1)) by rw [← hw8]; exact gr_trans (gr_trans (gr_trans (gr_set _ _ _ _) (gr_set _ _ _ _)) (gr_set _ _ _ _)) (gr_set _ _ _ _))
          rw [hw8]
          clear hw8
          have HB8 := hide (MW5.out.below.trans (grown_below HG8.out MW5.out.below.size (fun g hg => by cases hg; omega)))
          have HSD := hide (show E.rtake f s x = ⟨PP.take n ++ PP.drop (n + 1) ++ [q], s.wilds, s.back, s.ins⟩ by (unfold E.rtake; dsimp only; rw [HPP.out, HIX.out, HGT.out]; rw [if_pos (.inl HKD.out), if_neg (fun hh => hh.elim (fun h1 => by have := HC.out; omega) (fun h1 => by rw [HPE.out] at h1; cases h1)), List.eraseIdx_eq_take_drop_succ, HQE.out]))
          have HO8 := hide (HOW.out.kept HG8.out (.inr (row_ne HOW.out MW5.out.r (by decide))))
          have HST := hide (show StW w8 (fun b => ok b ∨ w.heap.size ≤ b) (.agg #[.slice A6 m c6, .slice A2 n2 c2, .int .i64 s.back, .slice A3 n3 c3]) (E.rtake f s x) by
            rw [HSD.out]
            exact stw_fin (Pl := PP.take n ++ PP.drop (n + 1) ++ [q]) HB8.out HO8.out HZL.out (by first | (simp; exact HM.out) | exact HM.out | (simp [HM.out]; omega) | (simp; have := HM.out; omega)) (HWI.out.to HB8.out.size (fun b hb _ => HB8.out.block b hb) (fun b hb hk => .inl hk)) HIN.out (fun W' h1 h2 => HII.out W' h1 h2))
          have r0 : w8.cell? ⟨w.heap.size + 1 + 1 + 1, 0, none⟩ = some (.slice A6 m c6) := (blk_cell HT8.out 0).trans rfl
          have r1 : w8.cell? ⟨w.heap.size + 1 + 1 + 1, 1, none⟩ = some (.slice A2 n2 c2) := (blk_cell HT8.out 1).trans rfl
          have r2 : w8.cell? ⟨w.heap.size + 1 + 1 + 1, 2, none⟩ = some (.int .i64 s.back) := (blk_cell HT8.out 2).trans rfl
          have r3 : w8.cell? ⟨w.heap.size + 1 + 1 + 1, 3, none⟩ = some (.slice A3 n3 c3) := (blk_cell HT8.out 3).trans rfl
          have lr := blk_lt HT8.out
          exact bodyPost_ret (v := .agg #[.slice A6 m c6, .slice A2 n2 c2, .int .i64 s.back, .slice A3 n3 c3]) (by simp [results, Tryz.results62, go_sem, r0, r1, r2, r3]) rfl ⟨_, rfl, HST.out, HB8.out⟩
        · go_upto_region 11 with fail
          clear yx1 yf3 yp3 lf lp yk lk
          have HPE := hide hpe
          clear c' hpe
          have ya0 : W3.cell? ⟨w.heap.size + 1, 0, none⟩ = some (.slice An nn cn) := (blk_cell MW3.out.s 0).trans rfl
          have ya1 : W3.cell? ⟨w.heap.size + 1, 1, none⟩ = some (.slice A2 n2 c2) := (blk_cell MW3.out.s 1).trans rfl
          have ya2 : W3.cell? ⟨w.heap.size + 1, 2, none⟩ = some (.int .i64 s.back) := (blk_cell MW3.out.s 2).trans rfl
          have ya3 : W3.cell? ⟨w.heap.size + 1, 3, none⟩ = some (.slice A3 n3 c3) := (blk_cell MW3.out.s 3).trans rfl
          have lya := blk_lt MW3.out.s
          have yz0 : W3.cell? ⟨w.heap.size + 1 + 1 + 1, 0, none⟩ = some (.slice none 0 0) := (blk_cell MW3.out.r 0).trans rfl
          have yz1 : W3.cell? ⟨w.heap.size + 1 + 1 + 1, 1, none⟩ = some (.slice none 0 0) := (blk_cell MW3.out.r 1).trans rfl
          have yz2 : W3.cell? ⟨w.heap.size + 1 + 1 + 1, 2, none⟩ = some (.int .i64 0) := (blk_cell MW3.out.r 2).trans rfl
          have yz3 : W3.cell? ⟨w.heap.size + 1 + 1 + 1, 3, none⟩ = some (.slice none 0 0) := (blk_cell MW3.out.r 3).trans rfl
          have lyz := blk_lt MW3.out.r
          have fz0 := blk_frozen MW3.out.r 0
          have fz1 := blk_frozen MW3.out.r 1
          have fz2 := blk_frozen MW3.out.r 2
          have fz3 := blk_frozen MW3.out.r 3
          go_wp2_with fail
          obtain ⟨w8, hw8⟩ : ∃ q, (((W3.setCell ⟨w.heap.size + 1 + 1 + 1, 0, none⟩ (.slice An nn cn)).setCell ⟨w.heap.size + 1 + 1 + 1, 1, none⟩ (.slice A2 n2 c2)).setCell ⟨w.heap.size + 1 + 1 + 1, 2, none⟩ (.int .i64 s.back)).setCell ⟨w.heap.size + 1 + 1 + 1, 3, none⟩ (.slice A3 n3 c3) = q := ⟨_, rfl⟩
          have HT8 := hide (show w8.heap[w.heap.size + 1 + 1 + 1]? = some (.cells #[.slice An nn cn, .slice A2 n2 c2, .int .i64 s.back, .slice A3 n3 c3] 53 (0, 0)) by rw [← hw8]; exact blk_set (blk_set (blk_set (blk_set MW3.out.r 0 _) 1 _) 2 _) 3 _)
          have HG8 := hide (show W3.grownBy w8 (some (w.heap.size + 1 + 1 + 1)) by rw [← hw8]; exact gr_trans (gr_trans (gr_trans (gr_set _ _ _ _) (gr_set _ _ _ _)) (gr_set _ _ _ _)) (gr_set _ _ _ _))
          rw [hw8]
          clear hw8
          have HB8 := hide (MW3.out.below.trans (grown_below HG8.out MW3.out.below.size (fun g hg => by cases hg; omega)))
          have HSD := hide (show E.rtake f s x = s by (unfold E.rtake; dsimp only; rw [HPP.out, HIX.out, HGT.out]; rw [if_pos (.inl HKD.out), if_pos (.inr HPE.out)]))
          have HST := hide (show StW w8 (fun b => ok b ∨ w.heap.size ≤ b) (.agg #[.slice An nn cn, .slice A2 n2 c2, .int .i64 s.back, .slice A3 n3 c3]) (E.rtake f s x) by
            rw [HSD.out]
            exact HS0.out.to HB8.out.size (fun b hb _ => HB8.out.block b hb) (fun b hb hk => .inl hk))
          have r0 : w8.cell? ⟨w.heap.size + 1 + 1 + 1, 0, none⟩ = some (.slice An nn cn) := (blk_cell HT8.out 0).trans rfl
          have r1 : w8.cell? ⟨w.heap.size + 1 + 1 + 1, 1, none⟩ = some (.slice A2 n2 c2) := (blk_cell HT8.out 1).trans rfl
          have r2 : w8.cell? ⟨w.heap.size + 1 + 1 + 1, 2, none⟩ = some (.int .i64 s.back) := (blk_cell HT8.out 2).trans rfl
          have r3 : w8.cell? ⟨w.heap.size + 1 + 1 + 1, 3, none⟩ = some (.slice A3 n3 c3) := (blk_cell HT8.out 3).trans rfl
          have lr := blk_lt HT8.out
          exact bodyPost_ret (v := .agg #[.slice An nn cn, .slice A2 n2 c2, .int .i64 s.back, .slice A3 n3 c3]) (by simp [results, Tryz.results62, go_sem, r0, r1, r2, r3]) rfl ⟨_, rfl, HST.out, HB8.out⟩
    by_cases h2 : x.kind = 2
    · have HKD := hide h2
      have d1 : (x.kind == 1) = false := by rw [h2]; rfl
      have d2 : (x.kind == 2) = true := by rw [h2]; rfl
      clear h2
      clear h1
      have yx1 : W3.cell? ⟨w.heap.size + 1 + 1, 1, none⟩ = some (.int .i64 x.hour) := (blk_cell M3.out.x 1).trans rfl
      have yf3 : W3.cell? ⟨w.heap.size, 3, none⟩ = some (.int .i64 f.close) := (blk_cell M3.out.f 3).trans rfl
      have yp3 : W3.cell? ⟨bp, 3, none⟩ = some (.bool p.ent) := (blk_cell HP3.out 3).trans rfl
      have lf := blk_lt M3.out.f
      have lp := blk_lt HP3.out
      by_cases c : f.close < x.hour
      · go_upto_region 11 with fail
        clear yx1 yf3 yp3 lf lp yk lk
        have HC := hide c
        clear c
        have ya0 : W3.cell? ⟨w.heap.size + 1, 0, none⟩ = some (.slice An nn cn) := (blk_cell MW3.out.s 0).trans rfl
        have ya1 : W3.cell? ⟨w.heap.size + 1, 1, none⟩ = some (.slice A2 n2 c2) := (blk_cell MW3.out.s 1).trans rfl
        have ya2 : W3.cell? ⟨w.heap.size + 1, 2, none⟩ = some (.int .i64 s.back) := (blk_cell MW3.out.s 2).trans rfl
        have ya3 : W3.cell? ⟨w.heap.size + 1, 3, none⟩ = some (.slice A3 n3 c3) := (blk_cell MW3.out.s 3).trans rfl
        have lya := blk_lt MW3.out.s
        have yz0 : W3.cell? ⟨w.heap.size + 1 + 1 + 1, 0, none⟩ = some (.slice none 0 0) := (blk_cell MW3.out.r 0).trans rfl
        have yz1 : W3.cell? ⟨w.heap.size + 1 + 1 + 1, 1, none⟩ = some (.slice none 0 0) := (blk_cell MW3.out.r 1).trans rfl
        have yz2 : W3.cell? ⟨w.heap.size + 1 + 1 + 1, 2, none⟩ = some (.int .i64 0) := (blk_cell MW3.out.r 2).trans rfl
        have yz3 : W3.cell? ⟨w.heap.size + 1 + 1 + 1, 3, none⟩ = some (.slice none 0 0) := (blk_cell MW3.out.r 3).trans rfl
        have lyz := blk_lt MW3.out.r
        have fz0 := blk_frozen MW3.out.r 0
        have fz1 := blk_frozen MW3.out.r 1
        have fz2 := blk_frozen MW3.out.r 2
        have fz3 := blk_frozen MW3.out.r 3
        go_wp2_with fail
        obtain ⟨w8, hw8⟩ : ∃ q, (((W3.setCell ⟨w.heap.size + 1 + 1 + 1, 0, none⟩ (.slice An nn cn)).setCell ⟨w.heap.size + 1 + 1 + 1, 1, none⟩ (.slice A2 n2 c2)).setCell ⟨w.heap.size + 1 + 1 + 1, 2, none⟩ (.int .i64 s.back)).setCell ⟨w.heap.size + 1 + 1 + 1, 3, none⟩ (.slice A3 n3 c3) = q := ⟨_, rfl⟩
        have HT8 := hide (show w8.heap[w.heap.size + 1 + 1 + 1]? = some (.cells #[.slice An nn cn, .slice A2 n2 c2, .int .i64 s.back, .slice A3 n3 c3] 53 (0, 0)) by rw [← hw8]; exact blk_set (blk_set (blk_set (blk_set MW3.out.r 0 _) 1 _) 2 _) 3 _)
        have HG8 := hide (show W3.grownBy w8 (some (w.heap.size + 1 + 1 + 1)) by rw [← hw8]; exact gr_trans (gr_trans (gr_trans (gr_set _ _ _ _) (gr_set _ _ _ _)) (gr_set _ _ _ _)) (gr_set _ _ _ _))
        rw [hw8]
        clear hw8
        have HB8 := hide (MW3.out.below.trans (grown_below HG8.out MW3.out.below.size (fun g hg => by cases hg; omega)))
        have HSD := hide (show E.rtake f s x = s by (unfold E.rtake; dsimp only; rw [HPP.out, HIX.out, HGT.out]; rw [if_pos (.inr HKD.out), if_pos (.inl HC.out)]))
        have HST := hide (show StW w8 (fun b => ok b ∨ w.heap.size ≤ b) (.agg #[.slice An nn cn, .slice A2 n2 c2, .int .i64 s.back, .slice A3 n3 c3]) (E.rtake f s x) by
          rw [HSD.out]
          exact HS0.out.to HB8.out.size (fun b hb _ => HB8.out.block b hb) (fun b hb hk => .inl hk))
        have r0 : w8.cell? ⟨w.heap.size + 1 + 1 + 1, 0, none⟩ = some (.slice An nn cn) := (blk_cell HT8.out 0).trans rfl
        have r1 : w8.cell? ⟨w.heap.size + 1 + 1 + 1, 1, none⟩ = some (.slice A2 n2 c2) := (blk_cell HT8.out 1).trans rfl
        have r2 : w8.cell? ⟨w.heap.size + 1 + 1 + 1, 2, none⟩ = some (.int .i64 s.back) := (blk_cell HT8.out 2).trans rfl
        have r3 : w8.cell? ⟨w.heap.size + 1 + 1 + 1, 3, none⟩ = some (.slice A3 n3 c3) := (blk_cell HT8.out 3).trans rfl
        have lr := blk_lt HT8.out
        exact bodyPost_ret (v := .agg #[.slice An nn cn, .slice A2 n2 c2, .int .i64 s.back, .slice A3 n3 c3]) (by simp [results, Tryz.results62, go_sem, r0, r1, r2, r3]) rfl ⟨_, rfl, HST.out, HB8.out⟩
      · have c' : x.hour ≤ f.close := by omega
        clear c
        obtain ⟨pe, hpe⟩ : ∃ q, p.ent = q := ⟨_, rfl⟩
        rw [hpe] at yp3
        cases pe
        · go_upto_region 12 with fail
          clear yx1 yf3 yp3 lf lp yk lk
          have HC := hide c'
          have HPE := hide hpe
          clear c' hpe
          refine rtake12 (fun _ _ d _ _ h => by cases d <;> exact h) (w.heap.size + 1 + 1) bp x p W3 M3.out.x HP3.out (by have h1 := HB4.out; omega) _ _ _ _ _ _ _ _ _ _ _ _ _ _ _ _ _ _ _ _ _ _ _ _ _ _ _ _ _ _ _ _ _ _ _ _ _ _ _ _ _ _ _ _ _ _ _ _ _ _ _ _ _ _ _ _ _ _ _ _ _ _ _ _ _ _ _ _ _ _ _ _ _ _ _ _ _ _ _ _ _ _ _ _ _ _ _ _ _ _ _ _ _ _ _ _ _ _ _ _ _ _ _ _ _ _ _ _ _ _ _ _ _ _ _ _ _ _ _ _ _ _ _ _ _ _ _ _ _ _ _ _ _ _ _ _ _ _ _ _ _ _ _ _ _ _ _ _ _ _ _ _ _  ?_
          intro v0 v1 v2 v3 v4 v5 v6 v7 W4 HP4 HG4
          obtain ⟨q, hq⟩ : ∃ q : E.Rp, q = { p with ent := true, rank := x.rank, grd := decide (x.kind = 2) } := ⟨_, rfl⟩
          have HQE := hide hq
          have HPq := hide (show W4.heap[bp]? = some (.cells #[.int .i64 q.player, .int .i64 q.rank, .bool q.grd, .bool q.ent, .bool q.quit, .bool q.sgn, .bool q.card] 57 (0, 0)) by rw [hq]; exact HP4.out)
          clear hq
          have M4 := hide (M3.out.grown HG4.out HB4.out HBN.out)
          have HO4 := hide (HO3.out.kept HG4.out (.inr HNE.out))
          go_upto_region 13 with fail
          refine rtake13 (fun _ _ d _ _ h => by cases d <;> exact h) bo bp n m c5 (some ⟨gA, 0, none⟩) PP q (.slice A2 n2 c2) (.slice A3 n3 c3) s.back z0 W4 M4.out.o HPq.out HM.out HO4.out hnm (by omega) _ _ _ _ _ _ _ _ _ _ _ _ _ _ _ _ _ _ _ _ _ _ _ _ _ _ _ _ _ _ _ _ _ _ _ _ _ _ _ _ _ _ _ _ _ _ _ _ _ _ _ _ _ _ _ _ _ _ _ _ _ _ _ _ _ _ _ _ _ _ _ _ _ _ _ _ _ _ _ _ _ _ _ _ _ _ _ _ _ _ _ _ _ _ _ _ _ _ _ _ _ _ _ _ _ _ _ _ _ _ _ _ _ _ _ _ _ _ _ _ _ _ _ _ _ _ _ _ _ _ _ _ _ _ _ _ _ _ _ _ _ _ _ _ _ _ _ _ _ _ _ _  ?_
          intro g0 g1 g2 g3 g4 g5 g6 g7 g8 g9 g10 g11 g12 g13 g14 g15 A6 c6 W5 HQ5 HO5 HG5
          have MW5 := hide (M4.out.setO HG5.out HQ5.out)
          have HOW := hide (owns_mono HO5.out (show z0 ≤ W4.heap.size by have h1 := M4.out.bo; have h2 := blk_lt M4.out.o; have h3 := HZ4.out; omega))
          clear HO5 HQ5
          have yo0 : W5.cell? ⟨bo, 0, none⟩ = some (.slice A6 m c6) := (blk_cell MW5.out.o 0).trans rfl
          have yo1 : W5.cell? ⟨bo, 1, none⟩ = some (.slice A2 n2 c2) := (blk_cell MW5.out.o 1).trans rfl
          have yo2 : W5.cell? ⟨bo, 2, none⟩ = some (.int .i64 s.back) := (blk_cell MW5.out.o 2).trans rfl
          have yo3 : W5.cell? ⟨bo, 3, none⟩ = some (.slice A3 n3 c3) := (blk_cell MW5.out.o 3).trans rfl
          have lyo := blk_lt MW5.out.o
          have yz0 : W5.cell? ⟨w.heap.size + 1 + 1 + 1, 0, none⟩ = some (.slice none 0 0) := (blk_cell MW5.out.r 0).trans rfl
          have yz1 : W5.cell? ⟨w.heap.size + 1 + 1 + 1, 1, none⟩ = some (.slice none 0 0) := (blk_cell MW5.out.r 1).trans rfl
          have yz2 : W5.cell? ⟨w.heap.size + 1 + 1 + 1, 2, none⟩ = some (.int .i64 0) := (blk_cell MW5.out.r 2).trans rfl
          have yz3 : W5.cell? ⟨w.heap.size + 1 + 1 + 1, 3, none⟩ = some (.slice none 0 0) := (blk_cell MW5.out.r 3).trans rfl
          have lyz := blk_lt MW5.out.r
          have fz0 := blk_frozen MW5.out.r 0
          have fz1 := blk_frozen MW5.out.r 1
          have fz2 := blk_frozen MW5.out.r 2
          have fz3 := blk_frozen MW5.out.r 3
          go_wp2_with fail
          obtain ⟨w8, hw8⟩ : ∃ q, (((W5.setCell ⟨w.heap.size + 1 + 1 + 1, 0, none⟩ (.slice A6 m c6)).setCell ⟨w.heap.size + 1 + 1 + 1, 1, none⟩ (.slice A2 n2 c2)).setCell ⟨w.heap.size + 1 + 1 + 1, 2, none⟩ (.int .i64 s.back)).setCell ⟨w.heap.size + 1 + 1 + 1, 3, none⟩ (.slice A3 n3 c3) = q := ⟨_, rfl⟩
          have HT8 := hide (show w8.heap[w.heap.size + 1 + 1 + 1]? = some (.cells #[.slice A6 m c6, .slice A2 n2 c2, .int .i64 s.back, .slice A3 n3 c3] 53 (0, 0)) by rw [← hw8]; exact blk_set (blk_set (blk_set (blk_set MW5.out.r 0 _) 1 _) 2 _) 3 _)
          have HG8 := hide (show W5.grownBy w8 (some (w.heap.size + 1 + 1 + 1)) by rw [← hw8]; exact gr_trans (gr_trans (gr_trans (gr_set _ _ _ _) (gr_set _ _ _ _)) (gr_set _ _ _ _)) (gr_set _ _ _ _))
          rw [hw8]
          clear hw8
          have HB8 := hide (MW5.out.below.trans (grown_below HG8.out MW5.out.below.size (fun g hg => by cases hg; omega)))
          have HSD := hide (show E.rtake f s x = ⟨PP.take n ++ PP.drop (n + 1) ++ [q], s.wilds, s.back, s.ins⟩ by (unfold E.rtake; dsimp only; rw [HPP.out, HIX.out, HGT.out]; rw [if_pos (.inr HKD.out), if_neg (fun hh => hh.elim (fun h1 => by have := HC.out; omega) (fun h1 => by rw [HPE.out] at h1; cases h1)), List.eraseIdx_eq_take_drop_succ, HQE.out]))
          have HO8 := hide (HOW.out.kept HG8.out (.inr (row_ne HOW.out MW5.out.r (by decide))))
          have HST := hide (show StW w8 (fun b => ok b ∨ w.heap.size ≤ b) (.agg #[.slice A6 m c6, .slice A2 n2 c2, .int .i64 s.back, .slice A3 n3 c3]) (E.rtake f s x) by
            rw [HSD.out]
            exact stw_fin (Pl := PP.take n ++ PP.drop (n + 1) ++ [q]) HB8.out HO8.out HZL.out (by first | (simp; exact HM.out) | exact HM.out | (simp [HM.out]; omega) | (simp; have := HM.out; omega)) (HWI.out.to HB8.out.size (fun b hb _ => HB8.out.block b hb) (fun b hb hk => .inl hk)) HIN.out (fun W' h1 h2 => HII.out W' h1 h2))
          have r0 : w8.cell? ⟨w.heap.size + 1 + 1 + 1, 0, none⟩ = some (.slice A6 m c6) := (blk_cell HT8.out 0).trans rfl
          have r1 : w8.cell? ⟨w.heap.size + 1 + 1 + 1, 1, none⟩ = some (.slice A2 n2 c2) := (blk_cell HT8.out 1).trans rfl
          have r2 : w8.cell? ⟨w.heap.size + 1 + 1 + 1, 2, none⟩ = some (.int .i64 s.back) := (blk_cell HT8.out 2).trans rfl
          have r3 : w8.cell? ⟨w.heap.size + 1 + 1 + 1, 3, none⟩ = some (.slice A3 n3 c3) := (blk_cell HT8.out 3).trans rfl
          have lr := blk_lt HT8.out
          exact bodyPost_ret (v := .agg #[.slice A6 m c6, .slice A2 n2 c2, .int .i64 s.back, .slice A3 n3 c3]) (by simp [results, Tryz.results62, go_sem, r0, r1, r2, r3]) rfl ⟨_, rfl, HST.out, HB8.out⟩
        · go_upto_region 11 with fail
          clear yx1 yf3 yp3 lf lp yk lk
          have HPE := hide hpe
          clear c' hpe
          have ya0 : W3.cell? ⟨w.heap.size + 1, 0, none⟩ = some (.slice An nn cn) := (blk_cell MW3.out.s 0).trans rfl
          have ya1 : W3.cell? ⟨w.heap.size + 1, 1, none⟩ = some (.slice A2 n2 c2) := (blk_cell MW3.out.s 1).trans rfl
          have ya2 : W3.cell? ⟨w.heap.size + 1, 2, none⟩ = some (.int .i64 s.back) := (blk_cell MW3.out.s 2).trans rfl
          have ya3 : W3.cell? ⟨w.heap.size + 1, 3, none⟩ = some (.slice A3 n3 c3) := (blk_cell MW3.out.s 3).trans rfl
          have lya := blk_lt MW3.out.s
          have yz0 : W3.cell? ⟨w.heap.size + 1 + 1 + 1, 0, none⟩ = some (.slice none 0 0) := (blk_cell MW3.out.r 0).trans rfl
          have yz1 : W3.cell? ⟨w.heap.size + 1 + 1 + 1, 1, none⟩ = some (.slice none 0 0) := (blk_cell MW3.out.r 1).trans rfl
          have yz2 : W3.cell? ⟨w.heap.size + 1 + 1 + 1, 2, none⟩ = some (.int .i64 0) := (blk_cell MW3.out.r 2).trans rfl
          have yz3 : W3.cell? ⟨w.heap.size + 1 + 1 + 1, 3, none⟩ = some (.slice none 0 0) := (blk_cell MW3.out.r 3).trans rfl
          have lyz := blk_lt MW3.out.r
          have fz0 := blk_frozen MW3.out.r 0
          have fz1 := blk_frozen MW3.out.r 1
          have fz2 := blk_frozen MW3.out.r 2
          have fz3 := blk_frozen MW3.out.r 3
          go_wp2_with fail
          obtain ⟨w8, hw8⟩ : ∃ q, (((W3.setCell ⟨w.heap.size + 1 + 1 + 1, 0, none⟩ (.slice An nn cn)).setCell ⟨w.heap.size + 1 + 1 + 1, 1, none⟩ (.slice A2 n2 c2)).setCell ⟨w.heap.size + 1 + 1 + 1, 2, none⟩ (.int .i64 s.back)).setCell ⟨w.heap.size + 1 + 1 + 1, 3, none⟩ (.slice A3 n3 c3) = q := ⟨_, rfl⟩
          have HT8 := hide (show w8.heap[w.heap.size + 1 + 1 + 1]? = some (.cells #[.slice An nn cn, .slice A2 n2 c2, .int .i64 s.back, .slice A3 n3 c3] 53 (0, 0)) by rw [← hw8]; exact blk_set (blk_set (blk_set (blk_set MW3.out.r 0 _) 1 _) 2 _) 3 _)
          have HG8 := hide (show W3.grownBy w8 (some (w.heap.size + 1 + 1 + 1)) by rw [← hw8]; exact gr_trans (gr_trans (gr_trans (gr_set _ _ _ _) (gr_set _ _ _ _)) (gr_set _ _ _ _)) (gr_set _ _ _ _))
          rw [hw8]
          clear hw8
          have HB8 := hide (MW3.out.below.trans (grown_below HG8.out MW3.out.below.size (fun g hg => by cases hg; omega)))
          have HSD := hide (show E.rtake f s x = s by (unfold E.rtake; dsimp only; rw [HPP.out, HIX.out, HGT.out]; rw [if_pos (.inr HKD.out), if_pos (.inr HPE.out)]))
          have HST := hide (show StW w8 (fun b => ok b ∨ w.heap.size ≤ b) (.agg #[.slice An nn cn, .slice A2 n2 c2, .int .i64 s.back, .slice A3 n3 c3]) (E.rtake f s x) by
            rw [HSD.out]
            exact HS0.out.to HB8.out.size (fun b hb _ => HB8.out.block b hb) (fun b hb hk => .inl hk))
          have r0 : w8.cell? ⟨w.heap.size + 1 + 1 + 1, 0, none⟩ = some (.slice An nn cn) := (blk_cell HT8.out 0).trans rfl
          have r1 : w8.cell? ⟨w.heap.size + 1 + 1 + 1, 1, none⟩ = some (.slice A2 n2 c2) := (blk_cell HT8.out 1).trans rfl
          have r2 : w8.cell? ⟨w.heap.size + 1 + 1 + 1, 2, none⟩ = some (.int .i64 s.back) := (blk_cell HT8.out 2).trans rfl
          have r3 : w8.cell? ⟨w.heap.size + 1 + 1 + 1, 3, none⟩ = some (.slice A3 n3 c3) := (blk_cell HT8.out 3).trans rfl
          have lr := blk_lt HT8.out
          exact bodyPost_ret (v := .agg #[.slice An nn cn, .slice A2 n2 c2, .int .i64 s.back, .slice A3 n3 c3]) (by simp [results, Tryz.results62, go_sem, r0, r1, r2, r3]) rfl ⟨_, rfl, HST.out, HB8.out⟩
    by_cases h3 : x.kind = 3
    · have HKD := hide h3
      have d1 : (x.kind == 1) = false := by rw [h3]; rfl
      have d2 : (x.kind == 2) = false := by rw [h3]; rfl
      have d3 : (x.kind == 3) = true := by rw [h3]; rfl
      clear h3
      clear h1 h2
      have yx1 : W3.cell? ⟨w.heap.size + 1 + 1, 1, none⟩ = some (.int .i64 x.hour) := (blk_cell M3.out.x 1).trans rfl
      have yx3 : W3.cell? ⟨w.heap.size + 1 + 1, 3, none⟩ = some (.int .i64 x.player) := (blk_cell M3.out.x 3).trans rfl
      have yf4 : W3.cell? ⟨w.heap.size, 4, none⟩ = some (.int .i64 f.freeze) := (blk_cell M3.out.f 4).trans rfl
      have yf1 : W3.cell? ⟨w.heap.size, 1, none⟩ = some (.int .i64 f.wilds) := (blk_cell M3.out.f 1).trans rfl
      have yo1 : W3.cell? ⟨bo, 1, none⟩ = some (.slice A2 n2 c2) := (blk_cell M3.out.o 1).trans rfl
      have yp4 : W3.cell? ⟨bp, 4, none⟩ = some (.bool p.quit) := (blk_cell HP3.out 4).trans rfl
      have lf := blk_lt M3.out.f
      have lp := blk_lt HP3.out
      have lo := blk_lt M3.out.o
      obtain ⟨cn1, hcn1⟩ : ∃ q, s.wilds.contains x.player = q := ⟨_, rfl⟩
      have HCN := hide hcn1
      clear hcn1
      by_cases c : f.freeze < x.hour
      · go_upto_region 17 with fail
        clear yx1 yx3 yf4 yf1 yo1 yp4 lf lp lo yk lk
        have HC := hide c
        clear c
        have ya0 : W3.cell? ⟨w.heap.size + 1, 0, none⟩ = some (.slice An nn cn) := (blk_cell MW3.out.s 0).trans rfl
        have ya1 : W3.cell? ⟨w.heap.size + 1, 1, none⟩ = some (.slice A2 n2 c2) := (blk_cell MW3.out.s 1).trans rfl
        have ya2 : W3.cell? ⟨w.heap.size + 1, 2, none⟩ = some (.int .i64 s.back) := (blk_cell MW3.out.s 2).trans rfl
        have ya3 : W3.cell? ⟨w.heap.size + 1, 3, none⟩ = some (.slice A3 n3 c3) := (blk_cell MW3.out.s 3).trans rfl
        have lya := blk_lt MW3.out.s
        have yz0 : W3.cell? ⟨w.heap.size + 1 + 1 + 1, 0, none⟩ = some (.slice none 0 0) := (blk_cell MW3.out.r 0).trans rfl
        have yz1 : W3.cell? ⟨w.heap.size + 1 + 1 + 1, 1, none⟩ = some (.slice none 0 0) := (blk_cell MW3.out.r 1).trans rfl
        have yz2 : W3.cell? ⟨w.heap.size + 1 + 1 + 1, 2, none⟩ = some (.int .i64 0) := (blk_cell MW3.out.r 2).trans rfl
        have yz3 : W3.cell? ⟨w.heap.size + 1 + 1 + 1, 3, none⟩ = some (.slice none 0 0) := (blk_cell MW3.out.r 3).trans rfl
        have lyz := blk_lt MW3.out.r
        have fz0 := blk_frozen MW3.out.r 0
        have fz1 := blk_frozen MW3.out.r 1
        have fz2 := blk_frozen MW3.out.r 2
        have fz3 := blk_frozen MW3.out.r 3
        go_wp2_with fail
        obtain ⟨w8, hw8⟩ : ∃ q, (((W3.setCell ⟨w.heap.size + 1 + 1 + 1, 0, none⟩ (.slice An nn cn)).setCell ⟨w.heap.size + 1 + 1 + 1, 1, none⟩ (.slice A2 n2 c2)).setCell ⟨w.heap.size + 1 + 1 + 1, 2, none⟩ (.int .i64 s.back)).setCell ⟨w.heap.size + 1 + 1 + 1, 3, none⟩ (.slice A3 n3 c3) = q := ⟨_, rfl⟩
        have HT8 := hide (show w8.heap[w.heap.size + 1 + 1 + 1]? = some (.cells #[.slice An nn cn, .slice A2 n2 c2, .int .i64 s.back, .slice A3 n3 c3] 53 (0, 0)) by rw [← hw8]; exact blk_set (blk_set (blk_set (blk_set MW3.out.r 0 _) 1 _) 2 _) 3 _)
        have HG8 := hide (show W3.grownBy w8 (some (w.heap.size + 1 + 1 + 1)) by rw [← hw8]; exact gr_trans (gr_trans (gr_trans (gr_set _ _ _ _) (gr_set _ _ _ _)) (gr_set _ _ _ _)) (gr_set _ _ _ _))
        rw [hw8]
        clear hw8
        have HB8 := hide (MW3.out.below.trans (grown_below HG8.out MW3.out.below.size (fun g hg => by cases hg; omega)))
        have HSD := hide (show E.rtake f s x = s by (unfold E.rtake; dsimp only; rw [HPP.out, HIX.out, HGT.out]; rw [if_neg (by rw [HKD.out]; decide), if_pos HKD.out, if_pos (.inl HC.out)]))
        have HST := hide (show StW w8 (fun b => ok b ∨ w.heap.size ≤ b) (.agg #[.slice An nn cn, .slice A2 n2 c2, .int .i64 s.back, .slice A3 n3 c3]) (E.rtake f s x) by
          rw [HSD.out]
          exact HS0.out.to HB8.out.size (fun b hb _ => HB8.out.block b hb) (fun b hb hk => .inl hk))
        have r0 : w8.cell? ⟨w.heap.size + 1 + 1 + 1, 0, none⟩ = some (.slice An nn cn) := (blk_cell HT8.out 0).trans rfl
        have r1 : w8.cell? ⟨w.heap.size + 1 + 1 + 1, 1, none⟩ = some (.slice A2 n2 c2) := (blk_cell HT8.out 1).trans rfl
        have r2 : w8.cell? ⟨w.heap.size + 1 + 1 + 1, 2, none⟩ = some (.int .i64 s.back) := (blk_cell HT8.out 2).trans rfl
        have r3 : w8.cell? ⟨w.heap.size + 1 + 1 + 1, 3, none⟩ = some (.slice A3 n3 c3) := (blk_cell HT8.out 3).trans rfl
        have lr := blk_lt HT8.out
        exact bodyPost_ret (v := .agg #[.slice An nn cn, .slice A2 n2 c2, .int .i64 s.back, .slice A3 n3 c3]) (by simp [results, Tryz.results62, go_sem, r0, r1, r2, r3]) rfl ⟨_, rfl, HST.out, HB8.out⟩
      · have c' : x.hour ≤ f.freeze := by omega
        clear c
        obtain ⟨pe, hpe⟩ : ∃ q, p.quit = q := ⟨_, rfl⟩
        rw [hpe] at yp4
        have HPE := hide hpe
        clear hpe
        cases pe
        · cases cn1
          · by_cases cw : f.wilds ≤ (n2 : Int)
            · go_upto_region 17 with (go_at_call 21; refine (In_any A2 n2 c2 s.wilds x.player W3 HL.out.2.2.1 ((HRW.out.2.1.below M3.out.below).mono M3.out.below.size) (by omega)).mono ?_; rintro e w' ⟨rfl, rfl⟩; rw [HCN.out])
              clear yx1 yx3 yf4 yf1 yo1 yp4 lf lp lo yk lk
              have HCW := hide cw
              clear c' cw
              have ya0 : W3.cell? ⟨w.heap.size + 1, 0, none⟩ = some (.slice An nn cn) := (blk_cell MW3.out.s 0).trans rfl
              have ya1 : W3.cell? ⟨w.heap.size + 1, 1, none⟩ = some (.slice A2 n2 c2) := (blk_cell MW3.out.s 1).trans rfl
              have ya2 : W3.cell? ⟨w.heap.size + 1, 2, none⟩ = some (.int .i64 s.back) := (blk_cell MW3.out.s 2).trans rfl
              have ya3 : W3.cell? ⟨w.heap.size + 1, 3, none⟩ = some (.slice A3 n3 c3) := (blk_cell MW3.out.s 3).trans rfl
              have lya := blk_lt MW3.out.s
              have yz0 : W3.cell? ⟨w.heap.size + 1 + 1 + 1, 0, none⟩ = some (.slice none 0 0) := (blk_cell MW3.out.r 0).trans rfl
              have yz1 : W3.cell? ⟨w.heap.size + 1 + 1 + 1, 1, none⟩ = some (.slice none 0 0) := (blk_cell MW3.out.r 1).trans rfl
              have yz2 : W3.cell? ⟨w.heap.size + 1 + 1 + 1, 2, none⟩ = some (.int .i64 0) := (blk_cell MW3.out.r 2).trans rfl
              have yz3 : W3.cell? ⟨w.heap.size + 1 + 1 + 1, 3, none⟩ = some (.slice none 0 0) := (blk_cell MW3.out.r 3).trans rfl
              have lyz := blk_lt MW3.out.r
              have fz0 := blk_frozen MW3.out.r 0
              have fz1 := blk_frozen MW3.out.r 1
              have fz2 := blk_frozen MW3.out.r 2
              have fz3 := blk_frozen MW3.out.r 3
              go_wp2_with fail
              obtain ⟨w8, hw8⟩ : ∃ q, (((W3.setCell ⟨w.heap.size + 1 + 1 + 1, 0, none⟩ (.slice An nn cn)).setCell ⟨w.heap.size + 1 + 1 + 1, 1, none⟩ (.slice A2 n2 c2)).setCell ⟨w.heap.size + 1 + 1 + 1, 2, none⟩ (.int .i64 s.back)).setCell ⟨w.heap.size + 1 + 1 + 1, 3, none⟩ (.slice A3 n3 c3) = q := ⟨_, rfl⟩
              have HT8 := hide (show w8.heap[w.heap.size + 1 + 1 + 1]? = some (.cells #[.slice An nn cn, .slice A2 n2 c2, .int .i64 s.back, .slice A3 n3 c3] 53 (0, 0)) by rw [← hw8]; exact blk_set (blk_set (blk_set (blk_set MW3.out.r 0 _) 1 _) 2 _) 3 _)
              have HG8 := hide (show W3.grownBy w8 (some (w.heap.size + 1 + 1 + 1)) by rw [← hw8]; exact gr_trans (gr_trans (gr_trans (gr_set _ _ _ _) (gr_set _ _ _ _)) (gr_set _ _ _ _)) (gr_set _ _ _ _))
              rw [hw8]
              clear hw8
              have HB8 := hide (MW3.out.below.trans (grown_below HG8.out MW3.out.below.size (fun g hg => by cases hg; omega)))
              have HSD := hide (show E.rtake f s x = s by (unfold E.rtake; dsimp only; rw [HPP.out, HIX.out, HGT.out]; rw [if_neg (by rw [HKD.out]; decide), if_pos HKD.out, if_pos (.inr (.inr (.inr (by rw [HL.out.2.2.1]; exact HCW.out))))]))
              have HST := hide (show StW w8 (fun b => ok b ∨ w.heap.size ≤ b) (.agg #[.slice An nn cn, .slice A2 n2 c2, .int .i64 s.back, .slice A3 n3 c3]) (E.rtake f s x) by
                rw [HSD.out]
                exact HS0.out.to HB8.out.size (fun b hb _ => HB8.out.block b hb) (fun b hb hk => .inl hk))
              have r0 : w8.cell? ⟨w.heap.size + 1 + 1 + 1, 0, none⟩ = some (.slice An nn cn) := (blk_cell HT8.out 0).trans rfl
              have r1 : w8.cell? ⟨w.heap.size + 1 + 1 + 1, 1, none⟩ = some (.slice A2 n2 c2) := (blk_cell HT8.out 1).trans rfl
              have r2 : w8.cell? ⟨w.heap.size + 1 + 1 + 1, 2, none⟩ = some (.int .i64 s.back) := (blk_cell HT8.out 2).trans rfl
              have r3 : w8.cell? ⟨w.heap.size + 1 + 1 + 1, 3, none⟩ = some (.slice A3 n3 c3) := (blk_cell HT8.out 3).trans rfl
              have lr := blk_lt HT8.out
              exact bodyPost_ret (v := .agg #[.slice An nn cn, .slice A2 n2 c2, .int .i64 s.back, .slice A3 n3 c3]) (by simp [results, Tryz.results62, go_sem, r0, r1, r2, r3]) rfl ⟨_, rfl, HST.out, HB8.out⟩
            · have cw' : (n2 : Int) < f.wilds := by omega
              clear cw
              go_upto_region 18 with (go_at_call 21; refine (In_any A2 n2 c2 s.wilds x.player W3 HL.out.2.2.1 ((HRW.out.2.1.below M3.out.below).mono M3.out.below.size) (by omega)).mono ?_; rintro e w' ⟨rfl, rfl⟩; rw [HCN.out])
              clear yx1 yx3 yf4 yf1 yo1 yp4 lf lp lo yk lk
              have HC := hide c'
              have HCW := hide cw'
              clear c' cw'
              have yp6 : W3.cell? ⟨bp, 6, none⟩ = some (.bool p.card) := (blk_cell HP3.out 6).trans rfl
              have fp6 := blk_frozen HP3.out 6
              have lp := blk_lt HP3.out
              go_upto_region 19 with fail
              clear yp6 fp6 lp
              obtain ⟨W4, hW4⟩ : ∃ q, W3.setCell ⟨bp, 6, none⟩ (.bool true) = q := ⟨_, rfl⟩
              have HGp := hide (show W3.grownBy W4 (some bp) by rw [← hW4]; exact gr_set _ _ _ _)
              obtain ⟨q, hq⟩ : ∃ q : E.Rp, q = { p with card := true } := ⟨_, rfl⟩
              have HQE := hide hq
              have HPq0 := hide (show W4.heap[bp]? = some (.cells #[.int .i64 q.player, .int .i64 q.rank, .bool q.grd, .bool q.ent, .bool q.quit, .bool q.sgn, .bool q.card] 57 (0, 0)) by rw [hq, ← hW4]; exact blk_set HP3.out 6 _)
              rw [hW4]
              clear hq hW4
              have MW4 := hide (M3.out.grown HGp.out HB4.out HBN.out)
              have HOW4 := hide (HO3.out.kept HGp.out (.inr HNE.out))
              refine wp_last ?_
              refine rtake19 (fun _ _ d _ _ h => by cases d <;> exact h) bo (w.heap.size + 1 + 1) n2 c2 A2 s.wilds x (.slice (some ⟨gA, 0, none⟩) m c5) (.slice A3 n3 c3) s.back W4 MW4.out.o MW4.out.x HL.out.2.2.1 ((HRW.out.2.1.below MW4.out.below).mono MW4.out.below.size) HL.out.2.2.2 (by omega) _ _ _ _ _ _ _ _ _ _ _ _ _ _ _ _ _ _ _ _ _ _ _ _ _ _ _ _ _ _ _ _ _ _ _ _ _ _ _ _ _ _ _ _ _ _ _ _ _ _ _ _ _ _ _ _ _ _ _ _ _ _ _ _ _ _ _ _ _ _ _ _ _ _ _ _ _ _ _ _ _ _ _ _ _ _ _ _ _ _ _ _ _ _ _ _ _ _ _ _ _ _ _ _ _ _ _ _ _ _ _ _ _ _ _ _ _ _ _ _ _ _ _ _ _ _ _ _ _ _ _ _ _ _ _ _ _ _ _ _ _ _ _ _ _ _ _ _ _ _ _ _ _  ?_
              intro v0 v1 v2 v3 v4 v5 v6 v7 v8 A7 c7 W5 HQ5 HI5 HG5
              dsimp only [Exit.inBlock, Exit.then]
              have MW5 := hide (MW4.out.setO HG5.out HQ5.out)
              have HOW := hide (HOW4.out.kept HG5.out (.inr (row_ne HOW4.out MW4.out.o (by decide))))
              have HPq := hide ((HG5.out.block bp (blk_lt HPq0.out) (fun e => HBN.out (Option.some.inj e))).trans HPq0.out)
              have HWL := hide (show (s.wilds ++ [x.player]).length = n2 + 1 by rw [List.length_append, HL.out.2.2.1]; rfl)
              have HZI := hide (show w.heap.size ≤ W4.heap.size from MW4.out.below.size)
              clear HQ5
              go_upto_region 27 with fail
              have yo0 : W5.cell? ⟨bo, 0, none⟩ = some (.slice (some ⟨gA, 0, none⟩) m c5) := (blk_cell MW5.out.o 0).trans rfl
              have yo1 : W5.cell? ⟨bo, 1, none⟩ = some (.slice A7 (n2 + 1) c7) := (blk_cell MW5.out.o 1).trans rfl
              have yo2 : W5.cell? ⟨bo, 2, none⟩ = some (.int .i64 s.back) := (blk_cell MW5.out.o 2).trans rfl
              have yo3 : W5.cell? ⟨bo, 3, none⟩ = some (.slice A3 n3 c3) := (blk_cell MW5.out.o 3).trans rfl
              have lyo := blk_lt MW5.out.o
              have yp0 : W5.cell? ⟨bp, 0, none⟩ = some (.int .i64 q.player) := (blk_cell HPq.out 0).trans rfl
              have yp1 : W5.cell? ⟨bp, 1, none⟩ = some (.int .i64 q.rank) := (blk_cell HPq.out 1).trans rfl
              have yp2 : W5.cell? ⟨bp, 2, none⟩ = some (.bool q.grd) := (blk_cell HPq.out 2).trans rfl
              have yp3 : W5.cell? ⟨bp, 3, none⟩ = some (.bool q.ent) := (blk_cell HPq.out 3).trans rfl
              have yp4 : W5.cell? ⟨bp, 4, none⟩ = some (.bool q.quit) := (blk_cell HPq.out 4).trans rfl
              have yp5 : W5.cell? ⟨bp, 5, none⟩ = some (.bool q.sgn) := (blk_cell HPq.out 5).trans rfl
              have yp6 : W5.cell? ⟨bp, 6, none⟩ = some (.bool q.card) := (blk_cell HPq.out 6).trans rfl
              have lyp := blk_lt HPq.out
              have HTH := hide (own_there7 HOW.out hnm)
              go_upto_region 28 with (refine wpList_store_mid rfl 57 (.tmp 153) (.tmp 152) rfl gA (n * 7) (pc q).toArray rfl rfl HTH.out rpSize (pc_one q) ?_; refine cap_gen (K := fun a w => wpList _ _ _ _ a w) (fun w7 hw7 => ?_); have HO7 := hide (show w7.ownsRow z0 57 7 (.slice (some ⟨gA, 0, none⟩) m c5) m (flatP (PP.set n q)) by rw [hw7]; exact own_set7 HOW.out HM.out n q); have HG7 := hide (show W5.grownBy w7 (some gA) by rw [hw7]; exact grown_set7 W5 gA (n * 7) q); clear hw7)
              clear yo0 yo1 yo2 yo3 lyo yp0 yp1 yp2 yp3 yp4 yp5 yp6 lyp
              have Mw7 := hide (MW5.out.grown HG7.out HGA.out (fun e => row_ne HOW.out MW5.out.o (by decide) (by rw [e]; rfl)))
              have yo0 : w7.cell? ⟨bo, 0, none⟩ = some (.slice (some ⟨gA, 0, none⟩) m c5) := (blk_cell Mw7.out.o 0).trans rfl
              have yo1 : w7.cell? ⟨bo, 1, none⟩ = some (.slice A7 (n2 + 1) c7) := (blk_cell Mw7.out.o 1).trans rfl
              have yo2 : w7.cell? ⟨bo, 2, none⟩ = some (.int .i64 s.back) := (blk_cell Mw7.out.o 2).trans rfl
              have yo3 : w7.cell? ⟨bo, 3, none⟩ = some (.slice A3 n3 c3) := (blk_cell Mw7.out.o 3).trans rfl
              have lyo := blk_lt Mw7.out.o
              have yz0 : w7.cell? ⟨w.heap.size + 1 + 1 + 1, 0, none⟩ = some (.slice none 0 0) := (blk_cell Mw7.out.r 0).trans rfl
              have yz1 : w7.cell? ⟨w.heap.size + 1 + 1 + 1, 1, none⟩ = some (.slice none 0 0) := (blk_cell Mw7.out.r 1).trans rfl
              have yz2 : w7.cell? ⟨w.heap.size + 1 + 1 + 1, 2, none⟩ = some (.int .i64 0) := (blk_cell Mw7.out.r 2).trans rfl
              have yz3 : w7.cell? ⟨w.heap.size + 1 + 1 + 1, 3, none⟩ = some (.slice none 0 0) := (blk_cell Mw7.out.r 3).trans rfl
              have lyz := blk_lt Mw7.out.r
              have fz0 := blk_frozen Mw7.out.r 0
              have fz1 := blk_frozen Mw7.out.r 1
              have fz2 := blk_frozen Mw7.out.r 2
              have fz3 := blk_frozen Mw7.out.r 3
              go_wp2_with fail
              obtain ⟨w8, hw8⟩ : ∃ q, (((w7.setCell ⟨w.heap.size + 1 + 1 + 1, 0, none⟩ (.slice (some ⟨gA, 0, none⟩) m c5)).setCell ⟨w.heap.size + 1 + 1 + 1, 1, none⟩ (.slice A7 (n2 + 1) c7)).setCell ⟨w.heap.size + 1 + 1 + 1, 2, none⟩ (.int .i64 s.back)).setCell ⟨w.heap.size + 1 + 1 + 1, 3, none⟩ (.slice A3 n3 c3) = q := ⟨_, rfl⟩
              have HT8 := hide (show w8.heap[w.heap.size + 1 + 1 + 1]? = some (.cells #[.slice (some ⟨gA, 0, none⟩) m c5, .slice A7 (n2 + 1) c7, .int .i64 s.back, .slice A3 n3 c3] 53 (0, 0)) by rw [← hw8]; exact blk_set (blk_set (blk_set (blk_set Mw7.out.r 0 _) 1 _) 2 _) 3 _)
              have HG8 := hide (show w7.grownBy w8 (some (w.heap.size + 1 + 1 + 1)) by rw [← hw8]; exact gr_trans (gr_trans (gr_trans (gr_set _ _ _ _) (gr_set _ _ _ _)) (gr_set _ _ _ _)) (gr_set _ _ _ _))
              rw [hw8]
              clear hw8
              have HB8 := hide (Mw7.out.below.trans (grown_below HG8.out Mw7.out.below.size (fun g hg => by cases hg; omega)))
              have HSD := hide (show E.rtake f s x = ⟨PP.set n q, s.wilds ++ [x.player], s.back, s.ins⟩ by (unfold E.rtake; dsimp only; rw [HPP.out, HIX.out, HGT.out]; rw [if_neg (by rw [HKD.out]; decide), if_pos HKD.out, if_neg (by
                  rintro (h1 | h1 | h1 | h1)
                  · have := HC.out; omega
                  · rw [HPE.out] at h1; cases h1
                  · have h2 := HCN.out; rw [List.contains_eq_mem, decide_eq_false_iff_not] at h2; exact h2 h1
                  · have h2 := HCW.out; rw [HL.out.2.2.1] at h1; omega), HQE.out]))
              have HO8 := hide (HO7.out.kept HG8.out (.inr (row_ne HO7.out Mw7.out.r (by decide))))
              have HST := hide (show StW w8 (fun b => ok b ∨ w.heap.size ≤ b) (.agg #[.slice (some ⟨gA, 0, none⟩) m c5, .slice A7 (n2 + 1) c7, .int .i64 s.back, .slice A3 n3 c3]) (E.rtake f s x) by
                rw [HSD.out]
                exact stw_fin (Pl := PP.set n q) HB8.out HO8.out HZL.out (by first | (simp; exact HM.out) | exact HM.out | (simp [HM.out]; omega) | (simp; have := HM.out; omega)) ((by
                  obtain ⟨csA, hcsA⟩ := own_blk HOW.out
                  exact (intsW_own (((HI5.out.kept HG7.out (.inr (row_ne HI5.out hcsA (by decide)))).kept HG8.out (.inr (row_ne (HI5.out.kept HG7.out (.inr (row_ne HI5.out hcsA (by decide)))) Mw7.out.r (by decide))))) HWL.out).to (Nat.le_refl _) (fun _ _ _ => rfl) (fun b hb hk => .inr (Nat.le_trans HZI.out hk)))) HIN.out (fun W' h1 h2 => HII.out W' h1 h2))
              have r0 : w8.cell? ⟨w.heap.size + 1 + 1 + 1, 0, none⟩ = some (.slice (some ⟨gA, 0, none⟩) m c5) := (blk_cell HT8.out 0).trans rfl
              have r1 : w8.cell? ⟨w.heap.size + 1 + 1 + 1, 1, none⟩ = some (.slice A7 (n2 + 1) c7) := (blk_cell HT8.out 1).trans rfl
              have r2 : w8.cell? ⟨w.heap.size + 1 + 1 + 1, 2, none⟩ = some (.int .i64 s.back) := (blk_cell HT8.out 2).trans rfl
              have r3 : w8.cell? ⟨w.heap.size + 1 + 1 + 1, 3, none⟩ = some (.slice A3 n3 c3) := (blk_cell HT8.out 3).trans rfl
              have lr := blk_lt HT8.out
              exact bodyPost_ret (v := .agg #[.slice (some ⟨gA, 0, none⟩) m c5, .slice A7 (n2 + 1) c7, .int .i64 s.back, .slice A3 n3 c3]) (by simp [results, Tryz.results62, go_sem, r0, r1, r2, r3]) rfl ⟨_, rfl, HST.out, HB8.out⟩
          · go_upto_region 17 with (go_at_call 21; refine (In_any A2 n2 c2 s.wilds x.player W3 HL.out.2.2.1 ((HRW.out.2.1.below M3.out.below).mono M3.out.below.size) (by omega)).mono ?_; rintro e w' ⟨rfl, rfl⟩; rw [HCN.out])
            clear yx1 yx3 yf4 yf1 yo1 yp4 lf lp lo yk lk
            clear c'
            have ya0 : W3.cell? ⟨w.heap.size + 1, 0, none⟩ = some (.slice An nn cn) := (blk_cell MW3.out.s 0).trans rfl
            have ya1 : W3.cell? ⟨w.heap.size + 1, 1, none⟩ = some (.slice A2 n2 c2) := (blk_cell MW3.out.s 1).trans rfl
            have ya2 : W3.cell? ⟨w.heap.size + 1, 2, none⟩ = some (.int .i64 s.back) := (blk_cell MW3.out.s 2).trans rfl
            have ya3 : W3.cell? ⟨w.heap.size + 1, 3, none⟩ = some (.slice A3 n3 c3) := (blk_cell MW3.out.s 3).trans rfl
            have lya := blk_lt MW3.out.s
            have yz0 : W3.cell? ⟨w.heap.size + 1 + 1 + 1, 0, none⟩ = some (.slice none 0 0) := (blk_cell MW3.out.r 0).trans rfl
            have yz1 : W3.cell? ⟨w.heap.size + 1 + 1 + 1, 1, none⟩ = some (.slice none 0 0) := (blk_cell MW3.out.r 1).trans rfl
            have yz2 : W3.cell? ⟨w.heap.size + 1 + 1 + 1, 2, none⟩ = some (.int .i64 0) := (blk_cell MW3.out.r 2).trans rfl
            have yz3 : W3.cell? ⟨w.heap.size + 1 + 1 + 1, 3, none⟩ = some (.slice none 0 0) := (blk_cell MW3.out.r 3).trans rfl
            have lyz := blk_lt MW3.out.r
            have fz0 := blk_frozen MW3.out.r 0
            have fz1 := blk_frozen MW3.out.r 1
            have fz2 := blk_frozen MW3.out.r 2
            have fz3 := blk_frozen MW3.out.r 3
            go_wp2_with fail
            obtain ⟨w8, hw8⟩ : ∃ q, (((W3.setCell ⟨w.heap.size + 1 + 1 + 1, 0, none⟩ (.slice An nn cn)).setCell ⟨w.heap.size + 1 + 1 + 1, 1, none⟩ (.slice A2 n2 c2)).setCell ⟨w.heap.size + 1 + 1 + 1, 2, none⟩ (.int .i64 s.back)).setCell ⟨w.heap.size + 1 + 1 + 1, 3, none⟩ (.slice A3 n3 c3) = q := ⟨_, rfl⟩
            have HT8 := hide (show w8.heap[w.heap.size + 1 + 1 + 1]? = some (.cells #[.slice An nn cn, .slice A2 n2 c2, .int .i64 s.back, .slice A3 n3 c3] 53 (0, 0)) by rw [← hw8]; exact blk_set (blk_set (blk_set (blk_set MW3.out.r 0 _) 1 _) 2 _) 3 _)
            have HG8 := hide (show W3.grownBy w8 (some (w.heap.size + 1 + 1 + 1)) by rw [← hw8]; exact gr_trans (gr_trans (gr_trans (gr_set _ _ _ _) (gr_set _ _ _ _)) (gr_set _ _ _ _)) (gr_set _ _ _ _))
            rw [hw8]
            clear hw8
            have HB8 := hide (MW3.out.below.trans (grown_below HG8.out MW3.out.below.size (fun g hg => by cases hg; omega)))
            have HSD := hide (show E.rtake f s x = s by (unfold E.rtake; dsimp only; rw [HPP.out, HIX.out, HGT.out]; rw [if_neg (by rw [HKD.out]; decide), if_pos HKD.out, if_pos (.inr (.inr (.inl (by have h2 := HCN.out; rw [List.contains_eq_mem, decide_eq_true_eq] at h2; exact h2))))]))
            have HST := hide (show StW w8 (fun b => ok b ∨ w.heap.size ≤ b) (.agg #[.slice An nn cn, .slice A2 n2 c2, .int .i64 s.back, .slice A3 n3 c3]) (E.rtake f s x) by
              rw [HSD.out]
              exact HS0.out.to HB8.out.size (fun b hb _ => HB8.out.block b hb) (fun b hb hk => .inl hk))
            have r0 : w8.cell? ⟨w.heap.size + 1 + 1 + 1, 0, none⟩ = some (.slice An nn cn) := (blk_cell HT8.out 0).trans rfl
            have r1 : w8.cell? ⟨w.heap.size + 1 + 1 + 1, 1, none⟩ = some (.slice A2 n2 c2) := (blk_cell HT8.out 1).trans rfl
            have r2 : w8.cell? ⟨w.heap.size + 1 + 1 + 1, 2, none⟩ = some (.int .i64 s.back) := (blk_cell HT8.out 2).trans rfl
            have r3 : w8.cell? ⟨w.heap.size + 1 + 1 + 1, 3, none⟩ = some (.slice A3 n3 c3) := (blk_cell HT8.out 3).trans rfl
            have lr := blk_lt HT8.out
            exact bodyPost_ret (v := .agg #[.slice An nn cn, .slice A2 n2 c2, .int .i64 s.back, .slice A3 n3 c3]) (by simp [results, Tryz.results62, go_sem, r0, r1, r2, r3]) rfl ⟨_, rfl, HST.out, HB8.out⟩
        · go_upto_region 17 with fail
          clear yx1 yx3 yf4 yf1 yo1 yp4 lf lp lo yk lk
          clear c'
          have ya0 : W3.cell? ⟨w.heap.size + 1, 0, none⟩ = some (.slice An nn cn) := (blk_cell MW3.out.s 0).trans rfl
          have ya1 : W3.cell? ⟨w.heap.size + 1, 1, none⟩ = some (.slice A2 n2 c2) := (blk_cell MW3.out.s 1).trans rfl
          have ya2 : W3.cell? ⟨w.heap.size + 1, 2, none⟩ = some (.int .i64 s.back) := (blk_cell MW3.out.s 2).trans rfl
          have ya3 : W3.cell? ⟨w.heap.size + 1, 3, none⟩ = some (.slice A3 n3 c3) := (blk_cell MW3.out.s 3).trans rfl
          have lya := blk_lt MW3.out.s
          have yz0 : W3.cell? ⟨w.heap.size + 1 + 1 + 1, 0, none⟩ = some (.slice none 0 0) := (blk_cell MW3.out.r 0).trans rfl
          have yz1 : W3.cell? ⟨w.heap.size + 1 + 1 + 1, 1, none⟩ = some (.slice none 0 0) := (blk_cell MW3.out.r 1).trans rfl
          have yz2 : W3.cell? ⟨w.heap.size + 1 + 1 + 1, 2, none⟩ = some (.int .i64 0) := (blk_cell MW3.out.r 2).trans rfl
          have yz3 : W3.cell? ⟨w.heap.size + 1 + 1 + 1, 3, none⟩ = some (.slice none 0 0) := (blk_cell MW3.out.r 3).trans rfl
          have lyz := blk_lt MW3.out.r
          have fz0 := blk_frozen MW3.out.r 0
          have fz1 := blk_frozen MW3.out.r 1
          have fz2 := blk_frozen MW3.out.r 2
          have fz3 := blk_frozen MW3.out.r 3
          go_wp2_with fail
          obtain ⟨w8, hw8⟩ : ∃ q, (((W3.setCell ⟨w.heap.size + 1 + 1 + 1, 0, none⟩ (.slice An nn cn)).setCell ⟨w.heap.size + 1 + 1 + 1, 1, none⟩ (.slice A2 n2 c2)).setCell ⟨w.heap.size + 1 + 1 + 1, 2, none⟩ (.int .i64 s.back)).setCell ⟨w.heap.size + 1 + 1 + 1, 3, none⟩ (.slice A3 n3 c3) = q := ⟨_, rfl⟩
          have HT8 := hide (show w8.heap[w.heap.size + 1 + 1 + 1]? = some (.cells #[.slice An nn cn, .slice A2 n2 c2, .int .i64 s.back, .slice A3 n3 c3] 53 (0, 0)) by rw [← hw8]; exact blk_set (blk_set (blk_set (blk_set MW3.out.r 0 _) 1 _) 2 _) 3 _)
          have HG8 := hide (show W3.grownBy w8 (some (w.heap.size + 1 + 1 + 1)) by rw [← hw8]; exact gr_trans (gr_trans (gr_trans (gr_set _ _ _ _) (gr_set _ _ _ _)) (gr_set _ _ _ _)) (gr_set _ _ _ _))
          rw [hw8]
          clear hw8
          have HB8 := hide (MW3.out.below.trans (grown_below HG8.out MW3.out.below.size (fun g hg => by cases hg; omega)))
          have HSD := hide (show E.rtake f s x = s by (unfold E.rtake; dsimp only; rw [HPP.out, HIX.out, HGT.out]; rw [if_neg (by rw [HKD.out]; decide), if_pos HKD.out, if_pos (.inr (.inl HPE.out))]))
          have HST := hide (show StW w8 (fun b => ok b ∨ w.heap.size ≤ b) (.agg #[.slice An nn cn, .slice A2 n2 c2, .int .i64 s.back, .slice A3 n3 c3]) (E.rtake f s x) by
            rw [HSD.out]
            exact HS0.out.to HB8.out.size (fun b hb _ => HB8.out.block b hb) (fun b hb hk => .inl hk))
          have r0 : w8.cell? ⟨w.heap.size + 1 + 1 + 1, 0, none⟩ = some (.slice An nn cn) := (blk_cell HT8.out 0).trans rfl
          have r1 : w8.cell? ⟨w.heap.size + 1 + 1 + 1, 1, none⟩ = some (.slice A2 n2 c2) := (blk_cell HT8.out 1).trans rfl
          have r2 : w8.cell? ⟨w.heap.size + 1 + 1 + 1, 2, none⟩ = some (.int .i64 s.back) := (blk_cell HT8.out 2).trans rfl
          have r3 : w8.cell? ⟨w.heap.size + 1 + 1 + 1, 3, none⟩ = some (.slice A3 n3 c3) := (blk_cell HT8.out 3).trans rfl
          have lr := blk_lt HT8.out
          exact bodyPost_ret (v := .agg #[.slice An nn cn, .slice A2 n2 c2, .int .i64 s.back, .slice A3 n3 c3]) (by simp [results, Tryz.results62, go_sem, r0, r1, r2, r3]) rfl ⟨_, rfl, HST.out, HB8.out⟩
    by_cases h4 : x.kind = 4
    · have HKD := hide h4
      have d1 : (x.kind == 1) = false := by rw [h4]; rfl
      have d2 : (x.kind == 2) = false := by rw [h4]; rfl
      have d3 : (x.kind == 3) = false := by rw [h4]; rfl
      have d4 : (x.kind == 4) = true := by rw [h4]; rfl
      clear h4
      clear h1 h2 h3
      have yx1 : W3.cell? ⟨w.heap.size + 1 + 1, 1, none⟩ = some (.int .i64 x.hour) := (blk_cell M3.out.x 1).trans rfl
      have yx3 : W3.cell? ⟨w.heap.size + 1 + 1, 3, none⟩ = some (.int .i64 x.player) := (blk_cell M3.out.x 3).trans rfl
      have yf4 : W3.cell? ⟨w.heap.size, 4, none⟩ = some (.int .i64 f.freeze) := (blk_cell M3.out.f 4).trans rfl
      have yo1 : W3.cell? ⟨bo, 1, none⟩ = some (.slice A2 n2 c2) := (blk_cell M3.out.o 1).trans rfl
      have lf := blk_lt M3.out.f
      have lp := blk_lt HP3.out
      have lo := blk_lt M3.out.o
      obtain ⟨cn1, hcn1⟩ : ∃ q, s.wilds.contains x.player = q := ⟨_, rfl⟩
      have HCN := hide hcn1
      clear hcn1
      cases cn1
      · go_upto_region 23 with (go_at_call 21; refine (In_any A2 n2 c2 s.wilds x.player W3 HL.out.2.2.1 ((HRW.out.2.1.below M3.out.below).mono M3.out.below.size) (by omega)).mono ?_; rintro e w' ⟨rfl, rfl⟩; rw [HCN.out])
        clear yx1 yx3 yf4 yo1 lf lp lo yk lk
        have yp4 : W3.cell? ⟨bp, 4, none⟩ = some (.bool p.quit) := (blk_cell HP3.out 4).trans rfl
        have fp4 := blk_frozen HP3.out 4
        have lp := blk_lt HP3.out
        go_upto_region 24 with fail
        clear yp4 fp4 lp
        obtain ⟨W5, hW5⟩ : ∃ q, W3.setCell ⟨bp, 4, none⟩ (.bool true) = q := ⟨_, rfl⟩
        have HGp := hide (show W3.grownBy W5 (some bp) by rw [← hW5]; exact gr_set _ _ _ _)
        obtain ⟨q, hq⟩ : ∃ q : E.Rp, q = { p with quit := true } := ⟨_, rfl⟩
        have HQE := hide hq
        have HPq0 := hide (show W5.heap[bp]? = some (.cells #[.int .i64 q.player, .int .i64 q.rank, .bool q.grd, .bool q.ent, .bool q.quit, .bool q.sgn, .bool q.card] 57 (0, 0)) by rw [hq, ← hW5]; exact blk_set HP3.out 4 _)
        rw [hW5]
        clear hq hW5
        have MW5 := hide (M3.out.grown HGp.out HB4.out HBN.out)
        have HOW5 := hide (HO3.out.kept HGp.out (.inr HNE.out))
        have yx3 : W5.cell? ⟨w.heap.size + 1 + 1, 3, none⟩ = some (.int .i64 x.player) := (blk_cell MW5.out.x 3).trans rfl
        have yo1 : W5.cell? ⟨bo, 1, none⟩ = some (.slice A2 n2 c2) := (blk_cell MW5.out.o 1).trans rfl
        have lo := blk_lt MW5.out.o
        have lx := blk_lt MW5.out.x
        obtain ⟨wl, hwl⟩ : ∃ q, s.wilds.filter (fun k => k != x.player) = q := ⟨_, rfl⟩
        obtain ⟨k2, hk2⟩ : ∃ q, wl.length = q := ⟨_, rfl⟩
        have HWQ := hide hwl
        have HWL := hide hk2
        clear hwl hk2
        go_upto_region 27 with (go_at_call 75; refine (without_any A2 n2 c2 s.wilds x.player W5 HL.out.2.2.1 ((HRW.out.2.1.below MW5.out.below).mono MW5.out.below.size) (by omega)).mono ?_; rw [HWQ.out, HWL.out]; rintro e w6 ⟨A7, c7, rfl, hown, hb6⟩; have HI6 := hide hown; have M6 := hide (MW5.out.mono hb6); have HO6 := hide (owns_below HOW5.out hb6); have HP6 := hide ((hb6.block bp (blk_lt HPq0.out)).trans HPq0.out); clear hown hb6; have yo61 : w6.cell? ⟨bo, 1, none⟩ = some (.slice A2 n2 c2) := (blk_cell M6.out.o 1).trans rfl; have fo6 := blk_frozen M6.out.o 1; have lo6 := blk_lt M6.out.o)
        clear yx3 yo1 lo lx
        obtain ⟨W6, hW6⟩ : ∃ q, w6.setCell ⟨bo, 1, none⟩ (.slice A7 k2 c7) = q := ⟨_, rfl⟩
        have HG6 := hide (show w6.grownBy W6 (some bo) by rw [← hW6]; exact gr_set _ _ _ _)
        have HQ6 := hide (show W6.heap[bo]? = some (.cells #[.slice (some ⟨gA, 0, none⟩) m c5, .slice A7 k2 c7, .int .i64 s.back, .slice A3 n3 c3] 53 (0, 0)) by rw [← hW6]; exact blk_set M6.out.o 1 _)
        rw [hW6]
        clear hW6 yo61 fo6 lo6
        have MW6 := hide (M6.out.setO HG6.out HQ6.out)
        have HI7 := hide (HI6.out.kept HG6.out (.inr (row_ne HI6.out M6.out.o (by decide))))
        have HOW := hide (HO6.out.kept HG6.out (.inr (row_ne HO6.out M6.out.o (by decide))))
        have HPq := hide ((HG6.out.block bp (blk_lt HP6.out) (fun e => HBN.out (Option.some.inj e))).trans HP6.out)
        have HZI := hide (show w.heap.size ≤ W5.heap.size from MW5.out.below.size)
        clear HQ6
        have yo0 : W6.cell? ⟨bo, 0, none⟩ = some (.slice (some ⟨gA, 0, none⟩) m c5) := (blk_cell MW6.out.o 0).trans rfl
        have yo1 : W6.cell? ⟨bo, 1, none⟩ = some (.slice A7 k2 c7) := (blk_cell MW6.out.o 1).trans rfl
        have yo2 : W6.cell? ⟨bo, 2, none⟩ = some (.int .i64 s.back) := (blk_cell MW6.out.o 2).trans rfl
        have yo3 : W6.cell? ⟨bo, 3, none⟩ = some (.slice A3 n3 c3) := (blk_cell MW6.out.o 3).trans rfl
        have lyo := blk_lt MW6.out.o
        have yp0 : W6.cell? ⟨bp, 0, none⟩ = some (.int .i64 q.player) := (blk_cell HPq.out 0).trans rfl
        have yp1 : W6.cell? ⟨bp, 1, none⟩ = some (.int .i64 q.rank) := (blk_cell HPq.out 1).trans rfl
        have yp2 : W6.cell? ⟨bp, 2, none⟩ = some (.bool q.grd) := (blk_cell HPq.out 2).trans rfl
        have yp3 : W6.cell? ⟨bp, 3, none⟩ = some (.bool q.ent) := (blk_cell HPq.out 3).trans rfl
        have yp4 : W6.cell? ⟨bp, 4, none⟩ = some (.bool q.quit) := (blk_cell HPq.out 4).trans rfl
        have yp5 : W6.cell? ⟨bp, 5, none⟩ = some (.bool q.sgn) := (blk_cell HPq.out 5).trans rfl
        have yp6 : W6.cell? ⟨bp, 6, none⟩ = some (.bool q.card) := (blk_cell HPq.out 6).trans rfl
        have lyp := blk_lt HPq.out
        have HTH := hide (own_there7 HOW.out hnm)
        go_upto_region 28 with (refine wpList_store_mid rfl 57 (.tmp 153) (.tmp 152) rfl gA (n * 7) (pc q).toArray rfl rfl HTH.out rpSize (pc_one q) ?_; refine cap_gen (K := fun a w => wpList _ _ _ _ a w) (fun w7 hw7 => ?_); have HO7 := hide (show w7.ownsRow z0 57 7 (.slice (some ⟨gA, 0, none⟩) m c5) m (flatP (PP.set n q)) by rw [hw7]; exact own_set7 HOW.out HM.out n q); have HG7 := hide (show W6.grownBy w7 (some gA) by rw [hw7]; exact grown_set7 W6 gA (n * 7) q); clear hw7)
        clear yo0 yo1 yo2 yo3 lyo yp0 yp1 yp2 yp3 yp4 yp5 yp6 lyp
        have Mw7 := hide (MW6.out.grown HG7.out HGA.out (fun e => row_ne HOW.out MW6.out.o (by decide) (by rw [e]; rfl)))
        have yo0 : w7.cell? ⟨bo, 0, none⟩ = some (.slice (some ⟨gA, 0, none⟩) m c5) := (blk_cell Mw7.out.o 0).trans rfl
        have yo1 : w7.cell? ⟨bo, 1, none⟩ = some (.slice A7 k2 c7) := (blk_cell Mw7.out.o 1).trans rfl
        have yo2 : w7.cell? ⟨bo, 2, none⟩ = some (.int .i64 s.back) := (blk_cell Mw7.out.o 2).trans rfl
        have yo3 : w7.cell? ⟨bo, 3, none⟩ = some (.slice A3 n3 c3) := (blk_cell Mw7.out.o 3).trans rfl
        have lyo := blk_lt Mw7.out.o
        have yz0 : w7.cell? ⟨w.heap.size + 1 + 1 + 1, 0, none⟩ = some (.slice none 0 0) := (blk_cell Mw7.out.r 0).trans rfl
        have yz1 : w7.cell? ⟨w.heap.size + 1 + 1 + 1, 1, none⟩ = some (.slice none 0 0) := (blk_cell Mw7.out.r 1).trans rfl
        have yz2 : w7.cell? ⟨w.heap.size + 1 + 1 + 1, 2, none⟩ = some (.int .i64 0) := (blk_cell Mw7.out.r 2).trans rfl
        have yz3 : w7.cell? ⟨w.heap.size + 1 + 1 + 1, 3, none⟩ = some (.slice none 0 0) := (blk_cell Mw7.out.r 3).trans rfl
        have lyz := blk_lt Mw7.out.r
        have fz0 := blk_frozen Mw7.out.r 0
        have fz1 := blk_frozen Mw7.out.r 1
        have fz2 := blk_frozen Mw7.out.r 2
        have fz3 := blk_frozen Mw7.out.r 3
        go_wp2_with fail
        obtain ⟨w8, hw8⟩ : ∃ q, (((w7.setCell ⟨w.heap.size + 1 + 1 + 1, 0, none⟩ (.slice (some ⟨gA, 0, none⟩) m c5)).setCell ⟨w.heap.size + 1 + 1 + 1, 1, none⟩ (.slice A7 k2 c7)).setCell ⟨w.heap.size + 1 + 1 + 1, 2, none⟩ (.int .i64 s.back)).setCell ⟨w.heap.size + 1 + 1 + 1, 3, none⟩ (.slice A3 n3 c3) = q := ⟨_, rfl⟩
        have HT8 := hide (show w8.heap[w.heap.size + 1 + 1 + 1]? = some (.cells #[.slice (some ⟨gA, 0, none⟩) m c5, .slice A7 k2 c7, .int .i64 s.back, .slice A3 n3 c3] 53 (0, 0)) by rw [← hw8]; exact blk_set (blk_set (blk_set (blk_set Mw7.out.r 0 _) 1 _) 2 _) 3 _)
        have HG8 := hide (show w7.grownBy w8 (some (w.heap.size + 1 + 1 + 1)) by rw [← hw8]; exact gr_trans (gr_trans (gr_trans (gr_set _ _ _ _) (gr_set _ _ _ _)) (gr_set _ _ _ _)) (gr_set _ _ _ _))
        rw [hw8]
        clear hw8
        have HB8 := hide (Mw7.out.below.trans (grown_below HG8.out Mw7.out.below.size (fun g hg => by cases hg; omega)))
        have HSD := hide (show E.rtake f s x = ⟨PP.set n q, wl, s.back, s.ins⟩ by (unfold E.rtake; dsimp only; rw [HPP.out, HIX.out, HGT.out]; rw [if_neg (by rw [HKD.out]; decide), if_neg (by rw [HKD.out]; decide), if_pos HKD.out, if_neg (by rintro ⟨h1, h2⟩; have h3 := HCN.out; rw [List.contains_eq_mem, decide_eq_false_iff_not] at h3; exact h3 h1), HWQ.out, HQE.out]))
        have HO8 := hide (HO7.out.kept HG8.out (.inr (row_ne HO7.out Mw7.out.r (by decide))))
        have HST := hide (show StW w8 (fun b => ok b ∨ w.heap.size ≤ b) (.agg #[.slice (some ⟨gA, 0, none⟩) m c5, .slice A7 k2 c7, .int .i64 s.back, .slice A3 n3 c3]) (E.rtake f s x) by
          rw [HSD.out]
          exact stw_fin (Pl := PP.set n q) HB8.out HO8.out HZL.out (by first | (simp; exact HM.out) | exact HM.out | (simp [HM.out]; omega) | (simp; have := HM.out; omega)) ((by
            obtain ⟨csA, hcsA⟩ := own_blk HOW.out
            exact (intsW_own (((HI7.out.kept HG7.out (.inr (row_ne HI7.out hcsA (by decide)))).kept HG8.out (.inr (row_ne (HI7.out.kept HG7.out (.inr (row_ne HI7.out hcsA (by decide)))) Mw7.out.r (by decide))))) HWL.out).to (Nat.le_refl _) (fun _ _ _ => rfl) (fun b hb hk => .inr (Nat.le_trans HZI.out hk)))) HIN.out (fun W' h1 h2 => HII.out W' h1 h2))
        have r0 : w8.cell? ⟨w.heap.size + 1 + 1 + 1, 0, none⟩ = some (.slice (some ⟨gA, 0, none⟩) m c5) := (blk_cell HT8.out 0).trans rfl
        have r1 : w8.cell? ⟨w.heap.size + 1 + 1 + 1, 1, none⟩ = some (.slice A7 k2 c7) := (blk_cell HT8.out 1).trans rfl
        have r2 : w8.cell? ⟨w.heap.size + 1 + 1 + 1, 2, none⟩ = some (.int .i64 s.back) := (blk_cell HT8.out 2).trans rfl
        have r3 : w8.cell? ⟨w.heap.size + 1 + 1 + 1, 3, none⟩ = some (.slice A3 n3 c3) := (blk_cell HT8.out 3).trans rfl
        have lr := blk_lt HT8.out
        exact bodyPost_ret (v := .agg #[.slice (some ⟨gA, 0, none⟩) m c5, .slice A7 k2 c7, .int .i64 s.back, .slice A3 n3 c3]) (by simp [results, Tryz.results62, go_sem, r0, r1, r2, r3]) rfl ⟨_, rfl, HST.out, HB8.out⟩
      · by_cases c : f.freeze < x.hour
        · go_upto_region 22 with (go_at_call 21; refine (In_any A2 n2 c2 s.wilds x.player W3 HL.out.2.2.1 ((HRW.out.2.1.below M3.out.below).mono M3.out.below.size) (by omega)).mono ?_; rintro e w' ⟨rfl, rfl⟩; rw [HCN.out])
          clear yx1 yx3 yf4 yo1 lf lp lo yk lk
          have HC := hide c
          clear c
          have yo2 : W3.cell? ⟨bo, 2, none⟩ = some (.int .i64 s.back) := (blk_cell M3.out.o 2).trans rfl
          have fo2 := blk_frozen M3.out.o 2
          have lo := blk_lt M3.out.o
          have hwb : IntKind.i64.wrap (s.back + 1) = s.back + 1 := IntWalk.i64_in _ (by omega)
          go_upto_region 23 with fail
          clear yo2 fo2 lo
          obtain ⟨W4, hW4⟩ : ∃ q, W3.setCell ⟨bo, 2, none⟩ (.int .i64 (s.back + 1)) = q := ⟨_, rfl⟩
          have HG4 := hide (show W3.grownBy W4 (some bo) by rw [← hW4]; exact gr_set _ _ _ _)
          have HQ4 := hide (show W4.heap[bo]? = some (.cells #[.slice (some ⟨gA, 0, none⟩) m c5, .slice A2 n2 c2, .int .i64 (s.back + 1), .slice A3 n3 c3] 53 (0, 0)) by rw [← hW4]; exact blk_set M3.out.o 2 _)
          rw [hW4]
          clear hW4 hwb
          have M4 := hide (M3.out.setO HG4.out HQ4.out)
          have HO4 := hide (HO3.out.kept HG4.out (.inr (row_ne HO3.out M3.out.o (by decide))))
          have HP4 := hide ((HG4.out.block bp (blk_lt HP3.out) (fun e => HBN.out (Option.some.inj e))).trans HP3.out)
          clear HQ4
          have yp4 : W4.cell? ⟨bp, 4, none⟩ = some (.bool p.quit) := (blk_cell HP4.out 4).trans rfl
          have fp4 := blk_frozen HP4.out 4
          have lp := blk_lt HP4.out
          go_upto_region 24 with fail
          clear yp4 fp4 lp
          obtain ⟨W5, hW5⟩ : ∃ q, W4.setCell ⟨bp, 4, none⟩ (.bool true) = q := ⟨_, rfl⟩
          have HGp := hide (show W4.grownBy W5 (some bp) by rw [← hW5]; exact gr_set _ _ _ _)
          obtain ⟨q, hq⟩ : ∃ q : E.Rp, q = { p with quit := true } := ⟨_, rfl⟩
          have HQE := hide hq
          have HPq0 := hide (show W5.heap[bp]? = some (.cells #[.int .i64 q.player, .int .i64 q.rank, .bool q.grd, .bool q.ent, .bool q.quit, .bool q.sgn, .bool q.card] 57 (0, 0)) by rw [hq, ← hW5]; exact blk_set HP4.out 4 _)
          rw [hW5]
          clear hq hW5
          have MW5 := hide (M4.out.grown HGp.out HB4.out HBN.out)
          have HOW5 := hide (HO4.out.kept HGp.out (.inr HNE.out))
          have yx3 : W5.cell? ⟨w.heap.size + 1 + 1, 3, none⟩ = some (.int .i64 x.player) := (blk_cell MW5.out.x 3).trans rfl
          have yo1 : W5.cell? ⟨bo, 1, none⟩ = some (.slice A2 n2 c2) := (blk_cell MW5.out.o 1).trans rfl
          have lo := blk_lt MW5.out.o
          have lx := blk_lt MW5.out.x
          obtain ⟨wl, hwl⟩ : ∃ q, s.wilds.filter (fun k => k != x.player) = q := ⟨_, rfl⟩
          obtain ⟨k2, hk2⟩ : ∃ q, wl.length = q := ⟨_, rfl⟩
          have HWQ := hide hwl
          have HWL := hide hk2
          clear hwl hk2
          go_upto_region 27 with (go_at_call 75; refine (without_any A2 n2 c2 s.wilds x.player W5 HL.out.2.2.1 ((HRW.out.2.1.below MW5.out.below).mono MW5.out.below.size) (by omega)).mono ?_; rw [HWQ.out, HWL.out]; rintro e w6 ⟨A7, c7, rfl, hown, hb6⟩; have HI6 := hide hown; have M6 := hide (MW5.out.mono hb6); have HO6 := hide (owns_below HOW5.out hb6); have HP6 := hide ((hb6.block bp (blk_lt HPq0.out)).trans HPq0.out); clear hown hb6; have yo61 : w6.cell? ⟨bo, 1, none⟩ = some (.slice A2 n2 c2) := (blk_cell M6.out.o 1).trans rfl; have fo6 := blk_frozen M6.out.o 1; have lo6 := blk_lt M6.out.o)
          clear yx3 yo1 lo lx
          obtain ⟨W6, hW6⟩ : ∃ q, w6.setCell ⟨bo, 1, none⟩ (.slice A7 k2 c7) = q := ⟨_, rfl⟩
          have HG6 := hide (show w6.grownBy W6 (some bo) by rw [← hW6]; exact gr_set _ _ _ _)
          have HQ6 := hide (show W6.heap[bo]? = some (.cells #[.slice (some ⟨gA, 0, none⟩) m c5, .slice A7 k2 c7, .int .i64 (s.back + 1), .slice A3 n3 c3] 53 (0, 0)) by rw [← hW6]; exact blk_set M6.out.o 1 _)
          rw [hW6]
          clear hW6 yo61 fo6 lo6
          have MW6 := hide (M6.out.setO HG6.out HQ6.out)
          have HI7 := hide (HI6.out.kept HG6.out (.inr (row_ne HI6.out M6.out.o (by decide))))
          have HOW := hide (HO6.out.kept HG6.out (.inr (row_ne HO6.out M6.out.o (by decide))))
          have HPq := hide ((HG6.out.block bp (blk_lt HP6.out) (fun e => HBN.out (Option.some.inj e))).trans HP6.out)
          have HZI := hide (show w.heap.size ≤ W5.heap.size from MW5.out.below.size)
          clear HQ6
          have yo0 : W6.cell? ⟨bo, 0, none⟩ = some (.slice (some ⟨gA, 0, none⟩) m c5) := (blk_cell MW6.out.o 0).trans rfl
          have yo1 : W6.cell? ⟨bo, 1, none⟩ = some (.slice A7 k2 c7) := (blk_cell MW6.out.o 1).trans rfl
          have yo2 : W6.cell? ⟨bo, 2, none⟩ = some (.int .i64 (s.back + 1)) := (blk_cell MW6.out.o 2).trans rfl
          have yo3 : W6.cell? ⟨bo, 3, none⟩ = some (.slice A3 n3 c3) := (blk_cell MW6.out.o 3).trans rfl
          have lyo := blk_lt MW6.out.o
          have yp0 : W6.cell? ⟨bp, 0, none⟩ = some (.int .i64 q.player) := (blk_cell HPq.out 0).trans rfl
          have yp1 : W6.cell? ⟨bp, 1, none⟩ = some (.int .i64 q.rank) := (blk_cell HPq.out 1).trans rfl
          have yp2 : W6.cell? ⟨bp, 2, none⟩ = some (.bool q.grd) := (blk_cell HPq.out 2).trans rfl
          have yp3 : W6.cell? ⟨bp, 3, none⟩ = some (.bool q.ent) := (blk_cell HPq.out 3).trans rfl
          have yp4 : W6.cell? ⟨bp, 4, none⟩ = some (.bool q.quit) := (blk_cell HPq.out 4).trans rfl
          have yp5 : W6.cell? ⟨bp, 5, none⟩ = some (.bool q.sgn) := (blk_cell HPq.out 5).trans rfl
          have yp6 : W6.cell? ⟨bp, 6, none⟩ = some (.bool q.card) := (blk_cell HPq.out 6).trans rfl
          have lyp := blk_lt HPq.out
          have HTH := hide (own_there7 HOW.out hnm)
          go_upto_region 28 with (refine wpList_store_mid rfl 57 (.tmp 153) (.tmp 152) rfl gA (n * 7) (pc q).toArray rfl rfl HTH.out rpSize (pc_one q) ?_; refine cap_gen (K := fun a w => wpList _ _ _ _ a w) (fun w7 hw7 => ?_); have HO7 := hide (show w7.ownsRow z0 57 7 (.slice (some ⟨gA, 0, none⟩) m c5) m (flatP (PP.set n q)) by rw [hw7]; exact own_set7 HOW.out HM.out n q); have HG7 := hide (show W6.grownBy w7 (some gA) by rw [hw7]; exact grown_set7 W6 gA (n * 7) q); clear hw7)
          clear yo0 yo1 yo2 yo3 lyo yp0 yp1 yp2 yp3 yp4 yp5 yp6 lyp
          have Mw7 := hide (MW6.out.grown HG7.out HGA.out (fun e => row_ne HOW.out MW6.out.o (by decide) (by rw [e]; rfl)))
          have yo0 : w7.cell? ⟨bo, 0, none⟩ = some (.slice (some ⟨gA, 0, none⟩) m c5) := (blk_cell Mw7.out.o 0).trans rfl
          have yo1 : w7.cell? ⟨bo, 1, none⟩ = some (.slice A7 k2 c7) := (blk_cell Mw7.out.o 1).trans rfl
          have yo2 : w7.cell? ⟨bo, 2, none⟩ = some (.int .i64 (s.back + 1)) := (blk_cell Mw7.out.o 2).trans rfl
          have yo3 : w7.cell? ⟨bo, 3, none⟩ = some (.slice A3 n3 c3) := (blk_cell Mw7.out.o 3).trans rfl
          have lyo := blk_lt Mw7.out.o
          have yz0 : w7.cell? ⟨w.heap.size + 1 + 1 + 1, 0, none⟩ = some (.slice none 0 0) := (blk_cell Mw7.out.r 0).trans rfl
          have yz1 : w7.cell? ⟨w.heap.size + 1 + 1 + 1, 1, none⟩ = some (.slice none 0 0) := (blk_cell Mw7.out.r 1).trans rfl
          have yz2 : w7.cell? ⟨w.heap.size + 1 + 1 + 1, 2, none⟩ = some (.int .i64 0) := (blk_cell Mw7.out.r 2).trans rfl
          have yz3 : w7.cell? ⟨w.heap.size + 1 + 1 + 1, 3, none⟩ = some (.slice none 0 0) := (blk_cell Mw7.out.r 3).trans rfl
          have lyz := blk_lt Mw7.out.r
          have fz0 := blk_frozen Mw7.out.r 0
          have fz1 := blk_frozen Mw7.out.r 1
          have fz2 := blk_frozen Mw7.out.r 2
          have fz3 := blk_frozen Mw7.out.r 3
          go_wp2_with fail
          obtain ⟨w8, hw8⟩ : ∃ q, (((w7.setCell ⟨w.heap.size + 1 + 1 + 1, 0, none⟩ (.slice (some ⟨gA, 0, none⟩) m c5)).setCell ⟨w.heap.size + 1 + 1 + 1, 1, none⟩ (.slice A7 k2 c7)).setCell ⟨w.heap.size + 1 + 1 + 1, 2, none⟩ (.int .i64 (s.back + 1))).setCell ⟨w.heap.size + 1 + 1 + 1, 3, none⟩ (.slice A3 n3 c3) = q := ⟨_, rfl⟩
          have HT8 := hide (show w8.heap[w.heap.size + 1 + 1 + 1]? = some (.cells #[.slice (some ⟨gA, 0, none⟩) m c5, .slice A7 k2 c7, .int .i64 (s.back + 1), .slice A3 n3 c3] 53 (0, 0)) by rw [← hw8]; exact blk_set (blk_set (blk_set (blk_set Mw7.out.r 0 _) 1 _) 2 _) 3 _)
          have HG8 := hide (show w7.grownBy w8 (some (w.heap.size + 1 + 1 + 1)) by rw [← hw8]; exact gr_trans (gr_trans (gr_trans (gr_set _ _ _ _) (gr_set _ _ _ _)) (gr_set _ _ _ _)) (gr_set _ _ _ _))
          rw [hw8]
          clear hw8
          have HB8 := hide (Mw7.out.below.trans (grown_below HG8.out Mw7.out.below.size (fun g hg => by cases hg; omega)))
          have HSD := hide (show E.rtake f s x = ⟨PP.set n q, wl, (s.back + 1), s.ins⟩ by (unfold E.rtake; dsimp only; rw [HPP.out, HIX.out, HGT.out]; rw [if_neg (by rw [HKD.out]; decide), if_neg (by rw [HKD.out]; decide), if_pos HKD.out, if_pos ⟨(by have h2 := HCN.out; rw [List.contains_eq_mem, decide_eq_true_eq] at h2; exact h2), HC.out⟩, HWQ.out, HQE.out]))
          have HO8 := hide (HO7.out.kept HG8.out (.inr (row_ne HO7.out Mw7.out.r (by decide))))
          have HST := hide (show StW w8 (fun b => ok b ∨ w.heap.size ≤ b) (.agg #[.slice (some ⟨gA, 0, none⟩) m c5, .slice A7 k2 c7, .int .i64 (s.back + 1), .slice A3 n3 c3]) (E.rtake f s x) by
            rw [HSD.out]
            exact stw_fin (Pl := PP.set n q) HB8.out HO8.out HZL.out (by first | (simp; exact HM.out) | exact HM.out | (simp [HM.out]; omega) | (simp; have := HM.out; omega)) ((by
              obtain ⟨csA, hcsA⟩ := own_blk HOW.out
              exact (intsW_own (((HI7.out.kept HG7.out (.inr (row_ne HI7.out hcsA (by decide)))).kept HG8.out (.inr (row_ne (HI7.out.kept HG7.out (.inr (row_ne HI7.out hcsA (by decide)))) Mw7.out.r (by decide))))) HWL.out).to (Nat.le_refl _) (fun _ _ _ => rfl) (fun b hb hk => .inr (Nat.le_trans HZI.out hk)))) HIN.out (fun W' h1 h2 => HII.out W' h1 h2))
          have r0 : w8.cell? ⟨w.heap.size + 1 + 1 + 1, 0, none⟩ = some (.slice (some ⟨gA, 0, none⟩) m c5) := (blk_cell HT8.out 0).trans rfl
          have r1 : w8.cell? ⟨w.heap.size + 1 + 1 + 1, 1, none⟩ = some (.slice A7 k2 c7) := (blk_cell HT8.out 1).trans rfl
          have r2 : w8.cell? ⟨w.heap.size + 1 + 1 + 1, 2, none⟩ = some (.int .i64 (s.back + 1)) := (blk_cell HT8.out 2).trans rfl
          have r3 : w8.cell? ⟨w.heap.size + 1 + 1 + 1, 3, none⟩ = some (.slice A3 n3 c3) := (blk_cell HT8.out 3).trans rfl
          have lr := blk_lt HT8.out
          exact bodyPost_ret (v := .agg #[.slice (some ⟨gA, 0, none⟩) m c5, .slice A7 k2 c7, .int .i64 (s.back + 1), .slice A3 n3 c3]) (by simp [results, Tryz.results62, go_sem, r0, r1, r2, r3]) rfl ⟨_, rfl, HST.out, HB8.out⟩
        · have c' : x.hour ≤ f.freeze := by omega
          clear c
          go_upto_region 23 with (go_at_call 21; refine (In_any A2 n2 c2 s.wilds x.player W3 HL.out.2.2.1 ((HRW.out.2.1.below M3.out.below).mono M3.out.below.size) (by omega)).mono ?_; rintro e w' ⟨rfl, rfl⟩; rw [HCN.out])
          clear yx1 yx3 yf4 yo1 lf lp lo yk lk
          have HC := hide c'
          clear c'
          have yp4 : W3.cell? ⟨bp, 4, none⟩ = some (.bool p.quit) := (blk_cell HP3.out 4).trans rfl
          have fp4 := blk_frozen HP3.out 4
          have lp := blk_lt HP3.out
          go_upto_region 24 with fail
          clear yp4 fp4 lp
          obtain ⟨W5, hW5⟩ : ∃ q, W3.setCell ⟨bp, 4, none⟩ (.bool true) = q := ⟨_, rfl⟩
          have HGp := hide (show W3.grownBy W5 (some bp) by rw [← hW5]; exact gr_set _ _ _ _)
          obtain ⟨q, hq⟩ : ∃ q : E.Rp, q = { p with quit := true } := ⟨_, rfl⟩
          have HQE := hide hq
          have HPq0 := hide (show W5.heap[bp]? = some (.cells #[.int .i64 q.player, .int .i64 q.rank, .bool q.grd, .bool q.ent, .bool q.quit, .bool q.sgn, .bool q.card] 57 (0, 0)) by rw [hq, ← hW5]; exact blk_set HP3.out 4 _)
          rw [hW5]
          clear hq hW5
          have MW5 := hide (M3.out.grown HGp.out HB4.out HBN.out)
          have HOW5 := hide (HO3.out.kept HGp.out (.inr HNE.out))
          have yx3 : W5.cell? ⟨w.heap.size + 1 + 1, 3, none⟩ = some (.int .i64 x.player) := (blk_cell MW5.out.x 3).trans rfl
          have yo1 : W5.cell? ⟨bo, 1, none⟩ = some (.slice A2 n2 c2) := (blk_cell MW5.out.o 1).trans rfl
          have lo := blk_lt MW5.out.o
          have lx := blk_lt MW5.out.x
          obtain ⟨wl, hwl⟩ : ∃ q, s.wilds.filter (fun k => k != x.player) = q := ⟨_, rfl⟩
          obtain ⟨k2, hk2⟩ : ∃ q, wl.length = q := ⟨_, rfl⟩
          have HWQ := hide hwl
          have HWL := hide hk2
          clear hwl hk2
          go_upto_region 27 with (go_at_call 75; refine (without_any A2 n2 c2 s.wilds x.player W5 HL.out.2.2.1 ((HRW.out.2.1.below MW5.out.below).mono MW5.out.below.size) (by omega)).mono ?_; rw [HWQ.out, HWL.out]; rintro e w6 ⟨A7, c7, rfl, hown, hb6⟩; have HI6 := hide hown; have M6 := hide (MW5.out.mono hb6); have HO6 := hide (owns_below HOW5.out hb6); have HP6 := hide ((hb6.block bp (blk_lt HPq0.out)).trans HPq0.out); clear hown hb6; have yo61 : w6.cell? ⟨bo, 1, none⟩ = some (.slice A2 n2 c2) := (blk_cell M6.out.o 1).trans rfl; have fo6 := blk_frozen M6.out.o 1; have lo6 := blk_lt M6.out.o)
          clear yx3 yo1 lo lx
          obtain ⟨W6, hW6⟩ : ∃ q, w6.setCell ⟨bo, 1, none⟩ (.slice A7 k2 c7) = q := ⟨_, rfl⟩
          have HG6 := hide (show w6.grownBy W6 (some bo) by rw [← hW6]; exact gr_set _ _ _ _)
          have HQ6 := hide (show W6.heap[bo]? = some (.cells #[.slice (some ⟨gA, 0, none⟩) m c5, .slice A7 k2 c7, .int .i64 s.back, .slice A3 n3 c3] 53 (0, 0)) by rw [← hW6]; exact blk_set M6.out.o 1 _)
          rw [hW6]
          clear hW6 yo61 fo6 lo6
          have MW6 := hide (M6.out.setO HG6.out HQ6.out)
          have HI7 := hide (HI6.out.kept HG6.out (.inr (row_ne HI6.out M6.out.o (by decide))))
          have HOW := hide (HO6.out.kept HG6.out (.inr (row_ne HO6.out M6.out.o (by decide))))
          have HPq := hide ((HG6.out.block bp (blk_lt HP6.out) (fun e => HBN.out (Option.some.inj e))).trans HP6.out)
          have HZI := hide (show w.heap.size ≤ W5.heap.size from MW5.out.below.size)
          clear HQ6
          have yo0 : W6.cell? ⟨bo, 0, none⟩ = some (.slice (some ⟨gA, 0, none⟩) m c5) := (blk_cell MW6.out.o 0).trans rfl
          have yo1 : W6.cell? ⟨bo, 1, none⟩ = some (.slice A7 k2 c7) := (blk_cell MW6.out.o 1).trans rfl
          have yo2 : W6.cell? ⟨bo, 2, none⟩ = some (.int .i64 s.back) := (blk_cell MW6.out.o 2).trans rfl
          have yo3 : W6.cell? ⟨bo, 3, none⟩ = some (.slice A3 n3 c3) := (blk_cell MW6.out.o 3).trans rfl
          have lyo := blk_lt MW6.out.o
          have yp0 : W6.cell? ⟨bp, 0, none⟩ = some (.int .i64 q.player) := (blk_cell HPq.out 0).trans rfl
          have yp1 : W6.cell? ⟨bp, 1, none⟩ = some (.int .i64 q.rank) := (blk_cell HPq.out 1).trans rfl
          have yp2 : W6.cell? ⟨bp, 2, none⟩ = some (.bool q.grd) := (blk_cell HPq.out 2).trans rfl
          have yp3 : W6.cell? ⟨bp, 3, none⟩ = some (.bool q.ent) := (blk_cell HPq.out 3).trans rfl
          have yp4 : W6.cell? ⟨bp, 4, none⟩ = some (.bool q.quit) := (blk_cell HPq.out 4).trans rfl
          have yp5 : W6.cell? ⟨bp, 5, none⟩ = some (.bool q.sgn) := (blk_cell HPq.out 5).trans rfl
          have yp6 : W6.cell? ⟨bp, 6, none⟩ = some (.bool q.card) := (blk_cell HPq.out 6).trans rfl
          have lyp := blk_lt HPq.out
          have HTH := hide (own_there7 HOW.out hnm)
          go_upto_region 28 with (refine wpList_store_mid rfl 57 (.tmp 153) (.tmp 152) rfl gA (n * 7) (pc q).toArray rfl rfl HTH.out rpSize (pc_one q) ?_; refine cap_gen (K := fun a w => wpList _ _ _ _ a w) (fun w7 hw7 => ?_); have HO7 := hide (show w7.ownsRow z0 57 7 (.slice (some ⟨gA, 0, none⟩) m c5) m (flatP (PP.set n q)) by rw [hw7]; exact own_set7 HOW.out HM.out n q); have HG7 := hide (show W6.grownBy w7 (some gA) by rw [hw7]; exact grown_set7 W6 gA (n * 7) q); clear hw7)
          clear yo0 yo1 yo2 yo3 lyo yp0 yp1 yp2 yp3 yp4 yp5 yp6 lyp
          have Mw7 := hide (MW6.out.grown HG7.out HGA.out (fun e => row_ne HOW.out MW6.out.o (by decide) (by rw [e]; rfl)))
          have yo0 : w7.cell? ⟨bo, 0, none⟩ = some (.slice (some ⟨gA, 0, none⟩) m c5) := (blk_cell Mw7.out.o 0).trans rfl
          have yo1 : w7.cell? ⟨bo, 1, none⟩ = some (.slice A7 k2 c7) := (blk_cell Mw7.out.o 1).trans rfl
          have yo2 : w7.cell? ⟨bo, 2, none⟩ = some (.int .i64 s.back) := (blk_cell Mw7.out.o 2).trans rfl
          have yo3 : w7.cell? ⟨bo, 3, none⟩ = some (.slice A3 n3 c3) := (blk_cell Mw7.out.o 3).trans rfl
          have lyo := blk_lt Mw7.out.o
          have yz0 : w7.cell? ⟨w.heap.size + 1 + 1 + 1, 0, none⟩ = some (.slice none 0 0) := (blk_cell Mw7.out.r 0).trans rfl
          have yz1 : w7.cell? ⟨w.heap.size + 1 + 1 + 1, 1, none⟩ = some (.slice none 0 0) := (blk_cell Mw7.out.r 1).trans rfl
          have yz2 : w7.cell? ⟨w.heap.size + 1 + 1 + 1, 2, none⟩ = some (.int .i64 0) := (blk_cell Mw7.out.r 2).trans rfl
          have yz3 : w7.cell? ⟨w.heap.size + 1 + 1 + 1, 3, none⟩ = some (.slice none 0 0) := (blk_cell Mw7.out.r 3).trans rfl
          have lyz := blk_lt Mw7.out.r
          have fz0 := blk_frozen Mw7.out.r 0
          have fz1 := blk_frozen Mw7.out.r 1
          have fz2 := blk_frozen Mw7.out.r 2
          have fz3 := blk_frozen Mw7.out.r 3
          go_wp2_with fail
          obtain ⟨w8, hw8⟩ : ∃ q, (((w7.setCell ⟨w.heap.size + 1 + 1 + 1, 0, none⟩ (.slice (some ⟨gA, 0, none⟩) m c5)).setCell ⟨w.heap.size + 1 + 1 + 1, 1, none⟩ (.slice A7 k2 c7)).setCell ⟨w.heap.size + 1 + 1 + 1, 2, none⟩ (.int .i64 s.back)).setCell ⟨w.heap.size + 1 + 1 + 1, 3, none⟩ (.slice A3 n3 c3) = q := ⟨_, rfl⟩
          have HT8 := hide (show w8.heap[w.heap.size + 1 + 1 + 1]? = some (.cells #[.slice (some ⟨gA, 0, none⟩) m c5, .slice A7 k2 c7, .int .i64 s.back, .slice A3 n3 c3] 53 (0, 0)) by rw [← hw8]; exact blk_set (blk_set (blk_set (blk_set Mw7.out.r 0 _) 1 _) 2 _) 3 _)
          have HG8 := hide (show w7.grownBy w8 (some (w.heap.size + 1 + 1 + 1)) by rw [← hw8]; exact gr_trans (gr_trans (gr_trans (gr_set _ _ _ _) (gr_set _ _ _ _)) (gr_set _ _ _ _)) (gr_set _ _ _ _))
          rw [hw8]
          clear hw8
          have HB8 := hide (Mw7.out.below.trans (grown_below HG8.out Mw7.out.below.size (fun g hg => by cases hg; omega)))
          have HSD := hide (show E.rtake f s x = ⟨PP.set n q, wl, s.back, s.ins⟩ by (unfold E.rtake; dsimp only; rw [HPP.out, HIX.out, HGT.out]; rw [if_neg (by rw [HKD.out]; decide), if_neg (by rw [HKD.out]; decide), if_pos HKD.out, if_neg (by rintro ⟨h1, h2⟩; have := HC.out; omega), HWQ.out, HQE.out]))
          have HO8 := hide (HO7.out.kept HG8.out (.inr (row_ne HO7.out Mw7.out.r (by decide))))
          have HST := hide (show StW w8 (fun b => ok b ∨ w.heap.size ≤ b) (.agg #[.slice (some ⟨gA, 0, none⟩) m c5, .slice A7 k2 c7, .int .i64 s.back, .slice A3 n3 c3]) (E.rtake f s x) by
            rw [HSD.out]
            exact stw_fin (Pl := PP.set n q) HB8.out HO8.out HZL.out (by first | (simp; exact HM.out) | exact HM.out | (simp [HM.out]; omega) | (simp; have := HM.out; omega)) ((by
              obtain ⟨csA, hcsA⟩ := own_blk HOW.out
              exact (intsW_own (((HI7.out.kept HG7.out (.inr (row_ne HI7.out hcsA (by decide)))).kept HG8.out (.inr (row_ne (HI7.out.kept HG7.out (.inr (row_ne HI7.out hcsA (by decide)))) Mw7.out.r (by decide))))) HWL.out).to (Nat.le_refl _) (fun _ _ _ => rfl) (fun b hb hk => .inr (Nat.le_trans HZI.out hk)))) HIN.out (fun W' h1 h2 => HII.out W' h1 h2))
          have r0 : w8.cell? ⟨w.heap.size + 1 + 1 + 1, 0, none⟩ = some (.slice (some ⟨gA, 0, none⟩) m c5) := (blk_cell HT8.out 0).trans rfl
          have r1 : w8.cell? ⟨w.heap.size + 1 + 1 + 1, 1, none⟩ = some (.slice A7 k2 c7) := (blk_cell HT8.out 1).trans rfl
          have r2 : w8.cell? ⟨w.heap.size + 1 + 1 + 1, 2, none⟩ = some (.int .i64 s.back) := (blk_cell HT8.out 2).trans rfl
          have r3 : w8.cell? ⟨w.heap.size + 1 + 1 + 1, 3, none⟩ = some (.slice A3 n3 c3) := (blk_cell HT8.out 3).trans rfl
          have lr := blk_lt HT8.out
          exact bodyPost_ret (v := .agg #[.slice (some ⟨gA, 0, none⟩) m c5, .slice A7 k2 c7, .int .i64 s.back, .slice A3 n3 c3]) (by simp [results, Tryz.results62, go_sem, r0, r1, r2, r3]) rfl ⟨_, rfl, HST.out, HB8.out⟩
    by_cases h5 : x.kind = 5
    · have HKD := hide h5
      have d1 : (x.kind == 1) = false := by rw [h5]; rfl
      have d2 : (x.kind == 2) = false := by rw [h5]; rfl
      have d3 : (x.kind == 3) = false := by rw [h5]; rfl
      have d4 : (x.kind == 4) = false := by rw [h5]; rfl
      have d5 : (x.kind == 5) = true := by rw [h5]; rfl
      clear h5
      clear h1 h2 h3 h4
      have yp5 : W3.cell? ⟨bp, 5, none⟩ = some (.bool p.sgn) := (blk_cell HP3.out 5).trans rfl
      have fp5 := blk_frozen HP3.out 5
      have lp := blk_lt HP3.out
      go_upto_region 27 with fail
      clear yp5 fp5 lp yk lk
      obtain ⟨W4, hW4⟩ : ∃ q, W3.setCell ⟨bp, 5, none⟩ (.bool true) = q := ⟨_, rfl⟩
      have HGp := hide (show W3.grownBy W4 (some bp) by rw [← hW4]; exact gr_set _ _ _ _)
      obtain ⟨q, hq⟩ : ∃ q : E.Rp, q = { p with sgn := true } := ⟨_, rfl⟩
      have HQE := hide hq
      have HPq0 := hide (show W4.heap[bp]? = some (.cells #[.int .i64 q.player, .int .i64 q.rank, .bool q.grd, .bool q.ent, .bool q.quit, .bool q.sgn, .bool q.card] 57 (0, 0)) by rw [hq, ← hW4]; exact blk_set HP3.out 5 _)
      rw [hW4]
      clear hq hW4
      have MW4 := hide (M3.out.grown HGp.out HB4.out HBN.out)
      have HOW4 := hide (HO3.out.kept HGp.out (.inr HNE.out))
      have HOW := HOW4
      have HPq := HPq0
      have yo0 : W4.cell? ⟨bo, 0, none⟩ = some (.slice (some ⟨gA, 0, none⟩) m c5) := (blk_cell MW4.out.o 0).trans rfl
      have yo1 : W4.cell? ⟨bo, 1, none⟩ = some (.slice A2 n2 c2) := (blk_cell MW4.out.o 1).trans rfl
      have yo2 : W4.cell? ⟨bo, 2, none⟩ = some (.int .i64 s.back) := (blk_cell MW4.out.o 2).trans rfl
      have yo3 : W4.cell? ⟨bo, 3, none⟩ = some (.slice A3 n3 c3) := (blk_cell MW4.out.o 3).trans rfl
      have lyo := blk_lt MW4.out.o
      have yp0 : W4.cell? ⟨bp, 0, none⟩ = some (.int .i64 q.player) := (blk_cell HPq.out 0).trans rfl
      have yp1 : W4.cell? ⟨bp, 1, none⟩ = some (.int .i64 q.rank) := (blk_cell HPq.out 1).trans rfl
      have yp2 : W4.cell? ⟨bp, 2, none⟩ = some (.bool q.grd) := (blk_cell HPq.out 2).trans rfl
      have yp3 : W4.cell? ⟨bp, 3, none⟩ = some (.bool q.ent) := (blk_cell HPq.out 3).trans rfl
      have yp4 : W4.cell? ⟨bp, 4, none⟩ = some (.bool q.quit) := (blk_cell HPq.out 4).trans rfl
      have yp5 : W4.cell? ⟨bp, 5, none⟩ = some (.bool q.sgn) := (blk_cell HPq.out 5).trans rfl
      have yp6 : W4.cell? ⟨bp, 6, none⟩ = some (.bool q.card) := (blk_cell HPq.out 6).trans rfl
      have lyp := blk_lt HPq.out
      have HTH := hide (own_there7 HOW.out hnm)
      go_upto_region 28 with (refine wpList_store_mid rfl 57 (.tmp 153) (.tmp 152) rfl gA (n * 7) (pc q).toArray rfl rfl HTH.out rpSize (pc_one q) ?_; refine cap_gen (K := fun a w => wpList _ _ _ _ a w) (fun w7 hw7 => ?_); have HO7 := hide (show w7.ownsRow z0 57 7 (.slice (some ⟨gA, 0, none⟩) m c5) m (flatP (PP.set n q)) by rw [hw7]; exact own_set7 HOW.out HM.out n q); have HG7 := hide (show W4.grownBy w7 (some gA) by rw [hw7]; exact grown_set7 W4 gA (n * 7) q); clear hw7)
      clear yo0 yo1 yo2 yo3 lyo yp0 yp1 yp2 yp3 yp4 yp5 yp6 lyp
      have Mw7 := hide (MW4.out.grown HG7.out HGA.out (fun e => row_ne HOW.out MW4.out.o (by decide) (by rw [e]; rfl)))
      have yo0 : w7.cell? ⟨bo, 0, none⟩ = some (.slice (some ⟨gA, 0, none⟩) m c5) := (blk_cell Mw7.out.o 0).trans rfl
      have yo1 : w7.cell? ⟨bo, 1, none⟩ = some (.slice A2 n2 c2) := (blk_cell Mw7.out.o 1).trans rfl
      have yo2 : w7.cell? ⟨bo, 2, none⟩ = some (.int .i64 s.back) := (blk_cell Mw7.out.o 2).trans rfl
      have yo3 : w7.cell? ⟨bo, 3, none⟩ = some (.slice A3 n3 c3) := (blk_cell Mw7.out.o 3).trans rfl
      have lyo := blk_lt Mw7.out.o
      have yz0 : w7.cell? ⟨w.heap.size + 1 + 1 + 1, 0, none⟩ = some (.slice none 0 0) := (blk_cell Mw7.out.r 0).trans rfl
      have yz1 : w7.cell? ⟨w.heap.size + 1 + 1 + 1, 1, none⟩ = some (.slice none 0 0) := (blk_cell Mw7.out.r 1).trans rfl
      have yz2 : w7.cell? ⟨w.heap.size + 1 + 1 + 1, 2, none⟩ = some (.int .i64 0) := (blk_cell Mw7.out.r 2).trans rfl
      have yz3 : w7.cell? ⟨w.heap.size + 1 + 1 + 1, 3, none⟩ = some (.slice none 0 0) := (blk_cell Mw7.out.r 3).trans rfl
      have lyz := blk_lt Mw7.out.r
      have fz0 := blk_frozen Mw7.out.r 0
      have fz1 := blk_frozen Mw7.out.r 1
      have fz2 := blk_frozen Mw7.out.r 2
      have fz3 := blk_frozen Mw7.out.r 3
      go_wp2_with fail
      obtain ⟨w8, hw8⟩ : ∃ q, (((w7.setCell ⟨w.heap.size + 1 + 1 + 1, 0, none⟩ (.slice (some ⟨gA, 0, none⟩) m c5)).setCell ⟨w.heap.size + 1 + 1 + 1, 1, none⟩ (.slice A2 n2 c2)).setCell ⟨w.heap.size + 1 + 1 + 1, 2, none⟩ (.int .i64 s.back)).setCell ⟨w.heap.size + 1 + 1 + 1, 3, none⟩ (.slice A3 n3 c3) = q := ⟨_, rfl⟩
      have HT8 := hide (show w8.heap[w.heap.size + 1 + 1 + 1]? = some (.cells #[.slice (some ⟨gA, 0, none⟩) m c5, .slice A2 n2 c2, .int .i64 s.back, .slice A3 n3 c3] 53 (0, 0)) by rw [← hw8]; exact blk_set (blk_set (blk_set (blk_set Mw7.out.r 0 _) 1 _) 2 _) 3 _)
      have HG8 := hide (show w7.grownBy w8 (some (w.heap.size + 1 + 1 + 1)) by rw [← hw8]; exact gr_trans (gr_trans (gr_trans (gr_set _ _ _ _) (gr_set _ _ _ _)) (gr_set _ _ _ _)) (gr_set _ _ _ _))
      rw [hw8]
      clear hw8
      have HB8 := hide (Mw7.out.below.trans (grown_below HG8.out Mw7.out.below.size (fun g hg => by cases hg; omega)))
      have HSD := hide (show E.rtake f s x = ⟨PP.set n q, s.wilds, s.back, s.ins⟩ by (unfold E.rtake; dsimp only; rw [HPP.out, HIX.out, HGT.out]; rw [if_neg (by rw [HKD.out]; decide), if_neg (by rw [HKD.out]; decide), if_neg (by rw [HKD.out]; decide), if_pos HKD.out, HQE.out]))
      have HO8 := hide (HO7.out.kept HG8.out (.inr (row_ne HO7.out Mw7.out.r (by decide))))
      have HST := hide (show StW w8 (fun b => ok b ∨ w.heap.size ≤ b) (.agg #[.slice (some ⟨gA, 0, none⟩) m c5, .slice A2 n2 c2, .int .i64 s.back, .slice A3 n3 c3]) (E.rtake f s x) by
        rw [HSD.out]
        exact stw_fin (Pl := PP.set n q) HB8.out HO8.out HZL.out (by first | (simp; exact HM.out) | exact HM.out | (simp [HM.out]; omega) | (simp; have := HM.out; omega)) (HWI.out.to HB8.out.size (fun b hb _ => HB8.out.block b hb) (fun b hb hk => .inl hk)) HIN.out (fun W' h1 h2 => HII.out W' h1 h2))
      have r0 : w8.cell? ⟨w.heap.size + 1 + 1 + 1, 0, none⟩ = some (.slice (some ⟨gA, 0, none⟩) m c5) := (blk_cell HT8.out 0).trans rfl
      have r1 : w8.cell? ⟨w.heap.size + 1 + 1 + 1, 1, none⟩ = some (.slice A2 n2 c2) := (blk_cell HT8.out 1).trans rfl
      have r2 : w8.cell? ⟨w.heap.size + 1 + 1 + 1, 2, none⟩ = some (.int .i64 s.back) := (blk_cell HT8.out 2).trans rfl
      have r3 : w8.cell? ⟨w.heap.size + 1 + 1 + 1, 3, none⟩ = some (.slice A3 n3 c3) := (blk_cell HT8.out 3).trans rfl
      have lr := blk_lt HT8.out
      exact bodyPost_ret (v := .agg #[.slice (some ⟨gA, 0, none⟩) m c5, .slice A2 n2 c2, .int .i64 s.back, .slice A3 n3 c3]) (by simp [results, Tryz.results62, go_sem, r0, r1, r2, r3]) rfl ⟨_, rfl, HST.out, HB8.out⟩
    have HKO := hide (show ¬(x.kind = 1 ∨ x.kind = 2) ∧ ¬x.kind = 3 ∧ ¬x.kind = 4 ∧ ¬x.kind = 5 from ⟨fun h => h.elim h1 h2, h3, h4, h5⟩)
    have d1 : (x.kind == 1) = false := by simpa using h1
    have d2 : (x.kind == 2) = false := by simpa using h2
    have d3 : (x.kind == 3) = false := by simpa using h3
    have d4 : (x.kind == 4) = false := by simpa using h4
    have d5 : (x.kind == 5) = false := by simpa using h5
    clear h1 h2 h3 h4 h5
    go_upto_region 27 with fail
    clear yk lk
    have HOW := HO3
    have HPq := HP3
    have yo0 : W3.cell? ⟨bo, 0, none⟩ = some (.slice (some ⟨gA, 0, none⟩) m c5) := (blk_cell MW3.out.o 0).trans rfl
    have yo1 : W3.cell? ⟨bo, 1, none⟩ = some (.slice A2 n2 c2) := (blk_cell MW3.out.o 1).trans rfl
    have yo2 : W3.cell? ⟨bo, 2, none⟩ = some (.int .i64 s.back) := (blk_cell MW3.out.o 2).trans rfl
    have yo3 : W3.cell? ⟨bo, 3, none⟩ = some (.slice A3 n3 c3) := (blk_cell MW3.out.o 3).trans rfl
    have lyo := blk_lt MW3.out.o
    have yp0 : W3.cell? ⟨bp, 0, none⟩ = some (.int .i64 p.player) := (blk_cell HPq.out 0).trans rfl
    have yp1 : W3.cell? ⟨bp, 1, none⟩ = some (.int .i64 p.rank) := (blk_cell HPq.out 1).trans rfl
    have yp2 : W3.cell? ⟨bp, 2, none⟩ = some (.bool p.grd) := (blk_cell HPq.out 2).trans rfl
    have yp3 : W3.cell? ⟨bp, 3, none⟩ = some (.bool p.ent) := (blk_cell HPq.out 3).trans rfl
    have yp4 : W3.cell? ⟨bp, 4, none⟩ = some (.bool p.quit) := (blk_cell HPq.out 4).trans rfl
    have yp5 : W3.cell? ⟨bp, 5, none⟩ = some (.bool p.sgn) := (blk_cell HPq.out 5).trans rfl
    have yp6 : W3.cell? ⟨bp, 6, none⟩ = some (.bool p.card) := (blk_cell HPq.out 6).trans rfl
    have lyp := blk_lt HPq.out
    have HTH := hide (own_there7 HOW.out hnm)
    go_upto_region 28 with (refine wpList_store_mid rfl 57 (.tmp 153) (.tmp 152) rfl gA (n * 7) (pc p).toArray rfl rfl HTH.out rpSize (pc_one p) ?_; refine cap_gen (K := fun a w => wpList _ _ _ _ a w) (fun w7 hw7 => ?_); have HO7 := hide (show w7.ownsRow z0 57 7 (.slice (some ⟨gA, 0, none⟩) m c5) m (flatP (PP.set n p)) by rw [hw7]; exact own_set7 HOW.out HM.out n p); have HG7 := hide (show W3.grownBy w7 (some gA) by rw [hw7]; exact grown_set7 W3 gA (n * 7) p); clear hw7)
    clear yo0 yo1 yo2 yo3 lyo yp0 yp1 yp2 yp3 yp4 yp5 yp6 lyp
    have Mw7 := hide (MW3.out.grown HG7.out HGA.out (fun e => row_ne HOW.out MW3.out.o (by decide) (by rw [e]; rfl)))
    have yo0 : w7.cell? ⟨bo, 0, none⟩ = some (.slice (some ⟨gA, 0, none⟩) m c5) := (blk_cell Mw7.out.o 0).trans rfl
    have yo1 : w7.cell? ⟨bo, 1, none⟩ = some (.slice A2 n2 c2) := (blk_cell Mw7.out.o 1).trans rfl
    have yo2 : w7.cell? ⟨bo, 2, none⟩ = some (.int .i64 s.back) := (blk_cell Mw7.out.o 2).trans rfl
    have yo3 : w7.cell? ⟨bo, 3, none⟩ = some (.slice A3 n3 c3) := (blk_cell Mw7.out.o 3).trans rfl
    have lyo := blk_lt Mw7.out.o
    have yz0 : w7.cell? ⟨w.heap.size + 1 + 1 + 1, 0, none⟩ = some (.slice none 0 0) := (blk_cell Mw7.out.r 0).trans rfl
    have yz1 : w7.cell? ⟨w.heap.size + 1 + 1 + 1, 1, none⟩ = some (.slice none 0 0) := (blk_cell Mw7.out.r 1).trans rfl
    have yz2 : w7.cell? ⟨w.heap.size + 1 + 1 + 1, 2, none⟩ = some (.int .i64 0) := (blk_cell Mw7.out.r 2).trans rfl
    have yz3 : w7.cell? ⟨w.heap.size + 1 + 1 + 1, 3, none⟩ = some (.slice none 0 0) := (blk_cell Mw7.out.r 3).trans rfl
    have lyz := blk_lt Mw7.out.r
    have fz0 := blk_frozen Mw7.out.r 0
    have fz1 := blk_frozen Mw7.out.r 1
    have fz2 := blk_frozen Mw7.out.r 2
    have fz3 := blk_frozen Mw7.out.r 3
    go_wp2_with fail
    obtain ⟨w8, hw8⟩ : ∃ q, (((w7.setCell ⟨w.heap.size + 1 + 1 + 1, 0, none⟩ (.slice (some ⟨gA, 0, none⟩) m c5)).setCell ⟨w.heap.size + 1 + 1 + 1, 1, none⟩ (.slice A2 n2 c2)).setCell ⟨w.heap.size + 1 + 1 + 1, 2, none⟩ (.int .i64 s.back)).setCell ⟨w.heap.size + 1 + 1 + 1, 3, none⟩ (.slice A3 n3 c3) = q := ⟨_, rfl⟩
    have HT8 := hide (show w8.heap[w.heap.size + 1 + 1 + 1]? = some (.cells #[.slice (some ⟨gA, 0, none⟩) m c5, .slice A2 n2 c2, .int .i64 s.back, .slice A3 n3 c3] 53 (0, 0)) by rw [← hw8]; exact blk_set (blk_set (blk_set (blk_set Mw7.out.r 0 _) 1 _) 2 _) 3 _)
    have HG8 := hide (show w7.grownBy w8 (some (w.heap.size + 1 + 1 + 1)) by rw [← hw8]; exact gr_trans (gr_trans (gr_trans (gr_set _ _ _ _) (gr_set _ _ _ _)) (gr_set _ _ _ _)) (gr_set _ _ _ _))
    rw [hw8]
    clear hw8
    have HB8 := hide (Mw7.out.below.trans (grown_below HG8.out Mw7.out.below.size (fun g hg => by cases hg; omega)))
    have HSD := hide (show E.rtake f s x = ⟨PP.set n p, s.wilds, s.back, s.ins⟩ by (unfold E.rtake; dsimp only; rw [HPP.out, HIX.out, HGT.out]; rw [if_neg HKO.out.1, if_neg HKO.out.2.1, if_neg HKO.out.2.2.1, if_neg HKO.out.2.2.2]))
    have HO8 := hide (HO7.out.kept HG8.out (.inr (row_ne HO7.out Mw7.out.r (by decide))))
    have HST := hide (show StW w8 (fun b => ok b ∨ w.heap.size ≤ b) (.agg #[.slice (some ⟨gA, 0, none⟩) m c5, .slice A2 n2 c2, .int .i64 s.back, .slice A3 n3 c3]) (E.rtake f s x) by
      rw [HSD.out]
      exact stw_fin (Pl := PP.set n p) HB8.out HO8.out HZL.out (by first | (simp; exact HM.out) | exact HM.out | (simp [HM.out]; omega) | (simp; have := HM.out; omega)) (HWI.out.to HB8.out.size (fun b hb _ => HB8.out.block b hb) (fun b hb hk => .inl hk)) HIN.out (fun W' h1 h2 => HII.out W' h1 h2))
    have r0 : w8.cell? ⟨w.heap.size + 1 + 1 + 1, 0, none⟩ = some (.slice (some ⟨gA, 0, none⟩) m c5) := (blk_cell HT8.out 0).trans rfl
    have r1 : w8.cell? ⟨w.heap.size + 1 + 1 + 1, 1, none⟩ = some (.slice A2 n2 c2) := (blk_cell HT8.out 1).trans rfl
    have r2 : w8.cell? ⟨w.heap.size + 1 + 1 + 1, 2, none⟩ = some (.int .i64 s.back) := (blk_cell HT8.out 2).trans rfl
    have r3 : w8.cell? ⟨w.heap.size + 1 + 1 + 1, 3, none⟩ = some (.slice A3 n3 c3) := (blk_cell HT8.out 3).trans rfl
    have lr := blk_lt HT8.out
    exact bodyPost_ret (v := .agg #[.slice (some ⟨gA, 0, none⟩) m c5, .slice A2 n2 c2, .int .i64 s.back, .slice A3 n3 c3]) (by simp [results, Tryz.results62, go_sem, r0, r1, r2, r3]) rfl ⟨_, rfl, HST.out, HB8.out⟩
theorem takeP_holds : TakeP := fun f v s x ok w hs h1 h2 h3 h4 => take_ref f v s x ok w hs h1 h2 h3 h4
end Go.Proofs.YtobjahlmjcnfoaaGreat

namespace Go.Proofs.YtobjahlmjcnfoaaGreat
open Go.RowKit Go.Sort
attribute [local go_sem ↓] Go.wp_at_zero Go.wp_at_succ

theorem outF_le (os : List E.Rp) (ins : List Int) : (outF os ins).length ≤ os.length := by
  unfold outF
  rw [List.length_map]
  exact List.length_filter_le _ _
theorem AfterP_of {f : E.Fd} {l d : List E.Nt} (hd : E.diffs l = some d) (hv : E.validField f = true) (h : Int) : AfterP f l h (E.rafter f d h) := fun A n c w hn hr => by
  have hp := E.valid_places hv
  have := After_ref takeP_holds takenP_holds f A n c l d h w hn hr hd (E.diffs_len hd) (one_ok hd hv) (by omega)
  rw [E.aft_same f (E.diffs_spec hd).2.1 h] at this
  exact this
theorem rafter_bd {f : E.Fd} {l d : List E.Nt} (hd : E.diffs l = some d) (hv : E.validField f = true) (h : Int) : (E.rafter f d h).people.length ≤ 200 ∧ (E.rafter f d h).ins.length ≤ 400 ∧ (0 ≤ (E.rafter f d h).back ∧ (E.rafter f d h).back ≤ 1000) ∧ (E.rafter f d h).wilds.length ≤ 400 := by
  obtain ⟨_, ht, _⟩ := E.diffs_spec hd
  have hdl := E.diffs_len hd
  have hf := E.valid_places hv
  have hl2 := List.length_filter_le (fun x : E.Nt => decide (x.hour ≤ h)) d
  have hb := E.rfold_bd (f := f) (d.filter fun x => decide (x.hour ≤ h)) E.Rs.new 0 ⟨by simp [E.Rs.new], by simp [E.Rs.new], Int.le_refl _, Int.le_refl _, fun p hp => by cases hp⟩ (fun y hy => (E.valid_player (ht.valid y (List.mem_filter.1 hy).1)).1)
  have hb2 := E.fold_bd (d.filter fun x => decide (x.hour ≤ h)) (E.St.new f) 0 ⟨by show f.places ≤ _; omega, by simp [E.St.new], by simp [E.St.new], Int.le_refl _, by show 0 ≤ f.places; omega, Int.le_refl _⟩
  have hside := (E.after_side hd hv h).1
  have a1 := hb.people
  have a2 := hb.wilds
  have a3 := hb.back0
  have a4 := hb.back
  have a6 := hb2.main
  have a7 : (E.rafter f d h).ins = ((d.filter fun x => decide (x.hour ≤ h)).foldl E.St.take (E.St.new f)).main := hside.ins
  refine ⟨?_, ?_, ⟨a3, ?_⟩, ?_⟩
  · show ((d.filter fun x => decide (x.hour ≤ h)).foldl (E.rone f) E.Rs.new).people.length ≤ 200; omega
  · rw [a7]; omega
  · show ((d.filter fun x => decide (x.hour ≤ h)).foldl (E.rone f) E.Rs.new).back ≤ 1000; omega
  · show ((d.filter fun x => decide (x.hour ≤ h)).foldl (E.rone f) E.Rs.new).wilds.length ≤ 400; omega
end Go.Proofs.YtobjahlmjcnfoaaGreat

namespace Go.Proofs.YtobjahlmjcnfoaaGreat
open Go.RowKit Go.Sort
attribute [local go_sem ↓] Go.wp_at_zero Go.wp_at_succ

theorem side_of {f : E.Fd} {l d : List E.Nt} (hd : E.diffs l = some d) (hv : E.validField f = true) (h : Int) : (E.rafter f d h).ins = (E.atL f h d).main ∧ (E.rafter f d h).wilds = (E.atL f h d).cards ∧ outF (ordF (E.rafter f d h).people) (E.rafter f d h).ins = (E.atL f h d).alts ∧ (E.atL f h d).f.places = f.places + (E.rafter f d h).back := by
  obtain ⟨hs, hr⟩ := E.after_side hd hv h
  have hok := (E.atL_ok f h (fun x hx => E.valid_player ((E.diffs_spec hd).2.1.valid x hx))).1
  exact ⟨hs.ins, hs.wilds, E.out_side hs hok hr, hs.places⟩
end Go.Proofs.YtobjahlmjcnfoaaGreat

namespace Go.Proofs.YtobjahlmjcnfoaaGreat
open Go.RowKit Go.Sort
attribute [local go_sem ↓] Go.wp_at_zero Go.wp_at_succ

theorem where_side {f : E.Fd} {l d : List E.Nt} (hd : E.diffs l = some d) (hv : E.validField f = true) (h p : Int) : whereL (E.rafter f d h).ins (E.rafter f d h).wilds (outF (ordF (E.rafter f d h).people) (E.rafter f d h).ins) p = (E.atL f h d).where_ p := by
  obtain ⟨s1, s2, s3, _⟩ := side_of hd hv h
  rw [s3, s1, s2]
  rfl
theorem whenR_hit {f : E.Fd} {d : List E.Nt} {p : Int} {i : Nat} {x : E.Nt} (h : d[i]? = some x) (hx : E.inB (E.atL f x.hour d) p) (hn : ∀ (j : Nat) (y : E.Nt), j < i → d[j]? = some y → ¬ E.inB (E.atL f y.hour d) p) : E.whenR f d p = some x.hour := by
  unfold E.whenR
  obtain ⟨h1, h2⟩ := List.getElem?_eq_some_iff.1 h
  rw [show d.find? (fun x => decide (E.inB (E.atL f x.hour d) p)) = some x from by
    rw [List.find?_eq_some_iff_getElem]
    refine ⟨by simpa using hx, i, h1, h2, fun j hj => ?_⟩
    have := hn j d[j] hj (List.getElem?_eq_getElem (by omega))
    simpa using this]
  rfl
theorem whenR_miss {f : E.Fd} {d : List E.Nt} {p : Int} (hn : ∀ (j : Nat) (y : E.Nt), d[j]? = some y → ¬ E.inB (E.atL f y.hour d) p) : E.whenR f d p = none := by
  unfold E.whenR
  rw [show d.find? (fun x => decide (E.inB (E.atL f x.hour d) p)) = none from by
    rw [List.find?_eq_none]
    intro x hx
    obtain ⟨j, hj⟩ := List.mem_iff_getElem?.1 hx
    simpa using hn j x hj]
  rfl
set_option maxHeartbeats 6400000 in
set_option maxRecDepth 100000 in
theorem When_ref (f : E.Fd) (A : Option Addr) (n c : Nat) (l d : List E.Nt) (p : Int) (w : World) (hn : l.length = n) (hr : RdN w w.heap.size A l) (hm : n ≤ 1000000) (hd : E.errE f l 0 p = 0 → E.diffs l = some d) :
    Calls Tryz.prog 11 #[.agg #[.int .i64 f.places, .int .i64 f.wilds, .int .i64 f.guards, .int .i64 f.close, .int .i64 f.freeze], .slice A n c, .int .i64 p] w fun e w' => e = .returned (OptV (E.errE f l 0 p) (E.whenR f d p)) ∧ Below w.heap.size w w' := by
  have HN := hide hn
  have HR := hide hr
  have HM := hide hm
  clear hn hr hm
  have HV := hide (show E.errE f l 0 p = 0 → E.validField f = true from fun h => (E.errE_ok h).2.1)
  obtain ⟨e0, he0⟩ : ∃ q, E.errE f l 0 p = q := ⟨_, rfl⟩
  have HE0 := hide he0
  rw [he0] at hd HV ⊢
  clear he0
  obtain ⟨vv, hvv⟩ : ∃ q : Value, OptV e0 (E.whenR f d p) = q := ⟨_, rfl⟩
  have HVV := hide hvv
  rw [hvv]
  clear hvv
  go_enter Tryz.func11, Tryz.ntmps11
  go_upto_region 1 with fail
  obtain ⟨w0, hw0⟩ : ∃ q, w.alloc (.cells #[.int .i64 f.places, .int .i64 f.wilds, .int .i64 f.guards, .int .i64 f.close, .int .i64 f.freeze] 23) = q := ⟨_, rfl⟩
  have HB0 := hide (show Below w.heap.size w w0 by rw [← hw0]; (repeat' first | exact zbR _ _ | assumption | refine zbD ?_ | refine zbA ?_ ?_ _ | refine zbS ?_ ?_ _ | refine zbT ?_ (by assumption) ?_ | (simp; done) | (simp; omega) | omega))
  have HF0 := hide (show w0.heap[w.heap.size]? = some (.cells #[.int .i64 f.places, .int .i64 f.wilds, .int .i64 f.guards, .int .i64 f.close, .int .i64 f.freeze] 23 (0, 0)) by rw [← hw0]; exact World.alloc_heap_new _ _)
  rw [hw0]
  clear hw0
  have yf0 : w0.cell? ⟨w.heap.size, 0, none⟩ = some (.int .i64 f.places) := (blk_cell HF0.out 0).trans rfl
  have yf1 : w0.cell? ⟨w.heap.size, 1, none⟩ = some (.int .i64 f.wilds) := (blk_cell HF0.out 1).trans rfl
  have yf2 : w0.cell? ⟨w.heap.size, 2, none⟩ = some (.int .i64 f.guards) := (blk_cell HF0.out 2).trans rfl
  have yf3 : w0.cell? ⟨w.heap.size, 3, none⟩ = some (.int .i64 f.close) := (blk_cell HF0.out 3).trans rfl
  have yf4 : w0.cell? ⟨w.heap.size, 4, none⟩ = some (.int .i64 f.freeze) := (blk_cell HF0.out 4).trans rfl
  have lyf := blk_lt HF0.out
  go_upto_region 2 with (go_at_call 18; with_reducible refine (check_ref f A n c l 0 p w0 HN.out ((HR.out.below HB0.out).mono HB0.out.size) HM.out).mono ?_; rintro e w1 ⟨rfl, hb1⟩; rw [HE0.out]; have HB1 := hide hb1; clear hb1)
  clear yf0 yf1 yf2 yf3 yf4 lyf
  have HF1 := hide ((HB1.out.block _ (blk_lt HF0.out)).trans HF0.out)
  have HBW1 := hide (zbT HB0.out HB1.out HB0.out.size)
  clear HF0
  by_cases q0 : e0 = 0
  · subst q0
    have HD := hide (hd rfl)
    have HVF := hide (HV.out rfl)
    have HPL := hide (show 0 ≤ f.places ∧ f.places ≤ 1000 from by have h1 := E.valid_places HVF.out; omega)
    clear hd HV
    go_upto_region 5 with (go_at_call 29; refine (takenP_holds A n c l d w1 HN.out ((HR.out.below HBW1.out).mono HBW1.out.size) HD.out).mono ?_; rintro e w2 ⟨A2d, m, c2d, rfl, hl2, ho2, hb2⟩; have HL2 := hide hl2; have HO2 := hide ho2; have HB2 := hide hb2; clear hl2 ho2 hb2)
    have HF2 := hide ((HB2.out.block _ (blk_lt HF1.out)).trans HF1.out)
    have HBW2 := hide (zbT HBW1.out HB2.out HBW1.out.size)
    have HM2 := hide (show m ≤ 60 by have h1 := E.diffs_len HD.out; have h2 := HL2.out; omega)
    go_wp2_with fail
    go_loopw [10, 11, 12] (fun v10 v11 v12 wr => ∃ i' : Nat, i' ≤ m ∧ v10 = .int .i64 i' ∧ Hid (∀ (j : Nat) (y : E.Nt), j < i' → d[j]? = some y → ¬ E.inB (E.atL f y.hour d) p) ∧ Hid (Below w2.heap.size w2 wr)) (fun v10 _ _ _ => m - (intOf v10).toNat)
    case atStart => exact ⟨0, by omega, rfl, hide (fun j y hj => by omega), hide (Below.refl _ _)⟩
    case round =>
      obtain ⟨i, hi, rfl, HJ, HBR⟩ := hrel
      by_cases hin : i < m
      · obtain ⟨x, hx⟩ : ∃ q, d[i]? = some q := ⟨_, List.getElem?_eq_getElem (by have := HL2.out; omega)⟩
        have HX := hide hx
        clear hx
        have hi1 : (i : Int) < (m : Int) := by omega
        have hi0 : (0 : Int) ≤ (i : Int) := by omega
        have hm60 : m ≤ 60 := HM2.out
        have HFR := hide ((HBR.out.block _ (blk_lt HF2.out)).trans HF2.out)
        have HBWR := hide (zbT HBW2.out HBR.out HBW2.out.size)
        obtain ⟨bd, od, hA2, hbd, d0, d1, d2, d3, d4⟩ := (owns_RdN (owns_below HO2.out HBR.out) HL2.out) i x HX.out
        subst hA2
        clear d0 d2 d3 d4
        obtain ⟨s, hs⟩ : ∃ s, E.rafter f d x.hour = s := ⟨_, rfl⟩
        have hA := AfterP_of HD.out HVF.out x.hour
        have hbd0 := rafter_bd HD.out HVF.out x.hour
        have hwh := where_side HD.out HVF.out x.hour p
        rw [hs] at hA hbd0 hwh
        have HSB := hide hbd0
        obtain ⟨wh, hwh2⟩ : ∃ q, whereL s.ins s.wilds (outF (ordF s.people) s.ins) p = q := ⟨_, rfl⟩
        have HWH := hide hwh2
        rw [hwh2] at hwh
        have HIN := hide hwh
        clear hs hbd0 hwh hwh2
        obtain ⟨wa, wb⟩ := wh
        go_upto_region 8 with fail
        have hSof : ∀ w', Below wr.heap.size wr w' → (fun w' => Below wr.heap.size wr w' ∧ w'.cell? ⟨w.heap.size, 0, none⟩ = some (.int .i64 f.places) ∧ w'.cell? ⟨w.heap.size, 1, none⟩ = some (.int .i64 f.wilds) ∧ w'.cell? ⟨w.heap.size, 2, none⟩ = some (.int .i64 f.guards) ∧ w'.cell? ⟨w.heap.size, 3, none⟩ = some (.int .i64 f.close) ∧ w'.cell? ⟨w.heap.size, 4, none⟩ = some (.int .i64 f.freeze) ∧ w'.cell? ⟨bd, od + i * 5 + 1, none⟩ = some (.int .i64 x.hour) ∧ bd < w'.heap.size ∧ w.heap.size < w'.heap.size) w' := fun w' hb => by
          have hF := (hb.block _ (blk_lt HFR.out)).trans HFR.out
          exact ⟨hb, (blk_cell hF 0).trans rfl, (blk_cell hF 1).trans rfl, (blk_cell hF 2).trans rfl, (blk_cell hF 3).trans rfl, (blk_cell hF 4).trans rfl, (hb.cell (p := ⟨bd, _, none⟩) hbd).trans d1, Nat.lt_of_lt_of_le hbd hb.size, blk_lt hF⟩
        have HRG : ∀ w', Below wr.heap.size wr w' → RdN w' w'.heap.size A l := fun w' hb => (HR.out.below (zbT HBWR.out hb HBWR.out.size)).mono (Nat.le_trans HBWR.out.size hb.size)
        have hS : (fun w' => Below wr.heap.size wr w' ∧ w'.cell? ⟨w.heap.size, 0, none⟩ = some (.int .i64 f.places) ∧ w'.cell? ⟨w.heap.size, 1, none⟩ = some (.int .i64 f.wilds) ∧ w'.cell? ⟨w.heap.size, 2, none⟩ = some (.int .i64 f.guards) ∧ w'.cell? ⟨w.heap.size, 3, none⟩ = some (.int .i64 f.close) ∧ w'.cell? ⟨w.heap.size, 4, none⟩ = some (.int .i64 f.freeze) ∧ w'.cell? ⟨bd, od + i * 5 + 1, none⟩ = some (.int .i64 x.hour) ∧ bd < w'.heap.size ∧ w.heap.size < w'.heap.size) wr := hSof _ (zbR _ _)
        (try dsimp only at hS)
        refine wp_region_held_drew (S := (fun w' => Below wr.heap.size wr w' ∧ w'.cell? ⟨w.heap.size, 0, none⟩ = some (.int .i64 f.places) ∧ w'.cell? ⟨w.heap.size, 1, none⟩ = some (.int .i64 f.wilds) ∧ w'.cell? ⟨w.heap.size, 2, none⟩ = some (.int .i64 f.guards) ∧ w'.cell? ⟨w.heap.size, 3, none⟩ = some (.int .i64 f.close) ∧ w'.cell? ⟨w.heap.size, 4, none⟩ = some (.int .i64 f.freeze) ∧ w'.cell? ⟨bd, od + i * 5 + 1, none⟩ = some (.int .i64 x.hour) ∧ bd < w'.heap.size ∧ w.heap.size < w'.heap.size)) (by kernel_rfl) ?_ (fun hD0 => ?_)
        · (try dsimp only); first | assumption | exact hSof _ (zbD (zbR _ _))
        refine tW ?_ 0 rfl (by kernel_rfl) (fun _ _ _ h => h) (by rfl) (by assumption) ?_ ?_; rotate_left; (focus (intro w hSw; (try dsimp only at hSw); go_simp; try with_reducible rfl)); try simp only [Act.put, zl, z0, z1]
        refine tW ?_ 1 rfl (by kernel_rfl) (fun _ _ _ h => h) (by rfl) (by assumption) ?_ ?_; rotate_left; (focus (intro w hSw; (try dsimp only at hSw); go_simp; try with_reducible rfl)); try simp only [Act.put, zl, z0, z1]
        refine tW ?_ 2 rfl (by kernel_rfl) (fun _ _ _ h => h) (by rfl) (by assumption) ?_ ?_; rotate_left; (focus (intro w hSw; (try dsimp only at hSw); go_simp; try with_reducible rfl)); try simp only [Act.put, zl, z0, z1]
        refine tW ?_ 3 rfl (by kernel_rfl) (fun _ _ _ h => h) (by rfl) (by assumption) ?_ ?_; rotate_left; (focus (intro w hSw; (try dsimp only at hSw); go_simp; try with_reducible rfl)); try simp only [Act.put, zl, z0, z1]
        refine tW ?_ 4 rfl (by kernel_rfl) (fun _ _ _ h => h) (by rfl) (by assumption) ?_ ?_; rotate_left; (focus (intro w hSw; (try dsimp only at hSw); go_simp; try with_reducible rfl)); try simp only [Act.put, zl, z0, z1]
        refine tW ?_ 5 rfl (by kernel_rfl) (fun _ _ _ h => h) (by rfl) (by assumption) ?_ ?_; rotate_left; (focus (intro w hSw; (try dsimp only at hSw); go_simp; try with_reducible rfl)); try simp only [Act.put, zl, z0, z1]
        refine tW ?_ 6 rfl (by kernel_rfl) (fun _ _ _ h => h) (by rfl) (by assumption) ?_ ?_; rotate_left; (focus (intro w hSw; (try dsimp only at hSw); go_simp; try with_reducible rfl)); try simp only [Act.put, zl, z0, z1]
        refine tW ?_ 7 rfl (by kernel_rfl) (fun _ _ _ h => h) (by rfl) (by assumption) ?_ ?_; rotate_left; (focus (intro w hSw; (try dsimp only at hSw); go_simp; try with_reducible rfl)); try simp only [Act.put, zl, z0, z1]
        refine tW ?_ 10 rfl (by kernel_rfl) (fun _ _ _ h => h) (by rfl) (by assumption) ?_ ?_; rotate_left; (focus (intro w hSw; (try dsimp only at hSw); go_simp; try with_reducible rfl)); try simp only [Act.put, zl, z0, z1]
        refine wpAnyH_ready (rs := [8]) (by kernel_rfl) (by simp) ?_; refine consL 8 rfl (fun K hK => ?_) AllReadyH.nil
        (go_simp; go_at_call 19; refine (hA A n c _ HN.out (HRG _ hD0.1)).mono ?_; rintro e w5 ⟨v5, rfl, hst, hb5⟩; have hSn := hSof _ (zbT hD0.1 hb5 hD0.1.size); obtain ⟨An, nn, cn, A2, n2, c2, A3, n3, c3, rfl, q1, q2, q3, q4, q5, q6⟩ := hst; have q7 := q6 w5 (Nat.le_refl _) (fun _ _ _ => rfl); have HQ6 := hide q6; have HQ := hide (And.intro q1 (And.intro q3 (And.intro q5 q7))); clear q1 q2 q3 q4 q5 q6 q7 hb5; (try dsimp only at hSn))
        refine hK.out _ _ ?_ (fun hD1 => ?_)
        · (try dsimp only); first | assumption | exact hSof _ (zbD (zbR _ _))
        clear hK K hD0; try simp only [Act.put, zl, z0, z1]
        refine wpAnyH_ready (rs := [9]) (by kernel_rfl) (by simp) ?_; refine consL 9 rfl (fun K hK => ?_) AllReadyH.nil
        (go_simp; go_at_call 24; refine (entries_ref f An nn cn s.people A2 n2 c2 s.back A3 n3 c3 s.ins w5 HQ.out.1 HQ.out.2.2.2.1 (by have h1 := HQ.out.1; have h2 := HSB.out.1; omega) HQ.out.2.2.1 HQ.out.2.2.2.2.2 (by have h1 := HQ.out.2.2.1; have h2 := HSB.out.2.1; omega) HPL.out HSB.out.2.2.1).mono ?_; rintro e w6 ⟨A4, m4, c4, rfl, hl6, ho6, hb6⟩; have hSn := hSof _ (zbT hD1.1 hb6 hD1.1.size); have HL6 := hide hl6; have HO6 := hide ho6; have HB6 := hide hb6; clear hl6 ho6 hb6; (try dsimp only at hSn))
        refine hK.out _ _ ?_ (fun hD2 => ?_)
        · (try dsimp only); first | assumption | exact hSof _ (zbD (zbR _ _))
        clear hK K hD1; try simp only [Act.put, zl, z0, z1]
        refine wpAnyH_ready (rs := [11]) (by kernel_rfl) (by simp) ?_; refine consL 11 rfl (fun K hK => ?_) AllReadyH.nil
        (go_simp; go_at_call 23; refine (stand_ref A3 n3 c3 s.ins A2 n2 c2 s.wilds A4 m4 c4 (outF (ordF s.people) s.ins) (f.places + s.back - (n3 : Int)) p w6 HQ.out.2.2.1 (HQ6.out w6 HB6.out.size (fun b hb _ => HB6.out.block b hb)).2.2 (by have h1 := HQ.out.2.2.1; have h2 := HSB.out.2.1; omega) HQ.out.2.1 (HQ6.out w6 HB6.out.size (fun b hb _ => HB6.out.block b hb)).2.1 (by have h1 := HQ.out.2.1; have h2 := HSB.out.2.2.2; omega) HL6.out (owns_RdI HO6.out HL6.out) (by have h1 := HL6.out; have h2 := outF_le (ordF s.people) s.ins; have h3 := ordF_length s.people; have h4 := HSB.out.1; omega)).mono ?_; rintro e w7 ⟨rfl, hb7⟩; rw [HWH.out]; have hSn := hSof _ (zbT hD2.1 hb7 hD2.1.size); clear hb7; (try dsimp only at hSn))
        refine hK.out _ _ ?_ (fun hD3 => ?_)
        · (try dsimp only); first | assumption | exact hSof _ (zbD (zbR _ _))
        clear hK K hD2; try simp only [Act.put, zl, z0, z1]
        refine tW ?_ 12 rfl (by kernel_rfl) (fun _ _ _ h => h) (by rfl) (by assumption) ?_ ?_; rotate_left; (focus (intro w hSw; (try dsimp only at hSw); go_simp; try with_reducible rfl)); try simp only [Act.put, zl, z0, z1]
        refine tW ?_ 13 rfl (by kernel_rfl) (fun _ _ _ h => h) (by rfl) (by assumption) ?_ ?_; rotate_left; (focus (intro w hSw; (try dsimp only at hSw); go_simp; try with_reducible rfl)); try simp only [Act.put, zl, z0, z1]
        refine tW ?_ 14 rfl (by kernel_rfl) (fun _ _ _ h => h) (by rfl) (by assumption) ?_ ?_; rotate_left; (focus (intro w hSw; (try dsimp only at hSw); go_simp; try with_reducible rfl)); try simp only [Act.put, zl, z0, z1]
        refine tW ?_ 15 rfl (by kernel_rfl) (fun _ _ _ h => h) (by rfl) (by assumption) ?_ ?_; rotate_left; (focus (intro w hSw; (try dsimp only at hSw); go_simp; try with_reducible rfl)); try simp only [Act.put, zl, z0, z1]
        refine tW ?_ 16 rfl (by kernel_rfl) (fun _ _ _ h => h) (by rfl) (by assumption) ?_ ?_; rotate_left; (focus (intro w hSw; (try dsimp only at hSw); go_simp; try with_reducible rfl)); try simp only [Act.put, zl, z0, z1]
        refine wpAnyH_done (by kernel_rfl) ?_ _
        (try dsimp only [Act.put, List.getElem_toArray, List.getElem_cons_succ, List.getElem_cons_zero])
        (try simp only [zl, z0, z1])
        have HB9 := hide (zbT HBR.out hSn.1 HBR.out.size)
        have HFW := hide (show w7.heap[w.heap.size]? = some (.cells #[.int .i64 f.places, .int .i64 f.wilds, .int .i64 f.guards, .int .i64 f.close, .int .i64 f.freeze] 23 (0, 0)) from (HB9.out.block _ (blk_lt HF2.out)).trans HF2.out)
        have HDX := hide ((owns_RdN (owns_below HO2.out HB9.out) HL2.out) i x HX.out)
        clear hSn hS hSof d1
        by_cases c1 : wa = 1
        · subst c1
          have HYES := hide (show E.inB (E.atL f x.hour d) p from .inl (by rw [← HIN.out]))
          obtain ⟨bd2, od2, hA2, hbd2, d0, d1, d2, d3, d4⟩ := HDX.out
          clear d0 d2 d3 d4
          simp only [Option.some.injEq, Addr.mk.injEq, and_true] at hA2
          obtain ⟨rfl, rfl⟩ := hA2
          go_wp2_with fail
          refine bodyPost_ret (v := .tuple #[.int .i64 x.hour, .int .i64 0]) (by simp [results, Tryz.results11, go_sem]) rfl ⟨?_, zbT HBW2.out HB9.out HBW2.out.size⟩
          rw [← HVV.out, whenR_hit HX.out HYES.out HJ.out]
          rfl
        · have c1b : (wa == 1) = false := beq_eq_false_iff_ne.2 c1
          by_cases c2 : wa = 2
          · subst c2
            have HYES := hide (show E.inB (E.atL f x.hour d) p from .inr (by rw [← HIN.out]))
            obtain ⟨bd2, od2, hA2, hbd2, d0, d1, d2, d3, d4⟩ := HDX.out
            clear d0 d2 d3 d4
            simp only [Option.some.injEq, Addr.mk.injEq, and_true] at hA2
            obtain ⟨rfl, rfl⟩ := hA2
            go_wp2_with fail
            refine bodyPost_ret (v := .tuple #[.int .i64 x.hour, .int .i64 0]) (by simp [results, Tryz.results11, go_sem]) rfl ⟨?_, zbT HBW2.out HB9.out HBW2.out.size⟩
            rw [← HVV.out, whenR_hit HX.out HYES.out HJ.out]
            rfl
          · have c2b : (wa == 2) = false := beq_eq_false_iff_ne.2 c2
            have HNOT := hide (show ¬ E.inB (E.atL f x.hour d) p from fun h => by
              unfold E.inB at h
              rw [← HIN.out] at h
              rcases h with h | h
              · exact c1 h
              · exact c2 h)
            go_wp2_with fail
            go_roundw
            case rel => exact ⟨i + 1, by omega, by go_num, hide (fun j y hj hy => by
                by_cases e : j = i
                · subst e
                  rw [HX.out] at hy
                  rw [← Option.some.inj hy]
                  exact HNOT.out
                · exact HJ.out j y (by omega) hy), HB9⟩
            case measure => simp [intOf]; omega
      · have him : i = m := by omega
        subst him
        go_wp2_with fail
        refine bodyPost_ret (v := .tuple #[.int .i64 0, .int .i64 3]) (by simp [results, Tryz.results11, go_sem]) rfl ⟨?_, zbT HBW2.out HBR.out HBW2.out.size⟩
        rw [← HVV.out, whenR_miss (fun j y hy => HJ.out j y (by have h1 := (List.getElem?_eq_some_iff.1 hy).1; have h2 := HL2.out; omega) hy)]
        rfl
  · go_wp2_with fail
    refine bodyPost_ret (v := .tuple #[.int .i64 0, .int .i64 e0]) (by simp [results, Tryz.results11, go_sem]) rfl ⟨?_, HBW1.out⟩
    rw [← HVV.out]
    unfold OptV
    rw [if_neg q0]
end Go.Proofs.YtobjahlmjcnfoaaGreat
