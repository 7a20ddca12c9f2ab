/-
  Contracts: numbered.
-/
import Derived.Test.YtlhbimifhclojaaArise
import Derived.Test.YtlhbimifhclojaaRegion
import Derived.Test.YtlhbimifhclojaaModel
namespace Go.Proofs.Ytlhbimifhclojaa
open Go.RowKit
attribute [local go_sem ↓] Go.wp_at_zero Go.wp_at_succ

theorem all_take {ps : List M.Pr} {k : Nat} {p : M.Pr} (h : (ps.take k).all M.fine = true) (hk : ps[k]? = some p) (hp : M.fine p = true) : (ps.take (k + 1)).all M.fine = true := by
  rw [List.take_add_one, hk]
  simp only [Option.toList, List.all_append, h, List.all_cons, hp, List.all_nil, Bool.and_self]
theorem all_no {ps : List M.Pr} {k : Nat} {p : M.Pr} (hk : ps[k]? = some p) (hp : M.fine p = false) : ps.all M.fine = false := by
  rw [List.all_eq_false]
  exact ⟨p, List.mem_of_getElem? hk, by simp [hp]⟩

set_option maxHeartbeats 3200000 in
theorem numbered_any (A : Option Addr) (n c : Nat) (ps : List M.Pr) (g p : M.Pr) (w : World) (hn : ps.length = n) (hr : RdP w w.heap.size A ps) (hm : n ≤ 1000000) :
    Calls Try.prog 39 #[.agg #[.slice A n c, .int .i64 g.A, .int .i64 g.B, .int .i64 p.A, .int .i64 p.B]] w fun e w' => e = .returned (.bool (M.numbered ps g p)) ∧ Below w.heap.size w w' := by
  have HN := hide hn
  have HR := hide hr
  clear hn hr
  by_cases h5 : (5 : Int) < (n : Int)
  · have ho : M.numbered ps g p = false := by unfold M.numbered; rw [HN.out, decide_eq_false (by omega)]; rfl
    rw [ho]; clear ho
    go_enter Try.func39, Try.ntmps39
    go_wp2
    go_ret
    exact ⟨rfl, by (repeat' first | exact Below.refl _ _ | assumption | refine Below.drew ?_ | refine Below.alloc ?_ ?_ _ | refine Below.setCell ?_ ?_ _ | refine Below.trans ?_ (Below.mono (by assumption) ?_) | (simp; done) | (simp; omega) | omega)⟩
  · go_enter Try.func39, Try.ntmps39
    go_wp2
    go_loopw [13] (fun i wr => ∃ k : Nat, k ≤ n ∧ i = .int .i64 k ∧ Hid ((ps.take k).all M.fine = true) ∧ wr.cell? ⟨w.heap.size, 1, none⟩ = some (.int .i64 g.A) ∧ wr.cell? ⟨w.heap.size, 2, none⟩ = some (.int .i64 g.B) ∧ wr.cell? ⟨w.heap.size, 3, none⟩ = some (.int .i64 p.A) ∧ wr.cell? ⟨w.heap.size, 4, none⟩ = some (.int .i64 p.B) ∧ Below w.heap.size w wr ∧ w.heap.size < wr.heap.size) (fun i _ => n - (intOf i).toNat)
    case atStart => exact ⟨0, by omega, rfl, hide (by simp), by (first | (go_keep; done) | (go_split_ands; (repeat' apply And.intro) <;> first | (go_keep; done) | (simp [*, World.cell?_alloc_at, World.cell?_alloc_past, World.frozen?_alloc_at, World.frozen?_alloc_past]; done) | (simp [World.cell?_alloc_at, World.cell?_alloc_past]; done) | (simp [World.cell?_alloc_at, World.cell?_alloc_past]; rfl) | (simp [*, World.cell?_setCell_same', World.cell?_setCell_other, World.cell?_alloc_some]; done) | (refine (hc _ _ (by first | (simp; done) | (simp; omega) | omega)).trans ?_; (first | (go_keep; done) | assumption | (simp [*, World.cell?_alloc_at, World.cell?_alloc_past, World.frozen?_alloc_at, World.frozen?_alloc_past]; done) | (simp [World.cell?_alloc_at, World.cell?_alloc_past]; rfl))) | (refine (hf _ _ (by first | (simp; done) | (simp; omega) | omega)).trans ?_; (first | (go_keep; done) | assumption | (simp [*, World.cell?_alloc_at, World.cell?_alloc_past, World.frozen?_alloc_at, World.frozen?_alloc_past]; done))) | (repeat' first | exact Below.refl _ _ | assumption | refine Below.drew ?_ | refine Below.alloc ?_ ?_ _ | refine Below.setCell ?_ ?_ _ | refine Below.trans ?_ (Below.mono (by assumption) ?_) | (simp; done) | (simp; omega) | omega) | (simp; omega) | omega))⟩
    case round =>
      obtain ⟨k, hk, rfl, hno, hS0⟩ := hrel
      by_cases hlt : k < n
      · obtain ⟨q, hq⟩ : ∃ q, ps[k]? = some q := ⟨_, List.getElem?_eq_getElem (by have := HN.out; omega)⟩
        obtain ⟨b, o, hA, hbB, c0, c1⟩ := (HR.out.below (by obtain ⟨_, _, _, _, h, _⟩ := hS0; exact h)) k q hq
        subst hA
        have HQ := hide hq
        clear hq
        cases hf : M.fine q
        · have ho : M.numbered ps g p = false := by unfold M.numbered; rw [all_no HQ.out hf]; simp
          have HO := hide ho
          clear ho
          go_wp2_with (first | (go_at_call 61; refine (fine_any q _).mono ?_; rintro e w' ⟨rfl, hb⟩; obtain ⟨hc, hf⟩ := bcell hb; have hz := hb.size; (try simp at hz); have hSn : ((fun w' => wr.heap.size < w'.heap.size ∧ Below w.heap.size w w')) w' := (by (try dsimp only); (first | (go_keep; done) | (go_split_ands; (repeat' apply And.intro) <;> first | (go_keep; done) | (simp [*, World.cell?_alloc_at, World.cell?_alloc_past, World.frozen?_alloc_at, World.frozen?_alloc_past]; done) | (simp [World.cell?_alloc_at, World.cell?_alloc_past]; done) | (simp [World.cell?_alloc_at, World.cell?_alloc_past]; rfl) | (simp [*, World.cell?_setCell_same', World.cell?_setCell_other, World.cell?_alloc_some]; done) | (refine (hc _ _ (by first | (simp; done) | (simp; omega) | omega)).trans ?_; (first | (go_keep; done) | assumption | (simp [*, World.cell?_alloc_at, World.cell?_alloc_past, World.frozen?_alloc_at, World.frozen?_alloc_past]; done) | (simp [World.cell?_alloc_at, World.cell?_alloc_past]; rfl))) | (refine (hf _ _ (by first | (simp; done) | (simp; omega) | omega)).trans ?_; (first | (go_keep; done) | assumption | (simp [*, World.cell?_alloc_at, World.cell?_alloc_past, World.frozen?_alloc_at, World.frozen?_alloc_past]; done))) | (repeat' first | exact Below.refl _ _ | assumption | refine Below.drew ?_ | refine Below.alloc ?_ ?_ _ | refine Below.setCell ?_ ?_ _ | refine Below.trans ?_ (Below.mono (by assumption) ?_) | (simp; done) | (simp; omega) | omega) | (simp; omega) | omega))); (try dsimp only at hSn); (try clear hS); have hS := hSn; clear hSn hc hf))
          go_ret
          exact ⟨by rw [HO.out]; rfl, by (go_split_ands; (repeat' first | exact Below.refl _ _ | assumption | refine Below.drew ?_ | refine Below.alloc ?_ ?_ _ | refine Below.setCell ?_ ?_ _ | refine Below.trans ?_ (Below.mono (by assumption) ?_) | (simp; done) | (simp; omega) | omega))⟩
        · have HT := hide (all_take hno.out HQ.out hf)
          go_wp2_with (first | (go_at_call 61; refine (fine_any q _).mono ?_; rintro e w' ⟨rfl, hb⟩; obtain ⟨hc, hf⟩ := bcell hb; have hz := hb.size; (try simp at hz); have hSn : ((fun w' => w'.cell? ⟨w.heap.size, 1, none⟩ = some (.int .i64 g.A) ∧ w'.cell? ⟨w.heap.size, 2, none⟩ = some (.int .i64 g.B) ∧ w'.cell? ⟨w.heap.size, 3, none⟩ = some (.int .i64 p.A) ∧ w'.cell? ⟨w.heap.size, 4, none⟩ = some (.int .i64 p.B) ∧ wr.heap.size < w'.heap.size ∧ Below w.heap.size w w' ∧ w.heap.size < w'.heap.size)) w' := (by (try dsimp only); (first | (go_keep; done) | (go_split_ands; (repeat' apply And.intro) <;> first | (go_keep; done) | (simp [*, World.cell?_alloc_at, World.cell?_alloc_past, World.frozen?_alloc_at, World.frozen?_alloc_past]; done) | (simp [World.cell?_alloc_at, World.cell?_alloc_past]; done) | (simp [World.cell?_alloc_at, World.cell?_alloc_past]; rfl) | (simp [*, World.cell?_setCell_same', World.cell?_setCell_other, World.cell?_alloc_some]; done) | (refine (hc _ _ (by first | (simp; done) | (simp; omega) | omega)).trans ?_; (first | (go_keep; done) | assumption | (simp [*, World.cell?_alloc_at, World.cell?_alloc_past, World.frozen?_alloc_at, World.frozen?_alloc_past]; done) | (simp [World.cell?_alloc_at, World.cell?_alloc_past]; rfl))) | (refine (hf _ _ (by first | (simp; done) | (simp; omega) | omega)).trans ?_; (first | (go_keep; done) | assumption | (simp [*, World.cell?_alloc_at, World.cell?_alloc_past, World.frozen?_alloc_at, World.frozen?_alloc_past]; done))) | (repeat' first | exact Below.refl _ _ | assumption | refine Below.drew ?_ | refine Below.alloc ?_ ?_ _ | refine Below.setCell ?_ ?_ _ | refine Below.trans ?_ (Below.mono (by assumption) ?_) | (simp; done) | (simp; omega) | omega) | (simp; omega) | omega))); (try dsimp only at hSn); (try clear hS); have hS := hSn; clear hSn hc hf))
          go_roundw
          case rel => exact ⟨k + 1, by omega, by go_num, HT, by (first | (go_keep; done) | (go_split_ands; (repeat' apply And.intro) <;> first | (go_keep; done) | (simp [*, World.cell?_alloc_at, World.cell?_alloc_past, World.frozen?_alloc_at, World.frozen?_alloc_past]; done) | (simp [World.cell?_alloc_at, World.cell?_alloc_past]; done) | (simp [World.cell?_alloc_at, World.cell?_alloc_past]; rfl) | (simp [*, World.cell?_setCell_same', World.cell?_setCell_other, World.cell?_alloc_some]; done) | (refine (hc _ _ (by first | (simp; done) | (simp; omega) | omega)).trans ?_; (first | (go_keep; done) | assumption | (simp [*, World.cell?_alloc_at, World.cell?_alloc_past, World.frozen?_alloc_at, World.frozen?_alloc_past]; done) | (simp [World.cell?_alloc_at, World.cell?_alloc_past]; rfl))) | (refine (hf _ _ (by first | (simp; done) | (simp; omega) | omega)).trans ?_; (first | (go_keep; done) | assumption | (simp [*, World.cell?_alloc_at, World.cell?_alloc_past, World.frozen?_alloc_at, World.frozen?_alloc_past]; done))) | (repeat' first | exact Below.refl _ _ | assumption | refine Below.drew ?_ | refine Below.alloc ?_ ?_ _ | refine Below.setCell ?_ ?_ _ | refine Below.trans ?_ (Below.mono (by assumption) ?_) | (simp; done) | (simp; omega) | omega) | (simp; omega) | omega))⟩
          case measure => simp [intOf]; omega
      · have hkn : k = n := by omega
        have hall : ps.all M.fine = true := by
          have := hno.out
          rwa [List.take_of_length_le (by have := HN.out; omega)] at this
        cases hg : M.fine g
        · have ho : M.numbered ps g p = false := by unfold M.numbered; rw [hg]; simp
          have HO := hide ho
          clear ho hall
          subst hkn
          go_wp2_with (first | (go_at_call 61; refine (fine_any g _).mono ?_; rintro e w' ⟨rfl, hb⟩; obtain ⟨hc, hf⟩ := bcell hb; have hz := hb.size; (try simp at hz); have hSn : ((fun w' => Below w.heap.size w w')) w' := (by (try dsimp only); (first | (go_keep; done) | (go_split_ands; (repeat' apply And.intro) <;> first | (go_keep; done) | (simp [*, World.cell?_alloc_at, World.cell?_alloc_past, World.frozen?_alloc_at, World.frozen?_alloc_past]; done) | (simp [World.cell?_alloc_at, World.cell?_alloc_past]; done) | (simp [World.cell?_alloc_at, World.cell?_alloc_past]; rfl) | (simp [*, World.cell?_setCell_same', World.cell?_setCell_other, World.cell?_alloc_some]; done) | (refine (hc _ _ (by first | (simp; done) | (simp; omega) | omega)).trans ?_; (first | (go_keep; done) | assumption | (simp [*, World.cell?_alloc_at, World.cell?_alloc_past, World.frozen?_alloc_at, World.frozen?_alloc_past]; done) | (simp [World.cell?_alloc_at, World.cell?_alloc_past]; rfl))) | (refine (hf _ _ (by first | (simp; done) | (simp; omega) | omega)).trans ?_; (first | (go_keep; done) | assumption | (simp [*, World.cell?_alloc_at, World.cell?_alloc_past, World.frozen?_alloc_at, World.frozen?_alloc_past]; done))) | (repeat' first | exact Below.refl _ _ | assumption | refine Below.drew ?_ | refine Below.alloc ?_ ?_ _ | refine Below.setCell ?_ ?_ _ | refine Below.trans ?_ (Below.mono (by assumption) ?_) | (simp; done) | (simp; omega) | omega) | (simp; omega) | omega))); (try dsimp only at hSn); (try clear hS); have hS := hSn; clear hSn hc hf))
          go_ret
          exact ⟨by rw [HO.out]; rfl, by (go_split_ands; (repeat' first | exact Below.refl _ _ | assumption | refine Below.drew ?_ | refine Below.alloc ?_ ?_ _ | refine Below.setCell ?_ ?_ _ | refine Below.trans ?_ (Below.mono (by assumption) ?_) | (simp; done) | (simp; omega) | omega))⟩
        · have ho : M.numbered ps g p = M.fine p := by unfold M.numbered; rw [hg, hall, decide_eq_true (by have := HN.out; omega)]; simp
          have HO := hide ho
          clear ho hall
          subst hkn
          go_wp2_with (first
            | (go_at_call_of 61 (Value.agg #[Value.int .i64 g.A, Value.int .i64 g.B]); refine (fine_any g _).mono ?_; rintro e w' ⟨rfl, hb⟩; obtain ⟨hc, hf⟩ := bcell hb; have hz := hb.size; (try simp at hz); have hSn : ((fun w' => w'.cell? ⟨w.heap.size, 3, none⟩ = some (.int .i64 p.A) ∧ w'.cell? ⟨w.heap.size, 4, none⟩ = some (.int .i64 p.B) ∧ Below w.heap.size w w' ∧ w.heap.size < w'.heap.size)) w' := (by (try dsimp only); (first | (go_keep; done) | (go_split_ands; (repeat' apply And.intro) <;> first | (go_keep; done) | (simp [*, World.cell?_alloc_at, World.cell?_alloc_past, World.frozen?_alloc_at, World.frozen?_alloc_past]; done) | (simp [World.cell?_alloc_at, World.cell?_alloc_past]; done) | (simp [World.cell?_alloc_at, World.cell?_alloc_past]; rfl) | (simp [*, World.cell?_setCell_same', World.cell?_setCell_other, World.cell?_alloc_some]; done) | (refine (hc _ _ (by first | (simp; done) | (simp; omega) | omega)).trans ?_; (first | (go_keep; done) | assumption | (simp [*, World.cell?_alloc_at, World.cell?_alloc_past, World.frozen?_alloc_at, World.frozen?_alloc_past]; done) | (simp [World.cell?_alloc_at, World.cell?_alloc_past]; rfl))) | (refine (hf _ _ (by first | (simp; done) | (simp; omega) | omega)).trans ?_; (first | (go_keep; done) | assumption | (simp [*, World.cell?_alloc_at, World.cell?_alloc_past, World.frozen?_alloc_at, World.frozen?_alloc_past]; done))) | (repeat' first | exact Below.refl _ _ | assumption | refine Below.drew ?_ | refine Below.alloc ?_ ?_ _ | refine Below.setCell ?_ ?_ _ | refine Below.trans ?_ (Below.mono (by assumption) ?_) | (simp; done) | (simp; omega) | omega) | (simp; omega) | omega))); (try dsimp only at hSn); (try clear hS); have hS := hSn; clear hSn hc hf)
            | (go_at_call_of 61 (Value.agg #[Value.int .i64 p.A, Value.int .i64 p.B]); refine (fine_any p _).mono ?_; rintro e w' ⟨rfl, hb⟩; obtain ⟨hc, hf⟩ := bcell hb; have hz := hb.size; (try simp at hz); have hSn : ((fun w' => Below w.heap.size w w')) w' := (by (try dsimp only); (first | (go_keep; done) | (go_split_ands; (repeat' apply And.intro) <;> first | (go_keep; done) | (simp [*, World.cell?_alloc_at, World.cell?_alloc_past, World.frozen?_alloc_at, World.frozen?_alloc_past]; done) | (simp [World.cell?_alloc_at, World.cell?_alloc_past]; done) | (simp [World.cell?_alloc_at, World.cell?_alloc_past]; rfl) | (simp [*, World.cell?_setCell_same', World.cell?_setCell_other, World.cell?_alloc_some]; done) | (refine (hc _ _ (by first | (simp; done) | (simp; omega) | omega)).trans ?_; (first | (go_keep; done) | assumption | (simp [*, World.cell?_alloc_at, World.cell?_alloc_past, World.frozen?_alloc_at, World.frozen?_alloc_past]; done) | (simp [World.cell?_alloc_at, World.cell?_alloc_past]; rfl))) | (refine (hf _ _ (by first | (simp; done) | (simp; omega) | omega)).trans ?_; (first | (go_keep; done) | assumption | (simp [*, World.cell?_alloc_at, World.cell?_alloc_past, World.frozen?_alloc_at, World.frozen?_alloc_past]; done))) | (repeat' first | exact Below.refl _ _ | assumption | refine Below.drew ?_ | refine Below.alloc ?_ ?_ _ | refine Below.setCell ?_ ?_ _ | refine Below.trans ?_ (Below.mono (by assumption) ?_) | (simp; done) | (simp; omega) | omega) | (simp; omega) | omega))); (try dsimp only at hSn); (try clear hS); have hS := hSn; clear hSn hc hf))
          go_ret
          exact ⟨by rw [HO.out]; rfl, by (go_split_ands; (repeat' first | exact Below.refl _ _ | assumption | refine Below.drew ?_ | refine Below.alloc ?_ ?_ _ | refine Below.setCell ?_ ?_ _ | refine Below.trans ?_ (Below.mono (by assumption) ?_) | (simp; done) | (simp; omega) | omega))⟩

end Go.Proofs.Ytlhbimifhclojaa
