/-
  Contracts: beginGame.
-/
import Derived.Test.YtlhbimifhclojaaMAt
namespace Go.Proofs.Ytlhbimifhclojaa
open Go.RowKit

set_option maxHeartbeats 4000000 in
set_option maxRecDepth 100000 in
theorem beginGame_any {w : World} {base b : Nat} {m : M.Mt} {sv gv : Value} (h : MAt w base b m sv gv) (hv : M.Valid m.f) (hn : m.log.length ≤ 9000) (ho : 0 ≤ m.opens ∧ m.opens ≤ 1) (hbal : 0 ≤ m.balls ∧ m.balls ≤ 100000) :
    Calls Try.prog 81 #[.pointer (some ⟨b, 0, none⟩)] w fun e w' => e = .returned (.tuple #[]) ∧ MAt w' base b (M.begin m) sv gv ∧ Below base w w' := by
  obtain ⟨A, c, e⟩ := own_form h.2.2.2
  subst e
  obtain ⟨ho0, ho1⟩ := ho
  obtain ⟨hb0, hb1⟩ := hbal
  have H := hide h
  have HV := hide hv
  have HN := hide hn
  have hbb : base ≤ b := h.1
  have c0 := h.mc
  have fr0 := h.fr
  have hlb := h.lt
  clear h hv
  cases hch : M.changesB m
  · skip
    have hch2 : M.changesB { m with server := M.serverOf m.opens m.f.doubles m.log.length 0 } = false := hch
    go_enter Try.func81, Try.ntmps81
    go_wp2_with fail
    refine (server_any b m.opens m.log.length 0 m.f.doubles _ (by simp [c0]) (by simp [c0]) ho0 ho1 (by omega) (by omega) (by omega) (by omega)).mono ?_
    rintro e w1 ⟨rfl, hb1⟩
    have h1 := H.out.below hb1
    have c1 := h1.mc
    have fr1 := h1.fr
    go_wp2_with fail
    have h2 : MAt _ base b { m with server := M.serverOf m.opens m.f.doubles m.log.length 0 } sv (.slice A m.log.length c) := h1.set 15 (.int .i64 (M.serverOf m.opens m.f.doubles m.log.length 0)) rfl rfl rfl
    refine (changes_at h2 HV.out HN.out).mono ?_
    rintro e w3 ⟨rfl, hb3⟩
    have h3 := h2.below hb3
    have c3 := h3.mc
    have fr3 := h3.fr
    have hB3 : Below base w w3 := ((hb1.mono (by omega)).setCell (by exact hbb) _).trans (hb3.mono (by have := hb1.size; simp; omega))
    clear h2
    go_wp2_with fail
    have h4 : MAt _ base b { { m with server := M.serverOf m.opens m.f.doubles m.log.length 0 } with fresh := false } sv (.slice A m.log.length c) := h3.set 22 (.bool false) rfl rfl rfl
    go_end0
    refine ⟨rfl, ?_, ?_⟩
    · have e : M.begin m = { { m with server := M.serverOf m.opens m.f.doubles m.log.length 0 } with fresh := false } := by unfold M.begin; rw [hch]; rfl
      rw [e]; exact h4
    · exact (hB3.setCell (by exact hbb) _)

  · skip
    have hch2 : M.changesB { m with server := M.serverOf m.opens m.f.doubles m.log.length 0 } = true := hch
    go_enter Try.func81, Try.ntmps81
    go_wp2_with fail
    refine (server_any b m.opens m.log.length 0 m.f.doubles _ (by simp [c0]) (by simp [c0]) ho0 ho1 (by omega) (by omega) (by omega) (by omega)).mono ?_
    rintro e w1 ⟨rfl, hb1⟩
    have h1 := H.out.below hb1
    have c1 := h1.mc
    have fr1 := h1.fr
    go_wp2_with fail
    have h2 : MAt _ base b { m with server := M.serverOf m.opens m.f.doubles m.log.length 0 } sv (.slice A m.log.length c) := h1.set 15 (.int .i64 (M.serverOf m.opens m.f.doubles m.log.length 0)) rfl rfl rfl
    refine (changes_at h2 HV.out HN.out).mono ?_
    rintro e w3 ⟨rfl, hb3⟩
    have h3 := h2.below hb3
    have c3 := h3.mc
    have fr3 := h3.fr
    have hB3 : Below base w w3 := ((hb1.mono (by omega)).setCell (by exact hbb) _).trans (hb3.mono (by have := hb1.size; simp; omega))
    clear h2
    go_wp2_with fail
    have h4 : MAt _ base b { { m with server := M.serverOf m.opens m.f.doubles m.log.length 0 } with fresh := true } sv (.slice A m.log.length c) := h3.set 22 (.bool true) rfl rfl rfl
    have h5 : MAt _ base b { { m with server := M.serverOf m.opens m.f.doubles m.log.length 0 } with fresh := true, balls := m.balls + 1 } sv (.slice A m.log.length c) := h4.set 17 (.int .i64 (m.balls + 1)) rfl rfl rfl
    go_end0
    refine ⟨rfl, ?_, ?_⟩
    · have e : M.begin m = { { m with server := M.serverOf m.opens m.f.doubles m.log.length 0 } with fresh := true, balls := m.balls + 1 } := by unfold M.begin; rw [hch]; rfl
      rw [e]; exact h5
    · exact ((hB3.setCell (by exact hbb) _).setCell (by exact hbb) _)

end Go.Proofs.Ytlhbimifhclojaa
