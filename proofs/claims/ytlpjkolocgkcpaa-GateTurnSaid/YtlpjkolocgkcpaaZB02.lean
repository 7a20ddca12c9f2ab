/-
  Part of a claim's texts: contracts of the program's functions and the plain functions that they compute, in build order.
-/
import Derived.Shelf.SlSortCmp.NoneTotal
import Derived.Sort.OwnSortedInts
import Derived.StillTailTactics
import Derived.RangeFuncNested
import Derived.RangeFuncBound
import Derived.RangeFuncCalls
import Derived.RangeFuncLeaves
import Derived.Shelf.Abstract
import Derived.WalkKit
import Derived.OwnWalkIn
import Derived.TacticsInMore
import Derived.LoopNIn
import Derived.LoopIn
import Derived.Test.YtlpjkolocgkcpaaZB01
namespace Go.Proofs.Ytlpjkolocgkcpaa
open Go.Shelf Go.RowKit Go.Lib Go.Sort

namespace G
theorem cmpG_neg (a b : Pt) : cmpG a b < 0 ↔ a.at_ < b.at_ ∨ (a.at_ = b.at_ ∧ a.id < b.id) := by
  unfold cmpG cmp
  generalize a.at_ = p
  generalize b.at_ = q
  generalize a.id = r
  generalize b.id = s
  repeat' split
  all_goals omega
def ptAt (gs : List Pt) (k : Nat) : Pt := (gs[k]?).getD ⟨0, 0, 0, 0⟩
theorem ptAt_get {gs : List Pt} {k : Nat} (h : k < gs.length) : gs[k]? = some (ptAt gs k) := by
  unfold ptAt
  rw [List.getElem?_eq_getElem h]
  rfl
end G
theorem gr_cellS {w w' : World} {row : Option Nat} (h : w.grownBy w' row) {b : Nat} (hb : b < w.heap.size) (hne : some b ≠ row) (i : Nat) : w'.cell? ⟨b, i, none⟩ = w.cell? ⟨b, i, none⟩ := by
  unfold World.cell?
  rw [h.block b hb hne]
theorem RdG.kept {w w' : World} {row : Option Nat} {A : Option Addr} {gs : List G.Pt} (h : RdG w w.heap.size A gs) (hg : w.grownBy w' row) (hA : ∀ b o, A = some ⟨b, o, none⟩ → some b ≠ row) : RdG w' w'.heap.size A gs := fun k p hk => by
  obtain ⟨b, o, e, hb, c0, c1, c2, c3⟩ := h k p hk
  have hc := fun i => gr_cellS hg hb (hA b o e) i
  exact ⟨b, o, e, Nat.lt_of_lt_of_le hb hg.size, (hc _).trans c0, (hc _).trans c1, (hc _).trans c2, (hc _).trans c3⟩

def encG {N : Nat} (k : Fin (N + 1)) : Value := .int .i64 (k.val : Int)
def finG (N : Nat) (x : Nat) : Fin (N + 1) := ⟨x % (N + 1), Nat.mod_lt _ (by omega)⟩
theorem finG_val {N x : Nat} (h : x < N + 1) : (finG N x).val = x := Nat.mod_eq_of_lt h

theorem grownBy_sortG {N : Nat} {w : World} {g n : Nat} {os : Array Obj} (d : Array (Fin (N + 1))) : w.grownBy (sortWorld encG w g 0 n d os) (some g) := by
  refine ⟨rfl, rfl, rfl, by simp [sortWorld], fun k hk hne => ?_⟩
  unfold sortWorld
  rw [heap_grow_old _ _ (by simpa using hk)]
  have : g ≠ k := fun e => hne (by rw [e])
  simp [putRow, mapBlock, Sort.ahead, Array.getElem?_modify, this]

theorem putCells_finG {N : Nat} (d : Array (Fin (N + 1))) : putCells encG 0 d = putCells (Value.int .i64) 0 (d.toList.map fun k : Fin (N + 1) => (k.val : Int)).toArray := by
  funext c
  unfold putCells
  refine Array.ext_getElem? (fun i => ?_)
  simp only [Array.getElem?_mapIdx, List.size_toArray, List.length_map, Array.length_toList]
  rcases c[i]? with _ | v
  · rfl
  · simp only [Option.map_some]
    congr 1
    split
    · rename_i h
      have hi : i - 0 < d.size := by omega
      rw [getElem!_pos d (i - 0) hi, getElem!_pos _ (i - 0) (by simpa using hi)]
      simp [encG]
    · rfl

theorem swoG {N : Nat} (F : Nat → G.Pt) : SWO (ltOf fun x y : Fin (N + 1) => G.cmpG (F x.val) (F y.val)) where
  irrefl x := by
    unfold ltOf
    rw [decide_eq_false_iff_not, G.cmpG_neg]
    omega
  trans x y z h1 h2 := by
    unfold ltOf at *
    rw [decide_eq_true_eq, G.cmpG_neg] at *
    omega
  ntrans x y z h1 h2 := by
    unfold ltOf at *
    rw [decide_eq_false_iff_not, G.cmpG_neg] at *
    omega

theorem sortG_any (bl L n c : Nat) (Ag : Option Addr) (gs : List G.Pt) (hgn : gs.length = n) (hgm : n ≤ 1000) (base : Nat) (A : Option Addr) (m cc : Nat) (ns : List Nat) (W : World) (hl : W.cell? ⟨bl, 0, none⟩ = some (.pointer (some ⟨L, 0, none⟩))) (hg4 : W.cell? ⟨L, 4, none⟩ = some (.slice Ag n c)) (lbl : bl < W.heap.size) (lL : L < W.heap.size) (hrg : RdG W W.heap.size Ag gs)
    (hown : W.ownsRow base 3 1 (.slice A m cc) m (flatI (ns.map (fun k : Nat => (k : Int))))) (hr : ∀ k ∈ ns, k < n) (h1 : (Value.slice A m cc).ownBlock ≠ some bl) (h2 : (Value.slice A m cc).ownBlock ≠ some L) (h3 : ∀ b o, Ag = some ⟨b, o, none⟩ → (Value.slice A m cc).ownBlock ≠ some b) (hx : m ≤ 1000) (hne : n = 0 → A = none) :
    Calls Try.prog 68 #[.slice A m cc, .func (.func 69) #[] #[.pointer (some ⟨bl, 0, none⟩)]] W fun e w' => e = .returned (.tuple #[]) ∧ ∃ ys : List Nat, ys.Perm ns ∧ ys.Pairwise (fun a b => 0 ≤ G.cmpG (G.ptAt gs b) (G.ptAt gs a)) ∧ w'.ownsRow base 3 1 (.slice A m cc) m (flatI (ys.map (fun k : Nat => (k : Int)))) ∧ W.grownBy w' (Value.slice A m cc).ownBlock := by
  have hlen : ns.length = m := by have := hown.1; rw [flatI_length, List.length_map] at this; omega
  rcases A with _ | ad
  · have hx0 : ns.map (fun k : Nat => (k : Int)) = [] := (owns_RdI hown (by rw [List.length_map]; exact hlen)).none
    have hx0' : ns = [] := List.map_eq_nil_iff.1 hx0
    subst hx0'
    have hm0 : m = 0 := by simpa using hlen.symm
    subst hm0
    have hcon := AnyF.slices_SortFunc_none (P := Try.prog) (ρ := Try.sortInts_ren) { Try.sortInts with } none cc (.func (.func 69) #[] #[.pointer (some ⟨bl, 0, none⟩)]) W
    change Calls Try.prog 68 _ _ _ at hcon
    refine hcon.mono ?_
    rintro e w' ⟨rfl, rfl⟩
    exact ⟨rfl, [], List.Perm.refl _, List.Pairwise.nil, hown, World.grownBy.refl _ _⟩
  · obtain ⟨-, ⟨h0, _⟩ | ⟨g, cap, cur, e, hbg, hblk, hcap, hcapm, hsz, htk⟩⟩ := id hown
    · cases h0
    simp only [Value.slice.injEq, Option.some.injEq] at e
    obtain ⟨rfl, -, rfl⟩ := e
    by_cases hn0 : n = 0
    · have := hne hn0
      cases this
    obtain ⟨N, rfl⟩ : ∃ N, n = N + 1 := ⟨n - 1, by omega⟩
    have hgl : g < W.heap.size := blk_lt hblk
    have hg1 : bl ≠ g := fun e => h1 (by simp [Value.ownBlock, e])
    have hg2 : L ≠ g := fun e => h2 (by simp [Value.ownBlock, e])
    have hg3 : ∀ b o, Ag = some ⟨b, o, none⟩ → some b ≠ some g := fun b o e e2 => h3 b o e (by simp [Value.ownBlock, Option.some.inj e2])
    have hds : ((ns.map (finG N)).toArray).size = m := by simp [hlen]
    have hH : Holds encG W g 0 (ns.map (finG N)).toArray := fun j hj => by
      have hj' : j < ns.length := by simpa using hj
      refine ⟨?_, by rw [Nat.zero_add]; exact blk_frozen hblk j⟩
      rw [Nat.zero_add, hown.cellAt j (by omega), getElem!_pos _ j hj]
      have := hr _ (List.getElem_mem hj')
      have e0 : (ns.map (fun k : Nat => (k : Int)))[j]? = some ((ns[j] : Nat) : Int) := by rw [List.getElem?_map, List.getElem?_eq_getElem hj']; rfl
      rw [flatI_at e0]
      simp [encG, finG_val this]
    have eg : ∀ args w, (callFunc 69 args).run Try.prog w = .ok (.enter 69 args) w := enters_of Try.func69 (by kernel_rfl) rfl
    have hcmp : CmpLays1 Try.prog 69 #[.pointer (some ⟨bl, 0, none⟩)] encG (fun x y : Fin (N + 1) => G.cmpG (G.ptAt gs x.val) (G.ptAt gs y.val)) g 0 ((ns.map (finG N)).toArray).size W := by
      intro q os dk hs x y
      have hG := grownBy_sortG (w := W) (g := g) (n := q) (os := os) dk
      generalize sortWorld encG W g 0 q dk os = V at hG
      have := cmpG_any bl L (N + 1) c Ag gs hgn hgm x.val y.val _ _ (G.ptAt_get (by omega)) (G.ptAt_get (by omega)) V ((gr_cellS hG lbl (by simp [hg1]) 0).trans hl) ((gr_cellS hG lL (by simp [hg2]) 4).trans hg4) (Nat.lt_of_lt_of_le lbl hG.size) (Nat.lt_of_lt_of_le lL hG.size) (hrg.kept hG hg3)
      exact this.mono (fun e w' h => ⟨h.1, h.2.ex⟩)
    have hcon := Any.slices_SortFunc Try.sortInts encG (fun _ => rfl) (fun x y : Fin (N + 1) => G.cmpG (G.ptAt gs x.val) (G.ptAt gs y.val)) (swoG (G.ptAt gs)) 69 #[.pointer (some ⟨bl, 0, none⟩)] g 0 cc (ns.map (finG N)).toArray W eg hcmp hH hgl (by omega)
    change Calls Try.prog 68 _ _ _ at hcon
    rw [hds] at hcon
    refine hcon.mono ?_
    rintro e w' ⟨rfl, d', q, os, hp, hs, rfl⟩
    obtain ⟨hp1, _, hp3⟩ := hp
    have hd' : d'.size = m := by rw [hp1, hds]
    have hpl : d'.toList.Perm (ns.map (finG N)) := by
      have e1 : (d'.extract 0 m).toList = d'.toList := by rw [← hd']; simp
      have e2 : ((ns.map (finG N)).toArray.extract 0 m).toList = ns.map (finG N) := by rw [← hds]; simp; exact List.take_of_length_le (by simp)
      rw [e1, e2] at hp3
      exact hp3
    have hps : (d'.toList.map fun k : Fin (N + 1) => k.val).Perm ns := by
      have := hpl.map (fun k : Fin (N + 1) => k.val)
      refine this.trans ?_
      rw [List.map_map]
      have : ns.map ((fun k : Fin (N + 1) => k.val) ∘ finG N) = ns := by
        conv => rhs; rw [← List.map_id ns]
        refine List.map_congr_left (fun k hk => ?_)
        exact finG_val (hr k hk)
      rw [this]
    have hys : (d'.toList.map fun k : Fin (N + 1) => (k.val : Int)).length = (ns.map (fun k : Nat => (k : Int))).length := by simp [hd', hlen]
    refine ⟨rfl, d'.toList.map (fun k : Fin (N + 1) => k.val), hps, ?_, ?_, grownBy_sortG d'⟩
    · rw [List.pairwise_iff_getElem]
      intro i j hi hj hij
      have hi' : i < d'.size := by simpa using hi
      have hj' : j < d'.size := by simpa using hj
      have := hs i j (Nat.zero_le _) hij (by omega)
      unfold ltOf at this
      rw [decide_eq_false_iff_not, getElem!_pos d' j hj', getElem!_pos d' i hi'] at this
      simp only [List.getElem_map, Array.getElem_toList]
      exact Int.not_lt.1 this
    · have e1 : sortWorld encG W g 0 q d' os = grow (putRow (Value.int .i64) (Sort.ahead W q) g 0 (d'.toList.map fun k : Fin (N + 1) => (k.val : Int)).toArray) os := by
        unfold sortWorld putRow
        rw [putCells_finG]
      rw [e1]
      have := ownsRow_sortedI (w := W) (base := base) (g := g) (cap := cc) (n := q) (e := 3) (os := os) (cur := cur) (ss := ns.map (fun k : Nat => (k : Int))) (ts := d'.toList.map fun k : Fin (N + 1) => (k.val : Int)) hys hbg hblk (by simp; omega) hcapm hsz
      rw [List.length_map, hlen] at this
      rw [List.map_map]
      exact this

end Go.Proofs.Ytlpjkolocgkcpaa

namespace Go.Proofs.Ytlpjkolocgkcpaa
open Go.RowKit

end Go.Proofs.Ytlpjkolocgkcpaa

namespace Go.Proofs.Ytlpjkolocgkcpaa
open Go.RowKit
attribute [local go_sem ↓] Go.wp_at_zero Go.wp_at_succ

namespace G
def nf (fs : List Fr) (fd : Nat) : Int := match fs[fd]? with | some f => f.at_ | none => 1441
def comes (fs : List Fr) (fd : Nat) (m : Int) : List Fr := (fs.drop fd).takeWhile (fun f => decide (f.at_ ≤ m))
def cnts (l : List Fr) : Int := (l.map (·.count)).sum
theorem takeWhile_get {α : Type} {p : α → Bool} : ∀ {l : List α} {j : Nat} {x : α}, (l.takeWhile p)[j]? = some x → l[j]? = some x ∧ p x = true
  | [], j, x, h => by simp at h
  | a :: r, j, x, h => by
    rw [List.takeWhile_cons] at h
    split at h
    · rename_i ha
      cases j with
      | zero => rw [List.getElem?_cons_zero] at h ⊢; cases h; exact ⟨rfl, ha⟩
      | succ j => rw [List.getElem?_cons_succ] at h ⊢; exact takeWhile_get h
    · simp at h
theorem takeWhile_end {α : Type} {p : α → Bool} : ∀ {l : List α} {x : α}, l[(l.takeWhile p).length]? = some x → p x = false
  | [], x, h => by simp at h
  | a :: r, x, h => by
    rw [List.takeWhile_cons] at h
    split at h
    · rw [List.length_cons, List.getElem?_cons_succ] at h
      exact takeWhile_end h
    · rename_i ha
      simp at h
      subst h
      simpa using ha
theorem comes_get {fs : List Fr} {fd j : Nat} {m : Int} {f : Fr} (h : (comes fs fd m)[j]? = some f) : fs[fd + j]? = some f ∧ f.at_ ≤ m := by
  obtain ⟨h1, h2⟩ := takeWhile_get h
  rw [List.getElem?_drop] at h1
  exact ⟨h1, of_decide_eq_true h2⟩
theorem comes_end {fs : List Fr} {fd : Nat} {m : Int} {f : Fr} (h : fs[fd + (comes fs fd m).length]? = some f) : m < f.at_ := by
  have h2 := takeWhile_end (p := fun f => decide (f.at_ ≤ m)) (l := fs.drop fd) (x := f) (by rw [List.getElem?_drop]; exact h)
  have := of_decide_eq_false h2
  omega
theorem comes_len {fs : List Fr} {fd : Nat} {m : Int} (h : fd ≤ fs.length) : fd + (comes fs fd m).length ≤ fs.length := by
  have h1 : (comes fs fd m).length ≤ (fs.drop fd).length := (List.takeWhile_sublist _).length_le
  rw [List.length_drop] at h1
  omega
theorem cnts_bd {l : List Fr} (h : ∀ f ∈ l, 0 ≤ f.count ∧ f.count ≤ 9999) : 0 ≤ cnts l ∧ cnts l ≤ 9999 * l.length := by
  unfold cnts
  induction l with
  | nil => simp
  | cons a r ih =>
    have h1 := h a (List.mem_cons_self ..)
    have h2 := ih (fun x hx => h x (List.mem_cons_of_mem _ hx))
    rw [List.map_cons, List.sum_cons, List.length_cons]
    omega
theorem cnts_snoc {l : List Fr} {j : Nat} {f : Fr} (h : l[j]? = some f) : cnts (l.take (j + 1)) = cnts (l.take j) + f.count := by
  unfold cnts
  rw [List.take_add_one, h]
  simp
end G
def momC (q : G.Qu) (gv fv nv ov : Value) (rate mi pa fr : Int) (fd : Nat) : Array Value :=
  #[.int .i64 q.opn, .int .i64 q.lo, .int .i64 q.hi, .int .i64 q.seats, gv, fv, nv, ov, .int .i64 rate, .int .i64 mi, .int .i64 pa, .int .i64 fr, .int .i64 (fd : Int)]

set_option maxHeartbeats 3200000 in
set_option maxRecDepth 100000 in
theorem nextFree_any (g : Nat) (q : G.Qu) (gv nv ov : Value) (F : Option Addr) (m d : Nat) (fs : List G.Fr) (rate mi pa fr : Int) (fd : Nat) (W : World) (hg : W.heap[g]? = some (.cells (momC q gv (.slice F m d) nv ov rate mi pa fr fd) 85 (0, 0))) (hl : fs.length = m) (hr : RdF W W.heap.size F fs) (hm : m ≤ 1000) (hfd : fd ≤ m) :
    Calls Try.prog 79 #[.pointer (some ⟨g, 0, none⟩)] W fun e w' => e = .returned (.int .i64 (G.nf fs fd)) ∧ ∃ k, w' = W.drewN k := by
  have c5 : W.cell? ⟨g, 5, none⟩ = some (.slice F m d) := (blk_cell hg 5).trans rfl
  have c12 : W.cell? ⟨g, 12, none⟩ = some (.int .i64 (fd : Int)) := (blk_cell hg 12).trans rfl
  have z := blk_lt hg
  have HR := hide hr
  have HL := hide hl
  clear hg hr hl
  by_cases h : fd = m
  · have ho : G.nf fs fd = 1441 := by
      unfold G.nf
      rw [List.getElem?_eq_none (by have := HL.out; omega)]
    rw [ho]
    subst h
    clear ho
    go_enter Try.func79, Try.ntmps79
    go_upto_region 1 with fail
    go_quiet (fail)
    go_wp2
    go_ret
    exact ⟨rfl, _, rfl⟩
  · obtain ⟨f, hf⟩ : ∃ f, fs[fd]? = some f := ⟨_, List.getElem?_eq_getElem (by have := HL.out; omega)⟩
    obtain ⟨b, o, hF, hbB, d0, d1⟩ := HR.out fd f hf
    subst hF
    have ho : G.nf fs fd = f.at_ := by unfold G.nf; rw [hf]
    rw [ho]
    have hne : ((fd : Int) == (m : Int)) = false := by simp; omega
    have hlt : (fd : Int) < (m : Int) := by omega
    have h0 : (0 : Int) ≤ (fd : Int) := by omega
    clear ho hf d1 h hfd
    go_enter Try.func79, Try.ntmps79
    go_upto_region 1 with fail
    go_quiet (fail)
    go_upto_region 3 with fail
    go_quiet (fail)
    go_wp2
    go_ret
    exact ⟨rfl, _, by first | rfl | exact World.drewN_drewN _ _ _⟩

theorem RdF.other {w w' : World} {g : Nat} {F : Option Addr} {fs : List G.Fr} (h : RdF w g F fs) (hb : w.grownBy w' (some g)) (hs : g ≤ w.heap.size) : RdF w' g F fs := fun k p hk => by
  obtain ⟨b, o, e, hB, c0, c1⟩ := h k p hk
  have hc : ∀ i, w'.cell? ⟨b, i, none⟩ = w.cell? ⟨b, i, none⟩ := fun i => by
    unfold World.cell?
    rw [hb.block b (by omega) (fun e => by have := Option.some.inj e; omega)]
  exact ⟨b, o, e, hB, (hc _).trans c0, (hc _).trans c1⟩
def MomAt (w : World) (g : Nat) (q : G.Qu) (gv fv nv ov : Value) (rate mi pa fr : Int) (fd : Nat) : Prop := w.heap[g]? = some (.cells (momC q gv fv nv ov rate mi pa fr fd) 85 (0, 0))
theorem MomAt.set {w : World} {g : Nat} {q : G.Qu} {gv fv nv ov : Value} {rate mi pa fr : Int} {fd : Nat} (h : MomAt w g q gv fv nv ov rate mi pa fr fd) :
    (∀ v : Int, MomAt (w.setCell ⟨g, 9, none⟩ (.int .i64 v)) g q gv fv nv ov rate v pa fr fd) ∧ (∀ v : Int, MomAt (w.setCell ⟨g, 10, none⟩ (.int .i64 v)) g q gv fv nv ov rate mi v fr fd) ∧ (∀ v : Int, MomAt (w.setCell ⟨g, 11, none⟩ (.int .i64 v)) g q gv fv nv ov rate mi pa v fd) ∧ (∀ v : Nat, MomAt (w.setCell ⟨g, 12, none⟩ (.int .i64 (v : Int))) g q gv fv nv ov rate mi pa fr v) :=
  ⟨fun v => (blk_set h 9 _).trans rfl, fun v => (blk_set h 10 _).trans rfl, fun v => (blk_set h 11 _).trans rfl, fun v => (blk_set h 12 _).trans rfl⟩
theorem gr_drewN (w : World) (n : Nat) (r : Option Nat) : w.grownBy (w.drewN n) r := ⟨rfl, rfl, rfl, Nat.le_refl _, fun _ _ _ => rfl⟩
theorem gr_drew1 (w : World) (r : Option Nat) : w.grownBy w.drew r := ⟨rfl, rfl, rfl, Nat.le_refl _, fun _ _ _ => rfl⟩
theorem mom_meas {w w' : World} {g : Nat} {q q' : G.Qu} {gv fv nv ov gv' fv' nv' ov' : Value} {rate mi pa fr rate' mi' pa' fr' : Int} {fd fd' m : Nat} (h' : MomAt w' g q' gv' fv' nv' ov' rate' mi' pa' fr' fd') (h : MomAt w g q gv fv nv ov rate mi pa fr fd) (hk : fd < fd') (hm : fd ≤ m) :
    m + 1 - (intOf ((w'.cell? ⟨g, 12, none⟩).getD undef)).toNat < m + 1 - (intOf ((w.cell? ⟨g, 12, none⟩).getD undef)).toNat := by
  have a1 : w'.cell? ⟨g, 12, none⟩ = some (.int .i64 (fd' : Int)) := (blk_cell h' 12).trans rfl
  have a0 : w.cell? ⟨g, 12, none⟩ = some (.int .i64 (fd : Int)) := (blk_cell h 12).trans rfl
  rw [a1, a0]
  simp only [Option.getD_some, intOf, Int.toNat_natCast]
  omega
def ReachPost (w : World) (g : Nat) (q : G.Qu) (gv fv nv ov : Value) (rate mi pa fr : Int) (fd : Nat) (e : Ending) (w' : World) : Prop := e = .returned (.tuple #[]) ∧ MomAt w' g q gv fv nv ov rate mi pa fr fd ∧ w.grownBy w' (some g)

set_option maxHeartbeats 6400000 in
set_option maxRecDepth 100000 in
theorem reach_any (g : Nat) (q : G.Qu) (gv nv ov : Value) (F : Option Addr) (m d : Nat) (fs : List G.Fr) (rate mi pa fr minute : Int) (fd : Nat) (W : World) (hg : MomAt W g q gv (.slice F m d) nv ov rate mi pa fr fd) (hl : fs.length = m) (hr : RdF W g F fs) (hm : m ≤ 1000) (hfd : fd ≤ m) (hv : ∀ f ∈ fs, 0 ≤ f.count ∧ f.count ≤ 9999) (h0 : -1000000 ≤ fr) (h1 : fr ≤ 100000000) (hmi : -1000 ≤ mi) (hmi2 : mi ≤ 1000000) (hmn : -1000 ≤ minute) (hmn2 : minute ≤ 1000000) :
    Calls Try.prog 78 #[.pointer (some ⟨g, 0, none⟩), .int .i64 minute] W (ReachPost W g q gv (.slice F m d) nv ov rate (max mi minute) (if mi < minute then 0 else pa) (fr + G.cnts (G.comes fs fd (max mi minute))) (fd + (G.comes fs fd (max mi minute)).length)) := by
  have HG := hide hg
  have HL := hide hl
  have HR := hide hr
  have HV := hide hv
  obtain ⟨mx, hmx⟩ : ∃ q, max mi minute = q := ⟨_, rfl⟩
  obtain ⟨px, hpx⟩ : ∃ q, (if mi < minute then 0 else pa) = q := ⟨_, rfl⟩
  have HMX := hide hmx
  have HPX := hide hpx
  have hmx0 : -1000 ≤ mx := by omega
  have hmx1 : mx ≤ 1000000 := by omega
  rw [hmx, hpx]
  clear hmx hpx hg hl hr hv
  obtain ⟨D, hD⟩ : ∃ D, G.comes fs fd mx = D := ⟨_, rfl⟩
  have HD := hide hD
  rw [hD]
  clear hD
  have HZ := hide (blk_lt HG.out)
  go_enter Try.func78, Try.ntmps78
  have c9 : W.cell? ⟨g, 9, none⟩ = some (.int .i64 mi) := (blk_cell HG.out 9).trans rfl
  have c10 : W.cell? ⟨g, 10, none⟩ = some (.int .i64 pa) := (blk_cell HG.out 10).trans rfl
  have f9 := blk_frozen HG.out 9
  have f10 := blk_frozen HG.out 10
  have z := blk_lt HG.out
  obtain ⟨e1, he1⟩ : ∃ q, decide (mi < minute) = q := ⟨_, rfl⟩
  have HE1 := hide he1
  go_upto_if 9 with fail
  go_cut [] from 10 to 16 (fun wy => Hid (MomAt wy g q gv (.slice F m d) nv ov rate mx px fr fd) ∧ Hid (W.grownBy wy (some g)))
  case first =>
    cases e1
    · have hle : minute ≤ mi := by have := of_decide_eq_false HE1.out; omega
      have HM1 := hide (show MomAt W g q gv (.slice F m d) nv ov rate mx px fr fd by rw [← HMX.out, ← HPX.out, if_neg (by omega), show max mi minute = mi by omega]; exact HG.out)
      go_wp2_with fail
      go_meet
      case rel => exact ⟨HM1, hide (World.grownBy.refl _ _)⟩
    · have hlt : mi < minute := of_decide_eq_true HE1.out
      have HM1 := hide (show MomAt ((W.setCell ⟨g, 9, none⟩ (.int .i64 minute)).setCell ⟨g, 10, none⟩ (.int .i64 0)) g q gv (.slice F m d) nv ov rate mx px fr fd by rw [← HMX.out, ← HPX.out, if_pos hlt, show max mi minute = minute by omega]; exact (HG.out.set.1 minute).set.2.1 0)
      go_wp2_with fail
      go_meet
      case rel => exact ⟨HM1, hide (gr_trans (gr_set _ _ _ _) (gr_set _ _ _ _))⟩
  case rest =>
    obtain ⟨HM, HGR⟩ := hcut
    rename World => w1
    (try clear he1)
    clear c9 c10 f9 f10 z
    have HDL := hide (show fd + D.length ≤ m by have h := G.comes_len (fs := fs) (fd := fd) (m := mx) (by have := HL.out; omega); rw [HD.out] at h; have := HL.out; omega)
    have HDV := hide (show ∀ f ∈ D, 0 ≤ f.count ∧ f.count ≤ 9999 by
      intro f hf
      obtain ⟨j, hj⟩ := List.mem_iff_getElem?.1 hf
      rw [← HD.out] at hj
      exact HV.out f (List.mem_of_getElem? (G.comes_get hj).1))
    go_wp2_with fail
    go_loopw [17] (fun _ wr => ∃ j : Nat, j ≤ D.length ∧ Hid (MomAt wr g q gv (.slice F m d) nv ov rate mx px (fr + G.cnts (D.take j)) (fd + j)) ∧ Hid (W.grownBy wr (some g))) (fun _ wr => m + 1 - (intOf ((wr.cell? ⟨g, 12, none⟩).getD undef)).toNat)
    case atStart => exact ⟨0, by omega, hide (by rw [List.take_zero]; show MomAt _ _ _ _ _ _ _ _ _ _ (fr + 0) _; rw [Int.add_zero]; exact HM.out), HGR⟩
    case round =>
      clear HM HGR
      obtain ⟨j, hj, HM, HGR⟩ := hrel
      have hcb := G.cnts_bd (l := D.take j) (fun f hf => HDV.out f (List.mem_of_mem_take hf))
      have hcl : (D.take j).length ≤ 1000 := by rw [List.length_take]; have := HDL.out; omega
      obtain ⟨fj, hfj⟩ : ∃ q, fr + G.cnts (D.take j) = q := ⟨_, rfl⟩
      have hf0 : -1000000 ≤ fj := by omega
      have hf1 : fj ≤ 200000000 := by omega
      have HFJ := hide hfj
      rw [hfj] at HM
      clear hcb hcl hfj
      have HRr := hide (HR.out.other HGR.out (Nat.le_of_lt HZ.out))
      have HZr := hide (blk_lt HM.out)
      have HNF := fun n => hide (nextFree_any g q gv nv ov F m d fs rate mx px fj (fd + j) (wr.drewN n) HM.out HL.out (HRr.out.mono (Nat.le_of_lt HZr.out)) hm (by have := HDL.out; omega))
      obtain ⟨nv1, hnv1⟩ : ∃ q, G.nf fs (fd + j) = q := ⟨_, rfl⟩
      rw [hnv1] at HNF
      have HNV := hide hnv1
      clear hnv1
      have c5 : wr.cell? ⟨g, 5, none⟩ = some (.slice F m d) := (blk_cell HM.out 5).trans rfl
      have c9 : wr.cell? ⟨g, 9, none⟩ = some (.int .i64 mx) := (blk_cell HM.out 9).trans rfl
      have c11 : wr.cell? ⟨g, 11, none⟩ = some (.int .i64 fj) := (blk_cell HM.out 11).trans rfl
      have c12 : wr.cell? ⟨g, 12, none⟩ = some (.int .i64 ((fd + j : Nat) : Int)) := (blk_cell HM.out 12).trans rfl
      have z := blk_lt HM.out
      obtain ⟨k, hk⟩ : ∃ q, fd + j = q := ⟨_, rfl⟩
      rw [hk] at c12 HM
      have HK := hide hk
      clear hk
      have hk0 : (0 : Int) ≤ (k : Int) := by omega
      by_cases hlt : j < D.length
      · obtain ⟨f, hf⟩ : ∃ f, D[j]? = some f := ⟨_, List.getElem?_eq_getElem hlt⟩
        have hfc := HDV.out f (List.mem_of_getElem? hf)
        have HCS := hide (G.cnts_snoc hf)
        rw [← HD.out] at hf
        obtain ⟨hf1', hf2'⟩ := G.comes_get hf
        have HNE := hide (show nv1 = f.at_ by rw [← HNV.out]; unfold G.nf; rw [hf1'])
        have hnle : decide (nv1 ≤ mx) = true := decide_eq_true (by rw [HNE.out]; exact hf2')
        have hkm : (k : Int) < (m : Int) := by have h1 := HK.out; have h2 := HDL.out; omega
        have hkd : decide ((k : Int) < (m : Int)) = true := decide_eq_true hkm
        have hf3 := hf1'
        rw [HK.out] at hf3
        obtain ⟨b, o, hF, hbB, d0, d1⟩ := HRr.out k f hf3
        subst hF
        have hfc0 : 0 ≤ f.count := hfc.1
        have hfc1 : f.count ≤ 9999 := hfc.2
        have hbs : b < wr.heap.size := Nat.lt_trans hbB z
        have hsum : IntKind.i64.wrap (fj + f.count) = fj + f.count := IntWalk.i64_in _ (by omega)
        have hkw : IntKind.i64.wrap ((k : Int) + 1) = (k : Int) + 1 := IntWalk.i64_in _ (by omega)
        have HBB := hide hbB
        clear hf hf1' hf2' hf3 hfc d0
        go_upto_region 2 with fail
        go_quiet ((go_at_call 79; exact Calls.quiet_of (HNF _).out))
        go_upto_region 3 with fail
        obtain ⟨V, hV⟩ : ∃ V, (wr.drewN nq).drew = V := ⟨_, rfl⟩
        have HGV := hide (show W.grownBy V (some g) by rw [← hV]; exact gr_trans (gr_trans HGR.out (gr_drewN wr nq _)) (gr_drew1 _ _))
        have HMV := hide (show MomAt V g q gv (.slice (some ⟨b, o, none⟩) m d) nv ov rate mx px fj k by rw [← hV]; exact HM.out)
        have e1 : V.cell? ⟨b, o + k * 2 + 1, none⟩ = some (.int .i64 f.count) := by rw [← hV]; exact d1
        have e5 : V.cell? ⟨g, 5, none⟩ = some (.slice (some ⟨b, o, none⟩) m d) := (blk_cell HMV.out 5).trans rfl
        have e11 : V.cell? ⟨g, 11, none⟩ = some (.int .i64 fj) := (blk_cell HMV.out 11).trans rfl
        have e12 : V.cell? ⟨g, 12, none⟩ = some (.int .i64 (k : Int)) := (blk_cell HMV.out 12).trans rfl
        have y11 := blk_frozen HMV.out 11
        have y12 := blk_frozen HMV.out 12
        have yz := blk_lt HMV.out
        refine wp_region_still_tail 20 (by kernel_rfl) (by kernel_rfl) ?_
        simp only [List.take_succ_cons, List.take_zero, List.drop_succ_cons, List.drop_zero]
        change wpStill _ _ (wr.drewN nq).drew (fun a' => wpList _ _ _ _ a' (wr.drewN nq).drew) _ _
        rw [hV]
        clear hV c5 c9 c11 c12 z d1 HNF
        (repeat still_step)
        refine wpStill_nil ?_
        go_wp2_with fail
        go_roundw
        case rel => exact ⟨j + 1, by omega, hide (by
          have h := (HMV.out.set.2.2.1 (fj + f.count)).set.2.2.2 (k + 1)
          rw [HCS.out, ← Int.add_assoc, HFJ.out, show fd + (j + 1) = k + 1 by have := HK.out; omega]
          exact h), hide (gr_trans HGV.out (gr_trans (gr_set _ _ _ _) (gr_set _ _ _ _)))⟩
        case measure => exact mom_meas ((HMV.out.set.2.2.1 (fj + f.count)).set.2.2.2 (k + 1)) HM.out (by omega) (by omega)
      · have hje : j = D.length := by omega
        have hnd : (nv1 ≤ mx → False) ∨ (m : Int) ≤ (k : Int) := by
          by_cases hkm : k < m
          · obtain ⟨f, hf⟩ : ∃ f, fs[fd + j]? = some f := ⟨_, List.getElem?_eq_getElem (by have h1 := HL.out; have h2 := HK.out; omega)⟩
            have h3 := hf
            rw [hje, ← HD.out] at h3
            have h4 := G.comes_end h3
            have h5 : nv1 = f.at_ := by rw [← HNV.out]; unfold G.nf; rw [hf]
            exact .inl (fun h => by omega)
          · exact .inr (by omega)
        have HPO := hide (show MomAt wr g q gv (.slice F m d) nv ov rate mx px (fr + G.cnts D) (fd + D.length) by
          rw [← hje]
          have h := HM.out
          rw [← HFJ.out, ← HK.out, List.take_of_length_le (by omega)] at h
          exact h)
        cases hb : decide (nv1 ≤ mx)
        · clear hnd
          go_upto_region 2 with fail
          go_quiet ((go_at_call 79; exact Calls.quiet_of (HNF _).out))
          go_wp2_with fail
          exact bodyPost_end (v := .tuple #[]) (by simp [results, Try.results78, go_sem]) rfl ⟨rfl, HPO.out, gr_trans HGR.out (gr_drewN wr _ _)⟩
        · have hkm : (m : Int) ≤ (k : Int) := by rcases hnd with h | h; exact absurd (of_decide_eq_true hb) h; omega
          have hkd : decide ((k : Int) < (m : Int)) = false := decide_eq_false (by omega)
          clear hnd
          go_upto_region 2 with fail
          go_quiet ((go_at_call 79; exact Calls.quiet_of (HNF _).out))
          go_wp2_with fail
          exact bodyPost_end (v := .tuple #[]) (by simp [results, Try.results78, go_sem]) rfl ⟨rfl, HPO.out, gr_trans HGR.out (gr_drewN wr _ _)⟩
end Go.Proofs.Ytlpjkolocgkcpaa

namespace Go.Proofs.Ytlpjkolocgkcpaa
namespace G

def FSorted (fs : List Fr) : Prop := fs.Pairwise (fun a b => a.at_ ≤ b.at_)
structure Sync (fs : List Fr) (fd : Nat) (mi : Int) : Prop where
  le : fd ≤ fs.length
  old : ∀ f ∈ fs.take fd, f.at_ ≤ mi
  new : ∀ f ∈ fs.drop fd, mi < f.at_
theorem sumF_app (a b : List Fr) (m : Int) : sumF (a ++ b) m = sumF a m + sumF b m := by
  unfold sumF
  rw [List.filter_append, List.map_append, List.sum_append]
theorem sumF_all {a : List Fr} {m : Int} (h : ∀ f ∈ a, f.at_ ≤ m) : sumF a m = cnts a := by
  unfold sumF cnts
  rw [List.filter_eq_self.2 (fun f hf => decide_eq_true (h f hf))]
theorem sumF_none {a : List Fr} {m : Int} (h : ∀ f ∈ a, m < f.at_) : sumF a m = 0 := by
  unfold sumF
  rw [List.filter_eq_nil_iff.2 (fun f hf => by have := h f hf; simp; omega)]
  rfl
theorem Sync.sum {fs : List Fr} {fd : Nat} {mi : Int} (h : Sync fs fd mi) : sumF fs mi = cnts (fs.take fd) := by
  have e : sumF fs mi = sumF (fs.take fd ++ fs.drop fd) mi := by rw [List.take_append_drop]
  rw [e, sumF_app, sumF_all h.old, sumF_none h.new]
  omega
theorem sync_comes {fs : List Fr} (hs : FSorted fs) {fd : Nat} {mx : Int} (hl : fd ≤ fs.length) (ho : ∀ f ∈ fs.take fd, f.at_ ≤ mx) : Sync fs (fd + (comes fs fd mx).length) mx ∧ cnts (fs.take (fd + (comes fs fd mx).length)) = cnts (fs.take fd) + cnts (comes fs fd mx) := by
  have hpre : (comes fs fd mx) = (fs.drop fd).take (comes fs fd mx).length := (List.prefix_iff_eq_take.1 (List.takeWhile_prefix _))
  have htk : fs.take (fd + (comes fs fd mx).length) = fs.take fd ++ comes fs fd mx := by
    rw [List.take_add, ← hpre]
  refine ⟨⟨comes_len hl, fun f hf => ?_, fun f hf => ?_⟩, ?_⟩
  · rw [htk] at hf
    rcases List.mem_append.1 hf with h | h
    · exact ho f h
    · obtain ⟨j, hj⟩ := List.mem_iff_getElem?.1 h
      exact (comes_get hj).2
  · obtain ⟨j, hj⟩ := List.mem_iff_getElem?.1 hf
    rw [List.getElem?_drop] at hj
    cases h0 : fs[fd + (comes fs fd mx).length]? with
    | none =>
      rw [List.getElem?_eq_none (by have := List.getElem?_eq_none_iff.1 h0; omega)] at hj
      cases hj
    | some x =>
      have h1 := comes_end h0
      cases j with
      | zero =>
        rw [Nat.add_zero, h0] at hj
        cases hj
        exact h1
      | succ j =>
        obtain ⟨l1, e1⟩ := List.getElem?_eq_some_iff.1 h0
        obtain ⟨l2, e2⟩ := List.getElem?_eq_some_iff.1 hj
        have := List.pairwise_iff_getElem.1 hs _ _ l1 l2 (by omega)
        rw [e1, e2] at this
        omega
  · rw [htk]
    unfold cnts
    rw [List.map_append, List.sum_append]
theorem Sync.lt_nf {fs : List Fr} {fd : Nat} {mi : Int} (h : Sync fs fd mi) (hm : mi < 1441) : mi < nf fs fd := by
  unfold G.nf
  cases hf : fs[fd]? with
  | none => exact hm
  | some f => exact h.new f (List.mem_of_getElem? (i := 0) (by rw [List.getElem?_drop]; exact hf))
theorem Sync.stay {fs : List Fr} (hs : FSorted fs) {fd : Nat} {mi j : Int} (h : Sync fs fd mi) (h1 : mi ≤ j) (h2 : j < nf fs fd) (h3 : ∀ f ∈ fs, f.at_ ≤ 1440) : sumF fs j = sumF fs mi ∨ 1440 < j := by
  have hs2 : Sync fs fd j ∨ 1440 < j := by
    by_cases c : 1440 < j
    · exact .inr c
    · refine .inl ⟨h.le, fun f hf => Int.le_trans (h.old f hf) h1, fun f hf => ?_⟩
      unfold G.nf at h2
      cases h0 : fs[fd]? with
      | none =>
        obtain ⟨i, hi⟩ := List.mem_iff_getElem?.1 hf
        rw [List.getElem?_drop, List.getElem?_eq_none (by have := List.getElem?_eq_none_iff.1 h0; omega)] at hi
        cases hi
      | some x =>
        rw [h0] at h2
        obtain ⟨i, hi⟩ := List.mem_iff_getElem?.1 hf
        rw [List.getElem?_drop] at hi
        cases i with
        | zero =>
          rw [Nat.add_zero, h0] at hi
          cases hi
          exact h2
        | succ i =>
          obtain ⟨l1, e1⟩ := List.getElem?_eq_some_iff.1 h0
          obtain ⟨l2, e2⟩ := List.getElem?_eq_some_iff.1 hi
          have h5 := List.pairwise_iff_getElem.1 hs _ _ l1 l2 (by omega)
          rw [e1, e2] at h5
          exact Int.lt_of_lt_of_le h2 h5
  rcases hs2 with h4 | h4
  · exact .inl (by rw [h4.sum, h.sum])
  · exact .inr h4
structure Wt (S : Int → Int) (opn : Int) (p : Pt) (s : Mo) (mi pa : Int) : Prop where
  lo : from_ opn p s ≤ mi
  no : ∀ j, from_ opn p s ≤ j → j < mi → j < p.gone ∧ S j - s.used < p.size
  pas : pa = if mi = s.min then s.passed else 0
theorem Wt.fin {S : Int → Int} {opn : Int} {p : Pt} {s : Mo} {mi pa : Int} (h : Wt S opn p s mi pa) (he : p.gone ≤ mi ∨ p.size ≤ S mi - s.used) : ready S opn p s = mi ∧ now S opn p s = pa := by
  have e : ready S opn p s = mi := wait_eq (Nat.le_refl _) h.lo he h.no
  exact ⟨e, by unfold now; rw [e, h.pas]⟩
theorem Wt.start (S : Int → Int) (opn : Int) (p : Pt) (s : Mo) : Wt S opn p s (from_ opn p s) (if s.min < max p.at_ opn then 0 else s.passed) := by
  refine ⟨Int.le_refl _, fun j h1 h2 => by omega, ?_⟩
  unfold from_
  by_cases c : s.min < max p.at_ opn
  · rw [if_pos c, if_neg (by omega)]
  · rw [if_neg c, if_pos (by omega)]
theorem Wt.step {S : Int → Int} {opn : Int} {p : Pt} {s : Mo} {mi pa mi' : Int} (h : Wt S opn p s mi pa) (hlt : mi < mi') (hno : ∀ j, mi ≤ j → j < mi' → j < p.gone ∧ S j - s.used < p.size) : Wt S opn p s mi' 0 := by
  have h1 := (from_le (opn := opn) (p := p) (s := s)).1
  have h2 := h.lo
  refine ⟨by omega, fun j a b => ?_, by rw [if_neg (by omega)]⟩
  by_cases c : j < mi
  · exact h.no j a c
  · exact hno j (by omega) b
end G
end Go.Proofs.Ytlpjkolocgkcpaa

namespace Go.Proofs.Ytlpjkolocgkcpaa

namespace G
theorem sum_perm {a b : List Int} (h : a.Perm b) : a.sum = b.sum := by
  induction h with
  | nil => rfl
  | cons x _ ih => simp [ih]
  | swap x y l => simp only [List.sum_cons]; omega
  | trans _ _ h1 h2 => exact h1.trans h2
theorem S_fs {q : Qu} {fs' : List Fr} (h : fs'.Perm q.fs) : ({ q with fs := fs' } : Qu).S = q.S := by
  funext m
  unfold Qu.S sumF
  have := sum_perm ((h.filter (fun f => decide (f.at_ ≤ m))).map (·.count))
  dsimp only
  rw [this]
theorem enter_fs {q : Qu} {fs' : List Fr} (h : fs'.Perm q.fs) (r : Int) : enter { q with fs := fs' } r = enter q r := by
  unfold enter
  rw [S_fs h]
theorem minutesOf_fs {q : Qu} {fs' : List Fr} (h : fs'.Perm q.fs) (g : Nat) : minutesOf { q with fs := fs' } g = minutesOf q g := by
  unfold minutesOf
  simp only [enter_fs h]
  rfl
theorem always_fs {q : Qu} {fs' : List Fr} (h : fs'.Perm q.fs) (g : Nat) : always { q with fs := fs' } g = always q g := by
  unfold always
  rw [minutesOf_fs h]
theorem enoughF_fs {q : Qu} {fs' : List Fr} (h : fs'.Perm q.fs) (g : Nat) : ∀ (k : Nat) (n : Int), enoughF { q with fs := fs' } g k n = enoughF q g k n
  | 0, _ => rfl
  | k + 1, n => by
    unfold enoughF
    rw [enoughF_fs h g k (n + 1)]
    have := always_fs (q := { q with seats := q.seats + n }) (fs' := fs') h g
    dsimp only at this ⊢
    rw [this]
theorem enough_fs {q : Qu} {fs' : List Fr} (h : fs'.Perm q.fs) (g : Nat) : enough { q with fs := fs' } g = enough q g := by
  unfold enough
  rw [enoughF_fs h]
theorem valid_fs {q : Qu} (hv : Valid q) {fs' : List Fr} (h : fs'.Perm q.fs) : Valid { q with fs := fs' } :=
  ⟨hv.o0, hv.o1, hv.l0, hv.lh, hv.h1, hv.s0, hv.s1, hv.gl, hv.gv, hv.gn, by show fs'.length ≤ 40; rw [h.length_eq]; exact hv.fl, fun f hf => hv.fv f (h.mem_iff.1 hf)⟩
theorem cmpG_flip {x y : Pt} (h : 0 ≤ cmpG y x) : cmpG x y ≤ 0 := by
  have h1 : ¬ cmpG y x < 0 := by omega
  rw [cmpG_neg] at h1
  rw [cmpG_le]
  omega
theorem ptAt_range {gs : List Pt} {n : Nat} (hn : gs.length = n) : (List.range n).map (ptAt gs) = gs := by
  refine List.ext_getElem? fun i => ?_
  rw [List.getElem?_map]
  rcases Nat.lt_or_ge i n with h | h
  · rw [List.getElem?_range h, Option.map_some, ptAt_get (by omega)]
  · rw [List.getElem?_eq_none (by simpa using h), List.getElem?_eq_none (by omega)]
    rfl
theorem ord_srt {gs : List Pt} {ord : List Nat} {n : Nat} (hn : gs.length = n) (hnd : (gs.map (·.id)).Nodup) (hp : ord.Perm (List.range n)) (hs : ord.Pairwise (fun a b => 0 ≤ cmpG (ptAt gs b) (ptAt gs a))) : ord.map (fun j => gs[j]?) = (srt gs).map some := by
  have p1 : (ord.map (ptAt gs)).Perm gs := by
    have := hp.map (ptAt gs)
    rwa [ptAt_range hn] at this
  have s1 : Sorted (ord.map (ptAt gs)) := List.pairwise_map.2 (hs.imp fun h => cmpG_flip h)
  rw [← sorted_eq hnd p1 (srt_perm gs) s1 (srt_sorted gs), List.map_map]
  refine List.map_congr_left fun j hj => ?_
  have : j < gs.length := by rw [hn]; exact List.mem_range.1 (hp.mem_iff.1 hj)
  exact ptAt_get this
end G
end Go.Proofs.Ytlpjkolocgkcpaa

namespace Go.Proofs.Ytlpjkolocgkcpaa
open Go.RowKit
attribute [local go_sem ↓] Go.wp_at_zero Go.wp_at_succ

set_option maxHeartbeats 1600000 in
theorem refund_any (x : G.Tm) (A : Option Addr) (n c : Nat) (t : G.Tk) (w : World) (hn : x.played.length = n) (hr : RdI w w.heap.size A x.played) (hm : n ≤ 1000000) (h0 : 0 ≤ t.day) (h1 : t.day < n) (p0 : 0 ≤ t.price) (p1 : t.price ≤ 1000000) (q0 : 0 ≤ t.paid) (q1 : t.paid ≤ 1000000) :
    Calls Try.prog 51 #[.agg #[.int .i64 x.short, .int .i64 x.long, .slice A n c], .agg #[.int .i64 t.id, .int .i64 t.price, .int .i64 t.day, .int .i64 t.paid]] w fun e w' => e = .returned (.int .i64 (G.refund1 x t)) ∧ Below w.heap.size w w' := by
  obtain ⟨id, price, day, paid⟩ := t
  dsimp only at h0 h1 p0 p1 q0 q1 ⊢
  obtain ⟨k, rfl⟩ : ∃ k : Nat, day = (k : Int) := ⟨day.toNat, by omega⟩
  obtain ⟨pl, hpl⟩ : ∃ q, x.played[k]? = some q := ⟨_, List.getElem?_eq_getElem (by omega)⟩
  obtain ⟨b, o, rfl, hbB, hc⟩ := hr k pl hpl
  have hdue : G.due x ⟨id, price, (k : Int), paid⟩ = if pl < x.short then price else if pl < x.long then price / 2 else 0 := by
    unfold G.due
    dsimp only
    rw [Int.toNat_natCast, List.getD_eq_getElem?_getD, hpl]
    rfl
  obtain ⟨r, hrr⟩ : ∃ r, G.refund1 x ⟨id, price, (k : Int), paid⟩ = r := ⟨_, rfl⟩
  rw [hrr]
  have HRR := hide hrr
  unfold G.refund1 at hrr
  rw [hdue] at hrr
  dsimp only at hrr
  have hk0 : (0 : Int) ≤ (k : Int) := h0
  clear hdue hpl hr h0 hn HRR
  have z1 : b < w.heap.size + 1 := by omega
  have z2 : b < w.heap.size + 1 + 1 := by omega
  obtain ⟨sh, hsh⟩ : ∃ q, x.short = q := ⟨_, rfl⟩
  obtain ⟨lo, hlo⟩ : ∃ q, x.long = q := ⟨_, rfl⟩
  rw [hsh, hlo] at hrr ⊢
  clear hsh hlo
  by_cases c1 : pl < sh
  · rw [if_pos c1] at hrr
    have hw : IntKind.i64.wrap (price - paid) = price - paid := IntWalk.i64_in _ (by omega)
    have hm1 : (if price - paid < 0 then 0 else price - paid) = r := by split <;> omega
    have hm2 : max (price - paid) 0 = r := hrr
    clear hrr
    go_enter Try.func51, Try.ntmps51
    go_upto_region 1 with fail
    go_quiet (fail)
    go_wp2
    go_ret
    exact ⟨rfl, by refine below_drewN ?_ _; (repeat' first | exact zbR _ _ | assumption | refine zbD ?_ | refine zbA ?_ ?_ _ | refine zbS ?_ ?_ _ | refine zbT ?_ (by assumption) ?_ | (simp; done) | (simp; omega) | omega)⟩
  · rw [if_neg c1] at hrr
    have c1' : sh ≤ pl := by omega
    clear c1
    by_cases c2 : pl < lo
    · rw [if_pos c2] at hrr
      have hw : IntKind.i64.wrap (price / 2 - paid) = price / 2 - paid := IntWalk.i64_in _ (by omega)
      have hm1 : (if price / 2 - paid < 0 then 0 else price / 2 - paid) = r := by split <;> omega
      have hm2 : max (price / 2 - paid) 0 = r := hrr
      clear hrr
      go_enter Try.func51, Try.ntmps51
      go_upto_region 1 with fail
      go_quiet (fail)
      go_wp2
      go_ret
      exact ⟨rfl, by refine below_drewN ?_ _; (repeat' first | exact zbR _ _ | assumption | refine zbD ?_ | refine zbA ?_ ?_ _ | refine zbS ?_ ?_ _ | refine zbT ?_ (by assumption) ?_ | (simp; done) | (simp; omega) | omega)⟩
    · rw [if_neg c2] at hrr
      have c2' : lo ≤ pl := by omega
      clear c2
      have hr0 : r = 0 := by omega
      subst hr0
      clear hrr
      go_enter Try.func51, Try.ntmps51
      go_upto_region 1 with fail
      go_quiet (fail)
      go_wp2
      all_goals
        go_ret
        exact ⟨by first | rfl | exact congrArg (fun z => Ending.returned (Value.int .i64 z)) (by omega), by refine below_drewN ?_ _; (repeat' first | exact zbR _ _ | assumption | refine zbD ?_ | refine zbA ?_ ?_ _ | refine zbS ?_ ?_ _ | refine zbT ?_ (by assumption) ?_ | (simp; done) | (simp; omega) | omega)⟩

theorem badMinute_any (n : Int) (w : World) :
    Calls Try.prog 62 #[.int .i64 n] w fun e w' => e = .returned (.bool (!G.vMin n)) ∧ w = w' := by
  obtain ⟨b, hb⟩ : ∃ b, G.vMin n = b := ⟨_, rfl⟩
  have HB := hide hb
  rw [hb]
  clear hb
  cases b <;>
    (go_enter Try.func62, Try.ntmps62
     go_wp2_with (go_at_call 63; (with_reducible refine (validMinute_any _ _).mono ?_); rintro e w' ⟨rfl, rfl⟩; rw [HB.out])
     go_ret
     exact ⟨rfl, rfl⟩)
theorem idxP_any (p : Int → Bool) (xs : List Int) : (0 ≤ E.idxP p xs) ↔ xs.any p = true := by
  unfold E.idxP
  cases h : xs.findIdx? p with
  | none =>
    rw [List.findIdx?_eq_none_iff] at h
    simp only [List.any_eq_true]
    constructor
    · intro h; omega
    · rintro ⟨x, hx, hp⟩; rw [h x hx] at hp; cases hp
  | some i =>
    rw [List.findIdx?_eq_some_iff_getElem] at h
    obtain ⟨hl, hp, _⟩ := h
    simp only [List.any_eq_true]
    exact ⟨fun _ => ⟨_, List.getElem_mem hl, hp⟩, fun _ => by omega⟩
set_option maxHeartbeats 1600000 in
theorem containsBad_any (A : Option Addr) (n c : Nat) (xs : List Int) (w : World) (hn : xs.length = n) (hr : RdI w w.heap.size A xs) (hm : n ≤ 1000000) :
    Calls Try.prog 64 #[.slice A n c, .func (.func 62) #[] #[]] w fun e w' => e = .returned (.bool (!xs.all G.vMin)) ∧ Below w.heap.size w w' := by
  have HI := hide (indexFunc_any 62 #[] (enters_of Try.func62 (by kernel_rfl) rfl) (fun n => !G.vMin n) (fun _ => True) xs (fun W x _ _ => (badMinute_any x W).mono (fun e w' h => ⟨h.1, by rw [← h.2]; exact World.grownBy.refl _ _⟩)) (fun _ _ _ _ => trivial) A n c w hn hr hm trivial)
  have hiff := idxP_any (fun n => !G.vMin n) xs
  obtain ⟨r, hr2⟩ : ∃ r, E.idxP (fun n => !G.vMin n) xs = r := ⟨_, rfl⟩
  rw [hr2] at HI hiff
  have ho : (!xs.all G.vMin) = decide (0 ≤ r) := by
    rw [Bool.eq_iff_iff, decide_eq_true_eq, hiff, List.not_all_eq_any_not]
  rw [ho]
  clear hr2 hiff ho hr hn hm
  by_cases h : 0 ≤ r
  · go_enter Try.func64, Try.ntmps64
    go_wp2_with (go_at_call 81; refine HI.out.mono ?_; rintro e w' ⟨rfl, hg⟩)
    go_ret
    exact ⟨by simp [h], bel_of hg⟩
  · have h' : r < 0 := by omega
    go_enter Try.func64, Try.ntmps64
    go_wp2_with (go_at_call 81; refine HI.out.mono ?_; rintro e w' ⟨rfl, hg⟩)
    go_ret
    exact ⟨by simp [h], bel_of hg⟩
end Go.Proofs.Ytlpjkolocgkcpaa

namespace Go.Proofs.Ytlpjkolocgkcpaa
open Go.Shelf Go.RowKit Go.Lib Go.Sort

def Try.sortFrees_ren : Go.Shelf.Ren := ⟨fun | 6 => 75 | 15 => 83 | 14 => 86 | 28 => 95 | 29 => 96 | 20 => 97 | 21 => 98 | 22 => 99 | 23 => 100 | 24 => 101 | 25 => 102 | 26 => 103 | 27 => 104 | 46 => 110 | 47 => 106 | 48 => 107 | 49 => 111 | 50 => 112 | 57 => 114 | n => n, fun | 22 => 25 | 24 => 54 | 25 => 105 | 3 => 3 | 39 => 114 | 0 => 0 | 53 => 125 | 55 => 127 | 4 => 4 | 46 => 119 | 45 => 118 | 50 => 80 | 5 => 5 | 9 => 9 | 66 => 133 | 70 => 137 | 76 => 141 | 77 => 142 | n => n, fun n => n⟩
theorem Try.sortFrees : SlLaysF0.n6 Try.prog Try.sortFrees_ren where
  mixed := by kernel_rfl
  f6 := ⟨ "slices.SortFunc[[]deuce/api.Free,deuce/api.Free]", by decide, Try.func75.trans (congrArg some (by kernel_rfl))⟩
  f14 := ⟨ "slices.pdqsortCmpFunc[deuce/api.Free]", by decide, Try.func86.trans (congrArg some (by kernel_rfl))⟩
  f15 := Try.func83.trans (congrArg some (by kernel_rfl))
  f20 := ⟨ "slices.insertionSortCmpFunc[deuce/api.Free]", by decide, Try.func97.trans (congrArg some (by kernel_rfl))⟩
  f21 := ⟨ "slices.heapSortCmpFunc[deuce/api.Free]", by decide, Try.func98.trans (congrArg some (by kernel_rfl))⟩
  f22 := ⟨ "slices.breakPatternsCmpFunc[deuce/api.Free]", by decide, Try.func99.trans (congrArg some (by kernel_rfl))⟩
  f23 := ⟨ "slices.choosePivotCmpFunc[deuce/api.Free]", by decide, Try.func100.trans (congrArg some (by kernel_rfl))⟩
  f24 := ⟨ "slices.reverseRangeCmpFunc[deuce/api.Free]", by decide, Try.func101.trans (congrArg some (by kernel_rfl))⟩
  f25 := ⟨ "slices.partialInsertionSortCmpFunc[deuce/api.Free]", by decide, Try.func102.trans (congrArg some (by kernel_rfl))⟩
  f26 := ⟨ "slices.partitionEqualCmpFunc[deuce/api.Free]", by decide, Try.func103.trans (congrArg some (by kernel_rfl))⟩
  f27 := ⟨ "slices.partitionCmpFunc[deuce/api.Free]", by decide, Try.func104.trans (congrArg some (by kernel_rfl))⟩
  f28 := Try.func95.trans (congrArg some (by kernel_rfl))
  f29 := Try.func96.trans (congrArg some (by kernel_rfl))
  f46 := ⟨ "slices.siftDownCmpFunc[deuce/api.Free]", by decide, Try.func110.trans (congrArg some (by kernel_rfl))⟩
  f47 := Try.func106.trans (congrArg some (by kernel_rfl))
  f48 := Try.func107.trans (congrArg some (by kernel_rfl))
  f49 := ⟨ "slices.medianAdjacentCmpFunc[deuce/api.Free]", by decide, Try.func111.trans (congrArg some (by kernel_rfl))⟩
  f50 := ⟨ "slices.medianCmpFunc[deuce/api.Free]", by decide, Try.func112.trans (congrArg some (by kernel_rfl))⟩
  f57 := ⟨ "slices.order2CmpFunc[deuce/api.Free]", by decide, Try.func114.trans (congrArg some (by kernel_rfl))⟩
  t0 := Try.underlying0
  a0 := Try.isAgg0
  z0 := Try.sizeOf0
  v0 := Try.zeroValue0
  t3 := Try.underlying3
  a3 := Try.isAgg3
  z3 := Try.sizeOf3
  v3 := Try.zeroValue3
  t4 := Try.underlying4
  a4 := Try.isAgg4
  z4 := Try.sizeOf4
  v4 := Try.zeroValue4
  t5 := Try.underlying5
  a5 := Try.isAgg5
  z5 := Try.sizeOf5
  v5 := Try.zeroValue5
  t9 := Try.underlying9
  a9 := Try.isAgg9
  z9 := Try.sizeOf9
  v9 := Try.zeroValue9
  t22 := Try.underlying25
  a22 := Try.isAgg25
  z22 := Try.sizeOf25
  v22 := Try.zeroValue25
  t25 := Try.underlying105
  a25 := Try.isAgg105
  z25 := Try.sizeOf105
  v25 := Try.zeroValue105
  t39 := Try.underlying114
  a39 := Try.isAgg114
  z39 := Try.sizeOf114
  v39 := Try.zeroValue114
  t45 := Try.underlying118
  a45 := Try.isAgg118
  z45 := Try.sizeOf118
  v45 := Try.zeroValue118
  t46 := Try.underlying119
  a46 := Try.isAgg119
  z46 := Try.sizeOf119
  v46 := Try.zeroValue119
  t50 := Try.underlying80
  a50 := Try.isAgg80
  z50 := Try.sizeOf80
  v50 := Try.zeroValue80
  t53 := Try.underlying125
  a53 := Try.isAgg125
  z53 := Try.sizeOf125
  v53 := Try.zeroValue125
  t55 := Try.underlying127
  a55 := Try.isAgg127
  z55 := Try.sizeOf127
  v55 := Try.zeroValue127
  t66 := Try.underlying133
  a66 := Try.isAgg133
  z66 := Try.sizeOf133
  v66 := Try.zeroValue133
  t70 := Try.underlying137
  a70 := Try.isAgg137
  z70 := Try.sizeOf137
  v70 := Try.zeroValue137
  t76 := Try.underlying141
  a76 := Try.isAgg141
  z76 := Try.sizeOf141
  v76 := Try.zeroValue141
  t77 := Try.underlying142
  a77 := Try.isAgg142
  z77 := Try.sizeOf142
  v77 := Try.zeroValue142

end Go.Proofs.Ytlpjkolocgkcpaa

namespace Go.Proofs.Ytlpjkolocgkcpaa
open Go.Shelf Go.RowKit Go.Lib Go.Sort
attribute [local go_sem ↓] Go.wp_at_zero Go.wp_at_succ

namespace G
instance : Inhabited Fr := ⟨⟨0, 0⟩⟩
def cmpF (x y : Fr) : Int := cmp x.at_ y.at_
theorem cmpF_neg (x y : Fr) : cmpF x y < 0 ↔ x.at_ < y.at_ := cmp_neg
end G
set_option maxHeartbeats 1600000 in
theorem cmpF_any (x y : G.Fr) (W : World) : Calls Try.prog 76 #[.agg #[.int .i64 x.at_, .int .i64 x.count], .agg #[.int .i64 y.at_, .int .i64 y.count]] W fun e w' => e = .returned (.int .i64 (G.cmpF x y)) ∧ ∃ q os', w' = grow (W.drewN q) os' := by
  have HC := hide (show G.cmpF x y = E.cmp x.at_ y.at_ from rfl)
  go_enter Try.func76, Try.ntmps76
  go_wp2_with (go_at_call 71; (with_reducible refine (compare_any x.at_ y.at_ _).mono ?_); rintro e w' ⟨rfl, rfl⟩)
  go_ret
  exact ⟨by rw [HC.out]; rfl, ((GB.refl W).alloc _ |>.alloc _).ex⟩

def fc (x : G.Fr) : List Value := [.int .i64 x.at_, .int .i64 x.count]
def flatF (xs : List G.Fr) : List Value := xs.flatMap fc
theorem flatF_length (xs : List G.Fr) : (flatF xs).length = xs.length * 2 := by
  induction xs with
  | nil => rfl
  | cons x r ih =>
    have : flatF (x :: r) = fc x ++ flatF r := rfl
    rw [this, List.length_append, ih, List.length_cons]
    show 2 + r.length * 2 = _
    omega
theorem flatF_app (l r : List G.Fr) : flatF (l ++ r) = flatF l ++ flatF r := by unfold flatF; simp
theorem flatF_one (xs : List G.Fr) : ∀ u ∈ flatF xs, u.oneCell' = true := by
  intro u hu
  simp only [flatF, fc, List.mem_flatMap, List.mem_cons, List.not_mem_nil, or_false] at hu
  obtain ⟨p, _, rfl | rfl⟩ := hu <;> rfl
theorem flatF_at : ∀ (xs : List G.Fr) (k : Nat) (x : G.Fr) (i : Nat), xs[k]? = some x → i < 2 → (flatF xs)[k * 2 + i]? = (fc x)[i]?
  | a :: r, 0, x, i, h, hi => by
    have hx : a = x := Option.some.inj h
    subst hx
    have : flatF (a :: r) = fc a ++ flatF r := rfl
    rw [this, List.getElem?_append_left (by show 0 * 2 + i < 2; omega)]
    congr 1
    omega
  | a :: r, k + 1, x, i, h, hi => by
    have : flatF (a :: r) = fc a ++ flatF r := rfl
    rw [this, List.getElem?_append_right (by show 2 ≤ (k + 1) * 2 + i; omega)]
    have e : (k + 1) * 2 + i - (fc a).length = k * 2 + i := by show (k + 1) * 2 + i - 2 = _; omega
    rw [e]
    exact flatF_at r k x i h hi
theorem flatK_flatF (d : Array G.Fr) : flatK fc 2 d = (flatF d.toList).toArray := by
  refine Array.ext_getElem? (fun t => ?_)
  rcases Nat.lt_or_ge t (d.size * 2) with h | h
  · have h5 : t / 2 < d.size := by omega
    have e1 : d.toList[t / 2]? = some d[t / 2] := by simp [h5]
    have e2 := flatF_at d.toList (t / 2) d[t / 2] (t % 2) e1 (by omega)
    rw [show t / 2 * 2 + t % 2 = t by omega] at e2
    have e4 : (flatK fc 2 d)[t]? = some ((flatK fc 2 d)[t]!) := by
      rw [getElem!_pos _ t (by simpa using h)]
      exact Array.getElem?_eq_getElem (by simpa using h)
    rw [e4, get_flatK _ _ _ _ h, getElem!_pos d (t / 2) h5]
    have e5 : (flatF d.toList).toArray[t]? = (flatF d.toList)[t]? := by simp
    rw [e5, e2]
    have h6 : t % 2 < (fc d[t / 2]).length := by show t % 2 < 2; omega
    rw [getElem!_pos (fc d[t / 2]) (t % 2) h6, List.getElem?_eq_getElem h6]
  · rw [Array.getElem?_eq_none (by simpa using h), Array.getElem?_eq_none (by simp [flatF_length]; omega)]

theorem own_slice {w : World} {base : Nat} {e : TypeId} {n m c size : Nat} {xs : List Value} {A : Option Addr} (h : w.ownsRow base e size (.slice A m c) n xs) (hn : 0 < n) : ∃ g, A = some ⟨g, 0, none⟩ ∧ m = n ∧ w.ownsRow base e size (.slice (some ⟨g, 0, none⟩) n c) n xs := by
  obtain ⟨h0, ⟨h1, h2⟩ | ⟨g, cap, cur, h1, r⟩⟩ := id h
  · omega
  · simp only [Value.slice.injEq] at h1
    obtain ⟨rfl, rfl, rfl⟩ := h1
    exact ⟨g, rfl, rfl, h⟩
theorem heap_sortedD {w : World} {g n : Nat} {os : Array Obj} {cur : Array Value} {e : TypeId} {fr : Nat × Nat} (d : Array Value) (hb : w.heap[g]? = some (.cells cur e fr)) :
    (grow (putRow id (Sort.ahead w n) g 0 d) os).heap[g]? = some (.cells (putCells id 0 d cur) e fr) := by
  have hg : g < w.heap.size := (Array.getElem?_eq_some_iff.1 hb).1
  rw [heap_grow_old _ _ (by simpa using hg)]
  simp [putRow, mapBlock, Sort.ahead, Array.getElem?_modify, hb, onCells]
theorem grownBy_sortedD {w : World} {g n : Nat} {os : Array Obj} (d : Array Value) : w.grownBy (grow (putRow id (Sort.ahead w n) g 0 d) os) (some g) := by
  refine ⟨rfl, rfl, rfl, by simp, fun k hk hne => ?_⟩
  rw [heap_grow_old _ _ (by simpa using hk)]
  have : g ≠ k := fun e => hne (by rw [e])
  simp [putRow, mapBlock, Sort.ahead, Array.getElem?_modify, this]
theorem take_putCellsD (cur : Array Value) (ts : List Value) (h : ts.length ≤ cur.size) : (putCells id 0 ts.toArray cur).toList.take ts.length = ts := by
  apply List.ext_getElem?
  intro j
  by_cases hj : j < ts.length
  · rw [List.getElem?_take_of_lt hj, Array.getElem?_toList]
    simp [putCells, hj, show j < cur.size by omega]
  · rw [List.getElem?_take_eq_none (by omega), List.getElem?_eq_none (by omega)]
theorem holds_of_blockD {w : World} {g : Nat} {cur : Array Value} {e : TypeId} {ss : List Value} (hb : w.heap[g]? = some (.cells cur e (0, 0))) (ht : cur.toList.take ss.length = ss) : Holds id w g 0 ss.toArray := by
  intro j hj
  have hj' : j < ss.length := by simpa using hj
  refine ⟨?_, by simp [World.frozen?, hb]⟩
  have h1 : (cur.toList.take ss.length)[j]? = ss[j]? := by rw [ht]
  rw [List.getElem?_take_of_lt hj'] at h1
  simp only [World.cell?, hb, Nat.zero_add]
  simp only [Option.isSome_none, Bool.false_eq_true, if_false]
  rw [← Array.getElem?_toList, h1]
  simp [hj']


theorem swoF : SWO (ltOf G.cmpF) where
  irrefl x := by
    unfold ltOf
    rw [decide_eq_false_iff_not, G.cmpF_neg]
    omega
  trans x y z h1 h2 := by
    unfold ltOf at *
    rw [decide_eq_true_eq, G.cmpF_neg] at *
    omega
  ntrans x y z h1 h2 := by
    unfold ltOf at *
    rw [decide_eq_false_iff_not, G.cmpF_neg] at *
    omega

theorem sortF_any (base : Nat) (A : Option Addr) (m c : Nat) (xs : List G.Fr) (W : World) (hown : W.ownsRow base 54 2 (.slice A m c) m (flatF xs)) (hlen : xs.length = m) (hx : m ≤ 1000) :
    Calls Try.prog 75 #[.slice A m c, .func (.func 76) #[] #[]] W fun e w' => e = .returned (.tuple #[]) ∧ ∃ ys : List G.Fr, ys.Perm xs ∧ ys.Pairwise (fun a b => a.at_ ≤ b.at_) ∧ w'.ownsRow base 54 2 (.slice A m c) m (flatF ys) ∧ W.grownBy w' (Value.slice A m c).ownBlock := by
  rcases A with _ | ad
  · have hm0 : m = 0 := by
      rcases Nat.eq_zero_or_pos m with h | h
      · exact h
      · obtain ⟨g, e, _⟩ := own_slice hown h
        cases e
    subst hm0
    have hx0 : xs = [] := List.length_eq_zero_iff.1 hlen
    subst hx0
    have hcon := AnyF.slices_SortFunc_none (P := Try.prog) (ρ := Try.sortFrees_ren) { Try.sortFrees with } none c (.func (.func 76) #[] #[]) W
    change Calls Try.prog 75 _ _ _ at hcon
    refine hcon.mono ?_
    rintro e w' ⟨rfl, rfl⟩
    exact ⟨rfl, [], List.Perm.refl _, List.Pairwise.nil, hown, World.grownBy.refl _ _⟩
  · obtain ⟨h0, ⟨h0', _⟩ | ⟨g, cap, cur, e, hbg, hblk, hcap, hcapm, hsz, htk⟩⟩ := id hown
    · cases h0'
    simp only [Value.slice.injEq, Option.some.injEq] at e
    obtain ⟨rfl, -, rfl⟩ := e
    have hgl : g < W.heap.size := blk_lt hblk
    have hds : (xs.toArray).size = m := by simp [hlen]
    have hH : HoldsK fc 2 W g 0 xs.toArray := by
      unfold HoldsK
      rw [flatK_flatF]
      refine holds_of_blockD hblk ?_
      rw [flatF_length, hlen]
      exact htk
    have eg : ∀ args w, (callFunc 76 args).run Try.prog w = .ok (.enter 76 args) w := enters_of Try.func76 (by kernel_rfl) rfl
    have hcmp : CmpLays Try.prog 76 #[] fc 2 G.cmpF g 0 (xs.toArray).size W := by
      intro q os dk hs x y
      exact (cmpF_any x y _)
    have hcon := AnyQ.slices_SortFunc Try.sortFrees 2 (Try.isAgg54) (Try.sizeOf54) fc (fun _ => rfl) (fun x v hv => by
      simp only [fc, List.mem_cons, List.not_mem_nil, or_false] at hv
      rcases hv with rfl | rfl <;> rfl) G.cmpF swoF 76 #[] g 0 c xs.toArray W eg hcmp hH hgl (by omega)
    change Calls Try.prog 75 _ _ _ at hcon
    rw [hds] at hcon
    refine hcon.mono ?_
    rintro e w' ⟨rfl, d', q, os, hp, hs, rfl⟩
    obtain ⟨hp1, _, hp3⟩ := hp
    have hd' : d'.size = m := by rw [hp1, hds]
    have hpl : d'.toList.Perm xs := by
      have e1 : (d'.extract 0 m).toList = d'.toList := by rw [← hd']; simp
      have e2 : ((xs.toArray).extract 0 m).toList = xs := by rw [← hds]; simp
      rw [e1, e2] at hp3
      exact hp3
    have hso : d'.toList.Pairwise fun x y => x.at_ ≤ y.at_ := by
      rw [List.pairwise_iff_getElem]
      intro i j hi hj hij
      have hi' : i < d'.size := by simpa using hi
      have hj' : j < d'.size := by simpa using hj
      have := hs i j (Nat.zero_le _) hij (by omega)
      unfold ltOf at this
      rw [decide_eq_false_iff_not, getElem!_pos d' j hj', getElem!_pos d' i hi', G.cmpF_neg] at this
      simp only [Array.getElem_toList]
      omega
    refine ⟨rfl, d'.toList, hpl, hso, ?_, ?_⟩
    · have e1 : sortWorldK fc 2 W g 0 q d' os = grow (putRow id (Sort.ahead W q) g 0 (flatF d'.toList).toArray) os := by
        unfold sortWorldK putRowK
        rw [flatK_flatF]
      have hfl : (flatF d'.toList).length = m * 2 := by rw [flatF_length, Array.length_toList, hd']
      rw [e1]
      exact ⟨hfl, .inr ⟨g, c, _, rfl, hbg, heap_sortedD _ hblk, hcap, hcapm, by simp [putCells, hsz], by rw [← hfl]; exact take_putCellsD cur _ (by rw [hfl, hsz]; exact Nat.mul_le_mul_right 2 hcap)⟩⟩
    · unfold sortWorldK putRowK
      exact grownBy_sortedD _


end Go.Proofs.Ytlpjkolocgkcpaa

namespace Go.Proofs.Ytlpjkolocgkcpaa
open Go.RowKit Go.Sort
attribute [local go_sem ↓] Go.wp_at_zero Go.wp_at_succ

namespace G
def idxF (p : Fr → Bool) (xs : List Fr) : Int := match xs.findIdx? p with | some i => (i : Int) | none => -1
theorem idxF_any (p : Fr → Bool) (xs : List Fr) : (0 ≤ idxF p xs) ↔ xs.any p = true := by
  unfold idxF
  cases h : xs.findIdx? p with
  | none =>
    rw [List.findIdx?_eq_none_iff] at h
    simp only [List.any_eq_true]
    constructor
    · intro h; omega
    · rintro ⟨x, hx, hp⟩; rw [h x hx] at hp; cases hp
  | some i =>
    rw [List.findIdx?_eq_some_iff_getElem] at h
    obtain ⟨hl, hp, _⟩ := h
    simp only [List.any_eq_true]
    exact ⟨fun _ => ⟨_, List.getElem_mem hl, hp⟩, fun _ => by omega⟩
theorem idxF_hit {p : Fr → Bool} {xs : List Fr} {k : Nat} {x : Fr} (h : ∀ j y, j < k → xs[j]? = some y → p y = false) (hk : xs[k]? = some x) (hx : p x = true) : idxF p xs = (k : Int) := by
  unfold idxF
  have : xs.findIdx? p = some k := by
    rw [List.findIdx?_eq_some_iff_getElem]
    obtain ⟨hl, he⟩ := List.getElem?_eq_some_iff.1 hk
    refine ⟨hl, by rw [he]; exact hx, fun j hj => ?_⟩
    have := h j _ hj (List.getElem?_eq_getElem (by omega))
    simpa using this
  rw [this]
theorem idxF_none {p : Fr → Bool} {xs : List Fr} (h : ∀ j y, j < xs.length → xs[j]? = some y → p y = false) : idxF p xs = -1 := by
  unfold idxF
  have : xs.findIdx? p = none := by
    rw [List.findIdx?_eq_none_iff]
    intro y hy
    obtain ⟨j, hj, rfl⟩ := List.getElem_of_mem hy
    exact h j _ hj (List.getElem?_eq_getElem hj)
  rw [this]
end G
set_option maxHeartbeats 1600000 in
theorem badFree_any (f : G.Fr) (w : World) : Calls Try.prog 72 #[.agg #[.int .i64 f.at_, .int .i64 f.count]] w fun e w' => e = .returned (.bool (!G.vFree f)) ∧ Below w.heap.size w w' := by
  obtain ⟨b, hb⟩ : ∃ b, Hid ((!G.vFree f) = b) := ⟨_, rfl⟩
  have hb' := hb.out
  unfold G.vFree at hb'
  cases h1 : G.vMin f.at_ <;> cases h2 : G.vSeats f.count <;>
    (rw [h1, h2] at hb'
     have hb2 : _ = b := hb'
     simp only [Bool.and_true, Bool.and_false, Bool.true_and, Bool.false_and, Bool.not_true, Bool.not_false] at hb2
     subst hb2
     have H1 := hide h1
     have H2 := hide h2
     clear h1 h2 hb'
     go_enter Try.func72, Try.ntmps72
     go_wp2_with (first | (go_at_call 63; (with_reducible refine (validMinute_any f.at_ _).mono ?_); rintro e w' ⟨rfl, rfl⟩; rw [H1.out]) | (go_at_call 66; (with_reducible refine (validSeats_any f.count _).mono ?_); rintro e w' ⟨rfl, rfl⟩; rw [H2.out]))
     go_ret
     exact ⟨by rw [hb.out]; rfl, by (repeat' first | exact zbR _ _ | assumption | refine zbD ?_ | refine zbA ?_ ?_ _ | refine zbS ?_ ?_ _ | refine zbT ?_ (by assumption) ?_ | (simp; done) | (simp; omega) | omega)⟩)

theorem indexF_any (g : Nat) (lb : Array Value) (eg : ∀ args w, (callFunc g args).run Try.prog w = .ok (.enter g args) w) (p : G.Fr → Bool) (K : World → Prop) (xs : List G.Fr)
    (hp : ∀ W x, x ∈ xs → K W → Calls Try.prog g (#[.agg #[.int .i64 x.at_, .int .i64 x.count]] ++ lb) W fun e W' => e = .returned (.bool (p x)) ∧ W.grownBy W' none) (hst : ∀ W W', K W → W.grownBy W' none → K W')
    (A : Option Addr) (n c : Nat) (w : World) (hn : xs.length = n) (hr : RdF w w.heap.size A xs) (hm : n ≤ 1000000) (hK : K w) :
    Calls Try.prog 85 #[.slice A n c, .func (.func g) #[] lb] w fun e w' => e = .returned (.int .i64 (G.idxF p xs)) ∧ w.grownBy w' none := by
  have HN := hide hn
  have HR := hide hr
  have HP := hide hp
  have HST := hide hst
  have HK := hide hK
  clear hn hr hp hst hK
  go_enter Try.func85, Try.ntmps85
  go_wp2_with fail
  go_loopw [8] (fun i wr => ∃ k : Nat, k ≤ n ∧ i = .int .i64 k ∧ Hid (∀ j y, j < k → xs[j]? = some y → p y = false) ∧ w.grownBy wr none) (fun i _ => n - (intOf i).toNat)
  case atStart => exact ⟨0, by omega, rfl, hide (fun j y hj => by omega), World.grownBy.refl _ _⟩
  case round =>
    obtain ⟨k, hk, rfl, HZ, hG⟩ := hrel
    have HB := hide (bel_of hG)
    have HG := hide hG
    clear hG
    by_cases hlt : k < n
    · obtain ⟨x, hx⟩ : ∃ q, xs[k]? = some q := ⟨_, List.getElem?_eq_getElem (by have := HN.out; omega)⟩
      obtain ⟨b, o, hA, hbB, c0, c1⟩ := (HR.out.below HB.out) k x hx
      subst hA
      have HX := hide hx
      clear hx
      have hlt' : (k : Int) < (n : Int) := by omega
      have hk0 : (0 : Int) ≤ (k : Int) := by omega
      have hc := HP.out wr x (List.mem_of_getElem? HX.out) (HST.out w wr HK.out HG.out)
      cases h0 : p x
      · rw [h0] at hc
        have HX0 := hide h0
        clear h0
        go_wp2_with (go_at_fn g; refine hc.mono ?_; rintro e w2 ⟨rfl, hg2⟩)
        go_roundw
        case rel => exact ⟨k + 1, by omega, by go_num, hide (fun j y hj hy => by
          rcases Nat.lt_or_ge j k with h | h
          · exact HZ.out j y h hy
          · have : j = k := by omega
            rw [this, HX.out] at hy
            rw [← Option.some.inj hy]; exact HX0.out), gr_trans HG.out hg2⟩
        case measure => simp [intOf]; omega
      · rw [h0] at hc
        have HX0 := hide h0
        clear h0
        go_wp2_with (go_at_fn g; refine hc.mono ?_; rintro e w2 ⟨rfl, hg2⟩)
        go_ret
        exact ⟨by rw [G.idxF_hit HZ.out HX.out HX0.out]; rfl, gr_trans HG.out hg2⟩
    · have hkn : k = n := by omega
      subst hkn
      go_wp2_with fail
      go_ret
      exact ⟨by rw [G.idxF_none (fun j y hj hy => HZ.out j y (by have := HN.out; omega) hy)]; rfl, HG.out⟩


set_option maxHeartbeats 1600000 in
theorem containsBadF_any (A : Option Addr) (n c : Nat) (xs : List G.Fr) (w : World) (hn : xs.length = n) (hr : RdF w w.heap.size A xs) (hm : n ≤ 1000000) :
    Calls Try.prog 73 #[.slice A n c, .func (.func 72) #[] #[]] w fun e w' => e = .returned (.bool (!xs.all G.vFree)) ∧ Below w.heap.size w w' := by
  have HI := hide (indexF_any 72 #[] (enters_of Try.func72 (by kernel_rfl) rfl) (fun f => !G.vFree f) (fun _ => True) xs (fun W x _ _ => (badFree_any x W).mono (fun e w' h => ⟨h.1, gr_of h.2⟩)) (fun _ _ _ _ => trivial) A n c w hn hr hm trivial)
  have hiff := G.idxF_any (fun f => !G.vFree f) xs
  obtain ⟨r, hr2⟩ : ∃ r, G.idxF (fun f => !G.vFree f) xs = r := ⟨_, rfl⟩
  rw [hr2] at HI hiff
  have ho : (!xs.all G.vFree) = decide (0 ≤ r) := by
    rw [Bool.eq_iff_iff, decide_eq_true_eq, hiff, List.not_all_eq_any_not]
  rw [ho]
  clear hr2 hiff ho hr hn hm
  by_cases h : 0 ≤ r
  · go_enter Try.func73, Try.ntmps73
    go_wp2_with (go_at_call 85; refine HI.out.mono ?_; rintro e w' ⟨rfl, hg⟩)
    go_ret
    exact ⟨by simp [h], bel_of hg⟩
  · have h' : r < 0 := by omega
    go_enter Try.func73, Try.ntmps73
    go_wp2_with (go_at_call 85; refine HI.out.mono ?_; rintro e w' ⟨rfl, hg⟩)
    go_ret
    exact ⟨by simp [h], bel_of hg⟩
end Go.Proofs.Ytlpjkolocgkcpaa

namespace Go.Proofs.Ytlpjkolocgkcpaa
open Go.RowKit Go.Sort
attribute [local go_sem ↓] Go.wp_at_zero Go.wp_at_succ

theorem fr_info : (Try.prog.info? 54).map (fun i => (i.zero, i.size, i.bytes)) = some (some (.agg #[.int .i64 0, .int .i64 0]), 2, 16) := by kernel_rfl
theorem RdF.cellAt {w : World} {B : Nat} {ad : Addr} {xs : List G.Fr} (h : RdF w B (some ad) xs) {j : Nat} {u : Value} (hj : (flatF xs)[j]? = some u) : w.cell? (ad.add j) = some u := by
  have hjl : j < xs.length * 2 := by have := (List.getElem?_eq_some_iff.1 hj).1; rwa [flatF_length] at this
  obtain ⟨x, hx⟩ : ∃ x, xs[j / 2]? = some x := ⟨_, List.getElem?_eq_getElem (by omega)⟩
  obtain ⟨b, o, e, _, c0, c1⟩ := h (j / 2) x hx
  have e' := Option.some.inj e
  subst e'
  rw [add_plain]
  have h2 := flatF_at xs (j / 2) x (j % 2) hx (by omega)
  rw [show j / 2 * 2 + j % 2 = j by omega, hj] at h2
  rcases (show j % 2 = 0 ∨ j % 2 = 1 by omega) with e | e
  · rw [e] at h2
    rw [show o + j = o + j / 2 * 2 by omega, c0]
    exact h2.symm
  · rw [e] at h2
    rw [show o + j = o + j / 2 * 2 + 1 by omega, c1]
    exact h2.symm
theorem run_app_Fs {w : World} (ty : TypeId) (base : Nat) (v : Value) (ps : List G.Fr) (m0 : Nat) (hown : w.ownsRow base 54 2 v m0 (flatF ps)) (hlen : ps.length = m0)
    (A : Option Addr) (n c : Nat) (xs : List G.Fr) (hn : xs.length = n) (hr : RdF w w.heap.size A xs) (hA : A = none → c = 0) (h0 : m0 ≤ 1000) (h1 : n ≤ 1000) (hbase : base ≤ w.heap.size) :
    ∃ A' c' w', (Builtin.append_ #[25, 25] ty #[v, .slice A n c]).run Try.prog w = .ok (.slice A' (m0 + n) c') w' ∧ w'.ownsRow base 54 2 (.slice A' (m0 + n) c') (m0 + n) (flatF (ps ++ xs)) ∧ w.grownBy w' v.ownBlock := by
  obtain ⟨i, hi, hz0, hz1, hz2⟩ := info_parts fr_info
  rcases A with _ | ad
  · have hx0 : xs = [] := by
      match xs, hr with
      | [], _ => rfl
      | x :: r, hr => obtain ⟨_, _, e, _⟩ := hr 0 x rfl; cases e
    subst hx0
    have hn0 : n = 0 := by simpa using hn.symm
    subst hn0
    have hc0 := hA rfl
    subst hc0
    obtain ⟨A', c', rfl⟩ := own_form hown
    have hrun := run_append_owned_none (P := Try.prog) (w := w) base 25 ty 54 i 2 Try.underlying25 hi (.slice A' m0 c') m0 (flatF ps) hown
    exact ⟨A', c', w, hrun, by simpa using hown, World.grownBy.refl w _⟩
  · obtain ⟨v', w', hrun, h2, h3, _, _⟩ := run_append_own_at (P := Try.prog) w base 25 ty 54 i _ 2 16 Try.underlying25 hi hz0 hz1 hz2 (by rfl) (by decide) v m0 (flatF ps) hown ad n c (flatF xs) (by rw [flatF_length, hn]) (by
      intro j u hj
      exact hr.cellAt hj) (flatF_one xs) (by unfold maxLen; omega) (by omega) hbase
    obtain ⟨A', c', rfl⟩ := own_form h2
    exact ⟨A', c', w', hrun, by rw [flatF_app]; exact h2, h3⟩
theorem wpList_app_Fs {w : World} {ops : Array Oper} {rest : List Oper} {o : Oper} {a : Act} {Q : Exit → Act → World → Prop} (hgd : o.guard = none) (s x : Operand)
    (ho : o.op = .call { callee := .builtin .append, args := #[s, x], argTypes := #[25, 25] }) (base : Nat) (v : Value) (ps : List G.Fr) (m0 : Nat) (hs : a.eval s = v) (hown : w.ownsRow base 54 2 v m0 (flatF ps)) (hlen : ps.length = m0)
    (A : Option Addr) (n c : Nat) (xs : List G.Fr) (hx : a.eval x = .slice A n c) (hn : xs.length = n) (hr : RdF w w.heap.size A xs) (hA : A = none → c = 0) (h0 : m0 ≤ 1000) (h1 : n ≤ 1000) (hbase : base ≤ w.heap.size) (N : Nat) (hN : m0 + n = N)
    (h : ∀ A' c' w', w'.ownsRow base 54 2 (.slice A' N c') N (flatF (ps ++ xs)) → w.grownBy w' v.ownBlock → wpList Try.prog ops Q rest (a.put o.dst (.slice A' N c')) w') :
    wpList Try.prog ops Q (o :: rest) a w := by
  subst hN
  refine wpList_plain hgd fun K hK => ?_
  obtain ⟨A', c', w', hr', h2, h3⟩ := run_app_Fs o.type base v ps m0 hown hlen A n c xs hn hr hA h0 h1 hbase
  unfold Oper.wp execOp
  simp only [ho, resolve, invoke, builtin, Sem.run_bind, Sem.run_pure, Result.andThen_ok, List.map_toArray, List.map_cons, List.map_nil, hs, hx, hr']
  exact hK _ _ (h A' c' w' h2 h3)
theorem ownsF_empty {w : World} {q B : Nat} (hq : w.heap[q]? = some (.cells #[] 54 (0, 0))) (h : B ≤ q) : w.ownsRow B 54 2 (.slice (some ⟨q, 0, Option.none⟩) 0 0) 0 (flatF []) :=
  ⟨rfl, .inr ⟨q, 0, #[], rfl, h, hq, Nat.le_refl _, Nat.zero_le _, rfl, rfl⟩⟩
theorem ownsF_nil (w : World) (B : Nat) : w.ownsRow B 54 2 (.slice Option.none 0 0) 0 (flatF []) := ⟨rfl, .inl ⟨rfl, rfl⟩⟩
theorem owns_RdF {w : World} {base : Nat} {A : Option Addr} {n c : Nat} {xs : List G.Fr} (h : w.ownsRow base 54 2 (.slice A n c) n (flatF xs)) (hn : xs.length = n) : RdF w w.heap.size A xs := by
  intro k x hk
  have hkl : k < n := by rw [← hn]; exact (List.getElem?_eq_some_iff.1 hk).1
  obtain ⟨g, rfl, _, h'⟩ := own_slice h (by omega)
  have c : ∀ i, i < 2 → w.cell? ⟨g, 0 + k * 2 + i, none⟩ = (fc x)[i]? := fun i hi => by
    rw [Nat.zero_add, h'.cellAt (k * 2 + i) (by omega)]
    exact flatF_at xs k x i hk hi
  exact ⟨g, 0, rfl, (h'.lt g rfl).2, c 0 (by omega), c 1 (by omega)⟩

set_option maxRecDepth 100000 in
theorem cloneF_any (A : Option Addr) (n c : Nat) (xs : List G.Fr) (w : World) (hn : xs.length = n) (hr : RdF w w.heap.size A xs) (hA : A = none → c = 0) (hm : n ≤ 1000) :
    Calls Try.prog 74 #[.slice A n c] w fun e w' => ∃ A' c', e = .returned (.slice A' n c') ∧ w'.ownsRow w.heap.size 54 2 (.slice A' n c') n (flatF xs) ∧ Below w.heap.size w w' := by
  have q22 : ∀ (w : World) (a : Option Addr) (n c n' c' : Nat), (binOp .eql 25 (.slice a n c) (.slice none n' c')).run Try.prog w = .ok (.bool a.isNone) w := fun w a n c n' c' => Lib.run_eql_slice_nil w _ _ a n c n' c' Try.underlying25
  rcases A with _ | a
  · have hx : xs = [] := by
      match xs, hr with
      | [], _ => rfl
      | x :: r, hr => obtain ⟨_, _, e, _⟩ := hr 0 x rfl; cases e
    subst hx
    have hn0 : n = 0 := by simpa using hn.symm
    subst hn0
    have hc := hA rfl
    subst hc
    clear hm hA hr hn
    go_enter Try.func74, Try.ntmps74
    go_wp2_with fail
    go_ret
    exact ⟨none, 0, rfl, ownsF_nil _ _, by (repeat' first | exact zbR _ _ | assumption | refine zbD ?_ | refine zbA ?_ ?_ _ | refine zbS ?_ ?_ _ | refine zbT ?_ (by assumption) ?_ | (simp; done) | (simp; omega) | omega)⟩
  · have HN := hide hn
    have HR := hide hr
    have HM := hide hm
    clear hn hr hA hm
    go_enter Try.func74, Try.ntmps74
    go_wp2_with (at_builtin; refine wpList_app_Fs rfl (.tmp 5) (.tmp 6) rfl w.heap.size _ [] 0 rfl (ownsF_empty (World.alloc_heap_new _ _) (Nat.le_refl _)) rfl (some a) n c xs rfl HN.out ((HR.out.below (by (repeat' first | exact zbR _ _ | assumption | refine zbD ?_ | refine zbA ?_ ?_ _ | refine zbS ?_ ?_ _ | refine zbT ?_ (by assumption) ?_ | (simp; done) | (simp; omega) | omega))).mono (by simp)) (fun e => by cases e) (by omega) HM.out (by simp) n (by omega) ?_; intro A2 c2 w9 hown2 hgrow)
    go_ret
    have hb : Below w.heap.size (w.alloc (.cells #[] 54)) w9 := grown_below hgrow (by simp) (fun g hg => by
      have h : some w.heap.size = some g := hg
      have := Option.some.inj h
      omega)
    exact ⟨A2, c2, rfl, by simpa using hown2, (show Below w.heap.size w (w.alloc (.cells #[] 54)) by (repeat' first | exact zbR _ _ | assumption | refine zbD ?_ | refine zbA ?_ ?_ _ | refine zbS ?_ ?_ _ | refine zbT ?_ (by assumption) ?_ | (simp; done) | (simp; omega) | omega)).trans hb⟩
end Go.Proofs.Ytlpjkolocgkcpaa

namespace Go.Proofs.Ytlpjkolocgkcpaa
open Go.RowKit Go.Shelf

structure Keeps (S : Nat → Prop) (W W' : World) : Prop where
  rest : Below 0 W W'
  same : ∀ k, S k → k < W.heap.size → W'.heap[k]? = W.heap[k]?
theorem Keeps.refl (S : Nat → Prop) (W : World) : Keeps S W W := ⟨Below.refl 0 W, fun _ _ _ => rfl⟩
theorem Keeps.trans {S : Nat → Prop} {A B C : World} (h : Keeps S A B) (k : Keeps S B C) : Keeps S A C :=
  ⟨h.rest.trans k.rest, fun i hS hi => (k.same i hS (Nat.lt_of_lt_of_le hi h.rest.size)).trans (h.same i hS hi)⟩
theorem Keeps.less {S T : Nat → Prop} {A B : World} (h : Keeps S A B) (hT : ∀ k, T k → S k) : Keeps T A B := ⟨h.rest, fun k hk => h.same k (hT k hk)⟩
theorem Keeps.of_below {S : Nat → Prop} {A B : World} (h : Below A.heap.size A B) : Keeps S A B := ⟨h.mono (Nat.zero_le _), fun k _ hk => h.block k hk⟩
theorem Keeps.below {S : Nat → Prop} {A B : World} (h : Keeps S A B) {n : Nat} (hn : ∀ k, k < n → S k) (hA : n ≤ A.heap.size) : Below n A B :=
  ⟨h.rest.os, h.rest.tape, h.rest.output, h.rest.size, fun k hk => h.same k (hn k hk) (Nat.lt_of_lt_of_le hk hA)⟩
theorem Keeps.turn {S : Nat → Prop} {l : Nat} {W : World} (o : Obj) (h : ¬ S l) (hl : l < W.heap.size) : Keeps S W (W.putObj l o) :=
  ⟨(Below.refl 0 W).grown (grownBy_putObj' W l o) (Nat.zero_le _) (fun _ _ => Nat.zero_le _), fun k hk _ => World.putObj_heap_other (fun e => h (e ▸ hk))⟩
theorem Keeps.set {S : Nat → Prop} {b : Nat} (W : World) (v : Value) (h : ¬ S b) : Keeps S W (W.setCell ⟨b, 0, none⟩ v) :=
  ⟨(Below.refl 0 W).setCell (Nat.zero_le _) _, fun k hk _ => Below.heap_setCell _ _ _ k (fun e => h (by rw [show b = k from e.symm]; exact hk))⟩
theorem Keeps.setAt {S : Nat → Prop} (W : World) (a : Addr) (v : Value) (h : ¬ S a.block) : Keeps S W (W.setCell a v) :=
  ⟨(Below.refl 0 W).setCell (Nat.zero_le _) _, fun k hk _ => Below.heap_setCell _ _ _ k (fun e => h (by rw [show a.block = k from e.symm]; exact hk))⟩
theorem Keeps.alloc {S : Nat → Prop} {A B : World} (h : Keeps S A B) (o : Obj) : Keeps S A (B.alloc o) := h.trans (Keeps.of_below ((Below.refl _ B).alloc (Nat.le_refl _) o))
theorem Keeps.cell {S : Nat → Prop} {A B : World} (h : Keeps S A B) {b o : Nat} (hS : S b) (hb : b < A.heap.size) : B.cell? ⟨b, o, none⟩ = A.cell? ⟨b, o, none⟩ := World.cell?_of_block (h.same b hS hb)
theorem Keeps.frozen {S : Nat → Prop} {A B : World} (h : Keeps S A B) {b o : Nat} (hS : S b) (hb : b < A.heap.size) : B.frozen? ⟨b, o, none⟩ = A.frozen? ⟨b, o, none⟩ := World.frozen?_of_block (h.same b hS hb)
theorem keeps_own {β : Type} {S : Nat → Prop} {A : World} {B : Nat} (hB : A.heap.size ≤ B) : OwnFrom B (fun (_ : β) W => Keeps S A W) := fun _ X Y row h hg hr =>
  ⟨h.rest.grown hg (Nat.zero_le _) (fun _ _ => Nat.zero_le _), fun k hS hk => (hg.block k (Nat.lt_of_lt_of_le hk h.rest.size) (fun e => by have := (hr k e.symm).1; omega)).trans (h.same k hS hk)⟩

def YieldT (P : Program) (l : Nat) (args : Array Value) (W : World) (R : Ending → World → Prop) : Prop := ∀ m, YieldAt Fence.wide m P l args W R
theorem YieldT.of {P : Program} {l m : Nat} {args : Array Value} {W : World} {R : Ending → World → Prop} (h : YieldAt Fence.wide m P l args W R) : YieldT P l args W R := fun m' => by
  obtain ⟨fn, tmps, assign, body, hy, hR⟩ := h
  exact ⟨fn, tmps, assign, body, hy, hR.1, fun c cs _ => hR.2 c cs (room_wide _)⟩

def postT {α : Type} (S : Nat → Prop) (I : List α → World → Prop) (Ix : Code → List α → World → Prop) (xs : List α) (W : World) : Exit → Act → World → Prop
  | .normal, _, W' => Keeps S W W' ∧ I xs W'
  | .ret, _, W' => Keeps S W W' ∧ Ix .ret xs W'
  | .exit id, _, W' => Keeps S W W' ∧ Ix (.exit id) xs W'
  | .goto t, _, W' => Keeps S W W' ∧ Ix (.goto t) xs W'
  | .panic _, _, _ => False
  | .outgrown, _, _ => False

theorem calls_marks {P : Program} {f : FuncId} {fn : Func} {c : Code} {args : Array Value} {w : World} {R : Ending → World → Prop} (hf : P.funcs[f]? = some fn) (hb : fn.body = some c)
    (h : c.wp P (bodyPostM Fence.wide 9 P fn R) { tmps := args ++ Array.replicate (fn.ntmps - args.size) undef, defers := [] } w) : Calls P f args w R :=
  (callsIn_wide (n := 9)).1 (callsIn_of_wp_marks hf hb trivial (wpIn_wide.2 h) rfl)

end Go.Proofs.Ytlpjkolocgkcpaa

namespace Go.Proofs.Ytlpjkolocgkcpaa
open Go.RowKit Go.Shelf

def SeqU {α β : Type} (P : Program) (g : Nat) (fb lb : Array Value) (encs : β → Array Value) (E : α → β → Nat → World → Prop) (xs : List α) (S : Nat → Prop) (w : World) : Prop :=
  ∀ (l : Nat) (J Jx : List α → World → Prop) (W : World), Below w.heap.size w W → OwnFrom W.heap.size J → OwnFrom W.heap.size Jx →
    (∀ pre x y W0 W1, J pre W0 → Below W0.heap.size W0 W1 → E x y W0.heap.size W1 → W.heap.size < W1.heap.size → (pre ++ [x]) <+: xs → YieldT P l (encs y) W1 fun e W' => Keeps (fun k => S k ∨ (W.heap.size ≤ k ∧ k < W.heap.size + 1)) W1 W' ∧
      ((e = .returned (.bool true) ∧ J (pre ++ [x]) W') ∨ (e = .returned (.bool false) ∧ Jx (pre ++ [x]) W'))) →
    J [] W →
    Calls P g (fb ++ #[.func (.yield l) #[] #[]] ++ lb) W fun e W' => (∃ v, e = .returned v) ∧ (J xs W' ∨ ∃ pre, pre <+: xs ∧ Jx pre W')

theorem wp_rangeU {α β : Type} {P : Program} {g : Operand} {ps : Array Tmp} {assign body : Code} {Q : Exit → Act → World → Prop} {a : Act} {w w0 : World} {n gf : Nat} {S : Nat → Prop} {fb lb : Array Value} {encs : β → Array Value} {E : α → β → Nat → World → Prop} {xs : List α}
    (hg : a.eval g = .func (.func gf) fb lb) (eg : ∀ args w, (callFunc gf args).run P w = .ok (.enter gf args) w)
    (hseq : SeqU P gf fb lb encs E xs S w0) (hb0 : Below w0.heap.size w0 w) (hS : ∀ k, S k → k < w.heap.size) (hps : ∀ x, (encs x).size = ps.size) (hE : ∀ y B, OwnFrom w.heap.size (fun x W => E x y B W))
    (I : List α → World → Prop) (Ix : Code → List α → World → Prop) (hI : OwnFrom w.heap.size I) (hIx : ∀ c, OwnFrom w.heap.size (Ix c)) (h0 : I [] w) (a₁ : β → Act)
    (hassign : ∀ (l : Nat) (x : β) (W : World) (K : Act → World → Prop), K (a₁ x) W →
      assign.wpIn (Fence.wide.inRound l) n P (Exit.then K (fun _ _ _ => False)) { tmps := (ps.zip (encs x)).foldl (fun t (p, v) => t.setIfInBounds p v) a.tmps, defers := [] } W)
    (hbody : ∀ (l : Nat) (pre : List α) (x : α) (y : β) (W0 W : World), I pre W0 → I pre W → (∀ a v, W0.cell? a = some v → W.cell? a = some v) → E x y W0.heap.size W → w.heap.size + 3 ≤ W.heap.size → (pre ++ [x]) <+: xs → body.wpIn (Fence.wide.inRound l) n P (postT (fun k => S k ∨ (w.heap.size ≤ k ∧ k < w.heap.size + 3)) I Ix (pre ++ [x]) W) (a₁ y) W)
    (hdone : ∀ (D : Nat) (W : World), w.heap.size ≤ D → I xs W → W.heap[D]? = some (.deferred (some [])) → Q .normal { a with defers := { target := .collected D, args := #[] } :: a.defers } W)
    (hstop : ∀ (D : Nat) (c : Code) (pre : List α) (W : World), w.heap.size ≤ D → pre <+: xs → Ix c pre W → W.heap[D]? = some (.deferred (some [])) → c.wpIn Fence.wide n P Q { a with defers := { target := .collected D, args := #[] } :: a.defers } W) :
    (Code.rangeFunc g ps assign body).wpIn Fence.wide n P Q a w := by
  refine wpIn_rangeFunc ?_
  intro fn hfn
  have hro : Fence.wide.round = none := rfl
  rw [hro]
  generalize hB : w.heap.size = B at *
  obtain ⟨rec, hrec⟩ : ∃ rec : LoopState → Option Code → Loop, rec = fun st pe => { state := st, pending := pe, fn, tmps := a.tmps, params := ps, assign, body, defers := B } := ⟨_, rfl⟩
  obtain ⟨V, hV⟩ : ∃ V, (w.alloc (.deferred (some []))).alloc (.loop (rec .ready none)) = V := ⟨_, rfl⟩
  have hVs : V.heap.size = B + 2 := by rw [← hV]; simp [hB]
  have hL : V.heap[B + 1]? = some (.loop (rec .ready none)) := by
    rw [← hV]; have := World.alloc_heap_new (w.alloc (.deferred (some []))) (.loop (rec .ready none)); rwa [World.size_alloc, hB] at this
  have hD : V.heap[B]? = some (.deferred (some [])) := by
    rw [← hV, ← hB]; exact (Below.heap_alloc _ _ _ (by simp)).trans (World.alloc_heap_new w _)
  have hIV : I [] V := by rw [← hV]; exact hI.alloc _ (hI.alloc _ h0)
  have hbV : Below w0.heap.size w0 V := by
    rw [← hV]; exact hb0.trans ((((Below.refl _ w).alloc (Nat.le_refl _) _).alloc (by simp) _).mono hb0.size)
  have hrun := run_enterLoop_outer (P := P) (w := w) fn a.tmps ps assign body
  rw [hB] at hrun
  refine ⟨B + 1, _, V, { target := .fn (.func gf) lb, args := fb ++ #[.func (.yield (B + 1)) #[] #[]] }, V, gf, fb ++ #[.func (.yield (B + 1)) #[] #[]] ++ lb, V, (by rw [← hV, hrec]; exact hrun), (by simp only [resolve, hg]; simp [go_sem]), fun _ _ => trivial, (by simp [invoke, go_sem, eg]), fun h => (by cases h), ?_⟩
  refine (callsIn_wide.2 (hseq (B + 1)
    (fun pre W => I pre W ∧ W.heap[B + 1]? = some (.loop (rec .ready none)) ∧ W.heap[B]? = some (.deferred (some [])))
    (fun pre W => ∃ c, Ix c pre W ∧ W.heap[B + 1]? = some (.loop (rec .done (some c))) ∧ W.heap[B]? = some (.deferred (some [])))
    V hbV ?_ ?_ ?_ ⟨hIV, hL, hD⟩)).mono ?_
  · rintro s X Y row ⟨h1, h2, h3⟩ hg' hr
    have keep : ∀ (k : Nat), k < B + 2 → ∀ o : Obj, X.heap[k]? = some o → Y.heap[k]? = some o := fun k hk o ho => (hg'.block k (Array.getElem?_eq_some_iff.1 ho).1 (fun e => by have := (hr k e.symm).1; omega)).trans ho
    exact ⟨hI s X Y row h1 hg' (fun r e => ⟨by have := (hr r e).1; omega, (hr r e).2⟩), keep _ (by omega) _ h2, keep _ (by omega) _ h3⟩
  · rintro s X Y row ⟨c, h1, h2, h3⟩ hg' hr
    have keep : ∀ (k : Nat), k < B + 2 → ∀ o : Obj, X.heap[k]? = some o → Y.heap[k]? = some o := fun k hk o ho => (hg'.block k (Array.getElem?_eq_some_iff.1 ho).1 (fun e => by have := (hr k e.symm).1; omega)).trans ho
    exact ⟨c, hIx c s X Y row h1 hg' (fun r e => ⟨by have := (hr r e).1; omega, (hr r e).2⟩), keep _ (by omega) _ h2, keep _ (by omega) _ h3⟩
  · rintro pre x y X0 X ⟨hi0, hl0, hd0⟩ hb0X he hz3 hpre
    have hg0X : X0.grownBy X none := ⟨hb0X.os, hb0X.tape, hb0X.output, hb0X.size, fun i hi _ => hb0X.block i hi⟩
    have hi : I pre X := hI _ _ _ none hi0 hg0X (fun r e => by cases e)
    have hl := (hb0X.block _ (Array.getElem?_eq_some_iff.1 hl0).1).trans hl0
    have hd := (hb0X.block _ (Array.getElem?_eq_some_iff.1 hd0).1).trans hd0
    have hc0 : ∀ (a : Addr) (v : Value), X0.cell? a = some v → a.block ≠ B + 1 ∧ X.cell? a = some v := fun a v hc => by
      have hlt : a.block < X0.heap.size := by
        rcases Nat.lt_or_ge a.block X0.heap.size with h | h
        · exact h
        · unfold World.cell? at hc; rw [Array.getElem?_eq_none h] at hc; simp at hc
      refine ⟨fun e => ?_, (World.cell?_of_block (hb0X.block _ hlt)).trans hc⟩
      unfold World.cell? at hc
      rw [e, hl0] at hc
      simp at hc
    refine YieldT.of (m := n) ?_
    have hy := run_yield (P := P) (args := encs y) hl (by rw [hrec]; exact hps y)
    have hlt : B + 1 < X.heap.size := (Array.getElem?_eq_some_iff.1 hl).1
    rw [hrec] at hy
    refine ⟨fn, _, assign, body, hy, roundIn_of_wpIn hfn (hassign _ y X _ ⟨_, run_beginRound hl (by rw [hrec]), ?_⟩)⟩
    clear hy
    obtain ⟨busy, hbusy⟩ : ∃ busy, X.putObj (B + 1) (.loop { rec .ready none with state := .busy }) = busy := ⟨_, rfl⟩
    rw [hbusy]
    have hl2 : busy.heap[B + 1]? = some (.loop { rec .ready none with state := .busy }) := by rw [← hbusy]; exact World.putObj_heap_same hlt
    have hd2 : busy.heap[B]? = some (.deferred (some [])) := by rw [← hbusy]; exact (World.putObj_heap_other (by omega)).trans hd
    have hSl : ¬ (S (B + 1) ∨ (V.heap.size ≤ B + 1 ∧ B + 1 < V.heap.size + 1)) := fun h => h.elim (fun h => by have := hS _ h; omega) (fun h => by omega)
    have hk2 : Keeps (fun k => S k ∨ (V.heap.size ≤ k ∧ k < V.heap.size + 1)) X busy := by rw [← hbusy]; exact Keeps.turn _ hSl hlt
    have hi2 : I pre busy := by rw [← hbusy]; exact hI.putObj _ hi (by omega) hl rfl
    have he2 : E x y X0.heap.size busy := by rw [← hbusy]; exact (hE y _).putObj _ he (by omega) hl rfl
    have hc2 : ∀ (a : Addr) (v : Value), X0.cell? a = some v → busy.cell? a = some v := fun a v hc => by rw [← hbusy]; exact (World.cell?_of_block (World.putObj_heap_other (hc0 a v hc).1)).trans (hc0 a v hc).2
    refine wpIn_mono (hbody _ pre x y X0 busy hi0 hi2 hc2 he2 (by rw [← hbusy]; simp; omega) hpre) ?_
    have fin : ∀ (jump : Option Code) (Y : World), Keeps (fun k => S k ∨ (B ≤ k ∧ k < B + 3)) busy Y → ∃ Z, Z = Y.putObj (B + 1) (.loop (rec (if jump.isNone then .ready else .done) jump)) ∧ (Instr.endRound (B + 1) jump).run P Y = .ok (.bool jump.isNone) Z ∧
        Y.heap[B + 1]? = some (.loop { rec .ready none with state := .busy }) ∧ Z.heap[B + 1]? = some (.loop (rec (if jump.isNone then .ready else .done) jump)) ∧ Z.heap[B]? = some (.deferred (some [])) ∧ Keeps (fun k => S k ∨ (V.heap.size ≤ k ∧ k < V.heap.size + 1)) X Z := fun jump Y hk => by
      have hl3 := (hk.same (B + 1) (.inr (by omega)) (Array.getElem?_eq_some_iff.1 hl2).1).trans hl2
      have hlt3 := (Array.getElem?_eq_some_iff.1 hl3).1
      have hr := run_endRound (P := P) jump hl3
      rw [hrec] at hr
      refine ⟨_, rfl, by rw [hrec]; exact hr, hl3, World.putObj_heap_same hlt3, (World.putObj_heap_other (by omega)).trans ((hk.same B (.inr (by omega)) (Array.getElem?_eq_some_iff.1 hd2).1).trans hd2), (hk2.trans (hk.less (fun k h => h.imp id (fun h => by omega)))).trans (Keeps.turn _ hSl hlt3)⟩
    rintro e a3 Y hp
    cases e with
    | normal =>
      obtain ⟨hk, hiY⟩ := hp
      obtain ⟨Z, hZ, hr, h3, h4, h5, h6⟩ := fin none Y hk
      exact ⟨_, Z, hr, h6, .inl ⟨rfl, by rw [hZ]; exact hI.putObj _ hiY (by omega) h3 rfl, h4, h5⟩⟩
    | ret =>
      obtain ⟨hk, hiY⟩ := hp
      obtain ⟨Z, hZ, hr, h3, h4, h5, h6⟩ := fin (some .ret) Y hk
      exact ⟨_, Z, hr, h6, .inr ⟨rfl, _, by rw [hZ]; exact (hIx _).putObj _ hiY (by omega) h3 rfl, h4, h5⟩⟩
    | exit id =>
      obtain ⟨hk, hiY⟩ := hp
      obtain ⟨Z, hZ, hr, h3, h4, h5, h6⟩ := fin (some (.exit id)) Y hk
      exact ⟨_, Z, hr, h6, .inr ⟨rfl, _, by rw [hZ]; exact (hIx _).putObj _ hiY (by omega) h3 rfl, h4, h5⟩⟩
    | goto t =>
      obtain ⟨hk, hiY⟩ := hp
      obtain ⟨Z, hZ, hr, h3, h4, h5, h6⟩ := fin (some (.goto t)) Y hk
      exact ⟨_, Z, hr, h6, .inr ⟨rfl, _, by rw [hZ]; exact (hIx _).putObj _ hiY (by omega) h3 rfl, h4, h5⟩⟩
    | panic ch => exact hp.elim
    | outgrown => exact hp.elim
  · rintro e W2 ⟨⟨v, rfl⟩, (⟨hi, hl, hk⟩ | ⟨pre, hpre, c, hi, hl, hk⟩)⟩
    · exact ⟨none, _, by have := run_endLoop (P := P) hl (by rw [hrec]; simp); rw [hrec] at this; exact this, hdone _ _ (Nat.le_refl _) (hI.putObj _ hi (by omega) hl rfl) ((World.putObj_heap_other (by omega)).trans hk)⟩
    · exact ⟨some c, _, by have := run_endLoop (P := P) hl (by rw [hrec]; simp); rw [hrec] at this; exact this, hstop _ c pre _ (Nat.le_refl _) hpre ((hIx c).putObj _ hi (by omega) hl rfl) ((World.putObj_heap_other (by omega)).trans hk)⟩

theorem wp_rangeQ {α β : Type} {P : Program} {g : Operand} {ps : Array Tmp} {assign body : Code} {Q : Exit → Act → World → Prop} {a : Act} {w w0 : World} {gf : Nat} {S : Nat → Prop} {fb lb : Array Value} {encs : β → Array Value} {E : α → β → Nat → World → Prop} {xs : List α}
    (hg : a.eval g = .func (.func gf) fb lb) (eg : ∀ args w, (callFunc gf args).run P w = .ok (.enter gf args) w)
    (hseq : SeqU P gf fb lb encs E xs S w0) (hb0 : Below w0.heap.size w0 w) (hS : ∀ k, S k → k < w.heap.size) (hps : ∀ x, (encs x).size = ps.size) (hE : ∀ y B, OwnFrom w.heap.size (fun x W => E x y B W))
    (I : List α → World → Prop) (Ix : Code → List α → World → Prop) (hI : OwnFrom w.heap.size I) (hIx : ∀ c, OwnFrom w.heap.size (Ix c)) (h0 : I [] w) (a₁ : β → Act)
    (hassign : ∀ (l : Nat) (x : β) (W : World) (K : Act → World → Prop), K (a₁ x) W →
      assign.wpIn (Fence.wide.inRound l) 9 P (Exit.then K (fun _ _ _ => False)) { tmps := (ps.zip (encs x)).foldl (fun t (p, v) => t.setIfInBounds p v) a.tmps, defers := [] } W)
    (hbody : ∀ (l : Nat) (pre : List α) (x : α) (y : β) (W0 W : World), I pre W0 → I pre W → (∀ a v, W0.cell? a = some v → W.cell? a = some v) → E x y W0.heap.size W → w.heap.size + 3 ≤ W.heap.size → (pre ++ [x]) <+: xs → body.wpIn (Fence.wide.inRound l) 9 P (postT (fun k => S k ∨ (w.heap.size ≤ k ∧ k < w.heap.size + 3)) I Ix (pre ++ [x]) W) (a₁ y) W)
    (hdone : ∀ (D : Nat) (W : World), w.heap.size ≤ D → I xs W → W.heap[D]? = some (.deferred (some [])) → Q .normal { a with defers := { target := .collected D, args := #[] } :: a.defers } W)
    (hstop : ∀ (D : Nat) (c : Code) (pre : List α) (W : World), w.heap.size ≤ D → pre <+: xs → Ix c pre W → W.heap[D]? = some (.deferred (some [])) → c.wp P Q { a with defers := { target := .collected D, args := #[] } :: a.defers } W) :
    (Code.rangeFunc g ps assign body).wp P Q a w :=
  (wpIn_wide (n := 9)).1 (wp_rangeU hg eg hseq hb0 hS hps hE I Ix hI hIx h0 a₁ hassign hbody hdone (fun D c pre W h1 h2 h3 h4 => wpIn_wide.2 (hstop D c pre W h1 h2 h3 h4)))

end Go.Proofs.Ytlpjkolocgkcpaa

namespace Go.Proofs.Ytlpjkolocgkcpaa
open Go.RowKit
attribute [local go_sem ↓] Go.wp_at_zero Go.wp_at_succ

set_option maxHeartbeats 1600000 in
theorem gone_any (g bm bq : Nat) (q : G.Qu) (gv fv nv ov : Value) (rate mi pa fr qt : Int) (fd : Nat) (W : World) (hg : MomAt W g q gv fv nv ov rate mi pa fr fd) (hm : W.cell? ⟨bm, 0, none⟩ = some (.pointer (some ⟨g, 0, none⟩))) (hq : W.cell? ⟨bq, 0, none⟩ = some (.int .i64 qt)) :
    Calls Try.prog 77 #[.pointer (some ⟨bm, 0, none⟩), .pointer (some ⟨bq, 0, none⟩)] W fun e w' => e = .returned (.bool (decide (qt ≤ mi))) ∧ ∃ k, w' = W.drewN k := by
  have c9 : W.cell? ⟨g, 9, none⟩ = some (.int .i64 mi) := (blk_cell hg 9).trans rfl
  have z := blk_lt hg
  clear hg
  go_enter Try.func77, Try.ntmps77
  go_upto_region 1 with fail
  go_quiet (fail)
  go_wp2
  go_ret
  exact ⟨rfl, _, rfl⟩

theorem wrap_ok {x : Int} (h0 : -1000000000 ≤ x) (h1 : x ≤ 1000000000) : IntKind.i64.wrap x = x := IntWalk.i64_in _ (by omega)
def PassPost (w : World) (g : Nat) (q : G.Qu) (gv fv nv ov : Value) (fs : List G.Fr) (rate mi pa fr v : Int) (fd : Nat) (e : Ending) (w' : World) : Prop :=
  e = .returned (.int .i64 v) ∧ MomAt w' g q gv fv nv ov rate mi pa (fr + G.cnts (G.comes fs fd mi)) (fd + (G.comes fs fd mi).length) ∧ w.grownBy w' (some g)
set_option maxHeartbeats 6400000 in
set_option maxRecDepth 100000 in
theorem pass_any (g : Nat) (q : G.Qu) (gv nv ov : Value) (F : Option Addr) (m d : Nat) (fs : List G.Fr) (rate mi pa fr people : Int) (fd : Nat) (W : World) (hg : MomAt W g q gv (.slice F m d) nv ov rate mi pa fr fd) (hl : fs.length = m) (hr : RdF W g F fs) (hm : m ≤ 1000) (hfd : fd ≤ m) (hv : ∀ f ∈ fs, 0 ≤ f.count ∧ f.count ≤ 9999) (h0 : -1000000 ≤ fr) (h1 : fr ≤ 100000000) (hmi : 0 ≤ mi) (hmi2 : mi ≤ 100000) (hr0 : 1 ≤ rate) (hr1 : rate ≤ 1000) (hp0 : 0 ≤ pa) (hp1 : pa ≤ 1000) (hn0 : 1 ≤ people) (hn1 : people ≤ 1000) :
    Calls Try.prog 80 #[.pointer (some ⟨g, 0, none⟩), .int .i64 people] W (PassPost W g q gv (.slice F m d) nv ov fs rate (mi + (pa + people) / rate) ((pa + people) % rate) fr (if 1440 < mi + (pa + people - 1) / rate then -1 else mi + (pa + people - 1) / rate) fd) := by
  have HG := hide hg
  obtain ⟨sm, hsm⟩ : ∃ q, pa + people = q := ⟨_, rfl⟩
  have HRC := fun (V : World) (hV : MomAt V g q gv (.slice F m d) nv ov rate mi pa fr fd) (hRV : RdF V g F fs) (mn : Int) (h2 : mi ≤ mn) (h3 : mn ≤ 1000000) => hide (by
    have h := reach_any g q gv nv ov F m d fs rate mi pa fr mn fd V hV hl hRV hm hfd hv h0 h1 (by omega) (by omega) (by omega) h3
    rw [show max mi mn = mn by omega] at h
    exact h)
  obtain ⟨d1, hd1⟩ : ∃ q, (sm - 1) / rate = q := ⟨_, rfl⟩
  obtain ⟨d2, hd2⟩ : ∃ q, sm / rate = q := ⟨_, rfl⟩
  obtain ⟨d3, hd3⟩ : ∃ q, sm % rate = q := ⟨_, rfl⟩
  have hs0 : 1 ≤ sm := by omega
  have hs1 : sm ≤ 2000 := by omega
  have t1 : (sm - 1).tdiv rate = d1 := by rw [Int.tdiv_eq_ediv_of_nonneg (by omega)]; exact hd1
  have t2 : sm.tdiv rate = d2 := by rw [Int.tdiv_eq_ediv_of_nonneg (by omega)]; exact hd2
  have t3 : sm.tmod rate = d3 := by rw [Int.tmod_eq_emod_of_nonneg (by omega)]; exact hd3
  have b1 : 0 ≤ d1 ∧ d1 ≤ 2000 := by
    rw [← hd1]
    exact ⟨Int.ediv_nonneg (by omega) (by omega), Int.le_trans (Int.ediv_le_self _ (by omega)) (by omega)⟩
  have b2 : 0 ≤ d2 ∧ d2 ≤ 2000 := by
    rw [← hd2]
    exact ⟨Int.ediv_nonneg (by omega) (by omega), Int.le_trans (Int.ediv_le_self _ (by omega)) (by omega)⟩
  have b3 : 0 ≤ d3 ∧ d3 < rate := by
    rw [← hd3]
    exact ⟨Int.emod_nonneg _ (by omega), Int.emod_lt_of_pos _ (by omega)⟩
  rw [hsm, hd1, hd2, hd3]
  obtain ⟨b10, b11⟩ := b1
  obtain ⟨b20, b21⟩ := b2
  obtain ⟨b30, b31⟩ := b3
  have HR := hide hr
  have HSM := hide hsm
  clear hg hl hr hv h0 h1 hd1 hd2 hd3
  obtain ⟨la, hla⟩ : ∃ q, mi + d1 = q := ⟨_, rfl⟩
  obtain ⟨mn, hmn⟩ : ∃ q, mi + d2 = q := ⟨_, rfl⟩
  rw [hla, hmn]
  have w1 : IntKind.i64.wrap sm = sm := wrap_ok (by omega) (by omega)
  have w2 : IntKind.i64.wrap (sm - 1) = sm - 1 := wrap_ok (by omega) (by omega)
  have w3 : IntKind.i64.wrap d1 = d1 := wrap_ok (by omega) (by omega)
  have w4 : IntKind.i64.wrap d2 = d2 := wrap_ok (by omega) (by omega)
  have w5 : IntKind.i64.wrap d3 = d3 := wrap_ok (by omega) (by omega)
  have w6 : IntKind.i64.wrap la = la := wrap_ok (by omega) (by omega)
  have w7 : IntKind.i64.wrap mn = mn := wrap_ok (by omega) (by omega)
  have n1 : (rate == 0) = false := by simp; omega
  have n2 : ¬ rate = 0 := by omega
  have HMN := hide (show mi ≤ mn ∧ mn ≤ 1000000 by omega)
  clear b10 b11 b20 b21 b30 b31 hs0 hs1 hp0 hp1 hn0 hn1 hmi hmi2 hr0 hr1
  have c8 : W.cell? ⟨g, 8, none⟩ = some (.int .i64 rate) := (blk_cell HG.out 8).trans rfl
  have c9 : W.cell? ⟨g, 9, none⟩ = some (.int .i64 mi) := (blk_cell HG.out 9).trans rfl
  have c10 : W.cell? ⟨g, 10, none⟩ = some (.int .i64 pa) := (blk_cell HG.out 10).trans rfl
  have z := blk_lt HG.out
  go_enter Try.func80, Try.ntmps80
  go_upto_region 2 with fail
  go_quiet (fail)
  go_upto_region 3 with fail
  obtain ⟨V, hV⟩ : ∃ V, (W.drewN nq).drew = V := ⟨_, rfl⟩
  have HGV := hide (show W.grownBy V (some g) by rw [← hV]; exact gr_trans (gr_drewN W nq _) (gr_drew1 _ _))
  have HMV := hide (show MomAt V g q gv (.slice F m d) nv ov rate mi pa fr fd by rw [← hV]; exact HG.out)
  have e8 : V.cell? ⟨g, 8, none⟩ = some (.int .i64 rate) := (blk_cell HMV.out 8).trans rfl
  have e9 : V.cell? ⟨g, 9, none⟩ = some (.int .i64 mi) := (blk_cell HMV.out 9).trans rfl
  have HRV := hide (HR.out.other HGV.out (Nat.le_of_lt z))
  refine wp_region_still_tail 12 (by kernel_rfl) (by kernel_rfl) ?_
  simp only [List.take_succ_cons, List.take_zero, List.drop_succ_cons, List.drop_zero]
  change wpStill _ _ (W.drewN nq).drew (fun a' => wpList _ _ _ _ a' (W.drewN nq).drew) _ _
  rw [hV]
  clear hV c8 c9 c10 z
  (repeat still_step)
  refine wpStill_nil ?_
  have HRC2 := hide (HRC V HMV.out HRV.out mn HMN.out.1 HMN.out.2).out
  obtain ⟨px, hpx⟩ : ∃ q, (if mi < mn then 0 else pa) = q := ⟨_, rfl⟩
  rw [hpx] at HRC2
  clear HRC hpx
  by_cases hbig : 1440 < la
  · rw [if_pos hbig]
    go_wp2_with (go_at_call 78; (with_reducible refine HRC2.out.mono ?_); rintro e W2 ⟨rfl, hm2, hg2⟩; have HM2 := hide hm2; have HG2 := hide (gr_trans HGV.out hg2); clear hm2 hg2 e8 e9; have c8 : W2.cell? ⟨g, 8, none⟩ = some (.int .i64 rate) := (blk_cell HM2.out 8).trans rfl; have c10 : W2.cell? ⟨g, 10, none⟩ = some (.int .i64 px) := (blk_cell HM2.out 10).trans rfl; have f10 := blk_frozen HM2.out 10; have z2 := blk_lt HM2.out)
    go_ret
    exact ⟨rfl, HM2.out.set.2.1 d3, gr_trans HG2.out (gr_set _ _ _ _)⟩
  · rw [if_neg hbig]
    have hbig' : la ≤ 1440 := by omega
    go_wp2_with (go_at_call 78; (with_reducible refine HRC2.out.mono ?_); rintro e W2 ⟨rfl, hm2, hg2⟩; have HM2 := hide hm2; have HG2 := hide (gr_trans HGV.out hg2); clear hm2 hg2 e8 e9; have c8 : W2.cell? ⟨g, 8, none⟩ = some (.int .i64 rate) := (blk_cell HM2.out 8).trans rfl; have c10 : W2.cell? ⟨g, 10, none⟩ = some (.int .i64 px) := (blk_cell HM2.out 10).trans rfl; have f10 := blk_frozen HM2.out 10; have z2 := blk_lt HM2.out)
    go_ret
    exact ⟨rfl, HM2.out.set.2.1 d3, gr_trans HG2.out (gr_set _ _ _ _)⟩
end Go.Proofs.Ytlpjkolocgkcpaa

namespace Go.Proofs.Ytlpjkolocgkcpaa
open Go

section
variable {P : Program} {ops : Array Oper} {Q : Exit → Act → World → Prop} {md : Region.Mode} {S : World → Prop} {T : Nat}

def wpAnyT (P : Program) (md : Region.Mode) (ops : Array Oper) (Q : Exit → Act → World → Prop) (S : World → Prop) (T : Nat) : Nat → Array Bool → Act → World → Prop
  | 0, listed, a, w => Region.ready md ops listed = [] ∧ Q .normal a w
  | fuel + 1, listed, a, w =>
    (Region.ready md ops listed = [] → Q .normal a w) ∧
    ∀ i ∈ Region.ready md ops listed, wpOp P ops Q i (fun a' w' => (i ≠ T → S w') ∧ wpAnyT P md ops Q S T fuel (listed.setIfInBounds i true) a' w') a w

theorem wpAny_of_T : ∀ (fuel : Nat) (listed : Array Bool) (a : Act) (w : World), wpAnyT P md ops Q S T fuel listed a w → wpAny P md ops Q fuel listed a w
  | 0, _, _, _, h => h
  | fuel + 1, _, _, _, h => ⟨h.1, fun i hi => wpOp_mono (fun a' w' h' => wpAny_of_T fuel _ a' w' h'.2) (h.2 i hi)⟩

def waits (md : Region.Mode) (ops : Array Oper) (T i : Nat) : Bool :=
  match ops[T]? with
  | some o => o.after.any fun e => Region.binds md e && e.on == i
  | none => true

theorem wpAnyT_first {i : Nat} {oi : Oper} {v : Value} (hi : ops[i]? = some oi) (hsel : ∀ (j : Nat) (o : Oper) cs b, ops[j]? = some o → o.op ≠ .select cs b) (hW : waits md ops T i = true)
    (hQ : ∀ c a w, Q (.panic c) (a.put oi.dst v) w → Q (.panic c) a w) :
    ∀ (fuel : Nat) (listed : Array Bool) (a : Act) (w : World),
      (∀ j oj, ops[j]? = some oj → j ≠ i → listed.getD j true = false → (∀ e ∈ oj.after, Region.binds md e = true → e.on ≠ i) → oi.apart ops oj = true) →
      i ∈ Region.ready md ops listed → YieldsIf P ops S oi v a → S w →
      wpAnyT P md ops Q S T fuel (listed.setIfInBounds i true) (a.put oi.dst v) w → wpAnyT P md ops Q S T (fuel + 1) listed a w := by
  intro fuel
  induction fuel with
  | zero =>
    intro listed a w _ hr hy hS H
    refine ⟨fun h => (by rw [h] at hr; cases hr), fun j hj => ?_⟩
    by_cases hji : j = i
    · subst hji; exact hy.wpOp hi hS ⟨fun _ => hS, H⟩
    · have := ready_mono hj hji
      rw [H.1] at this
      cases this
  | succ fuel ih =>
    intro listed a w hfree hr hy hS H
    refine ⟨fun h => (by rw [h] at hr; cases hr), fun j hj => ?_⟩
    by_cases hji : j = i
    · subst hji; exact hy.wpOp hi hS ⟨fun _ => hS, H⟩
    · have h1 := H.2 j (ready_mono hj hji)
      obtain ⟨hjun, oj, hoj, hall⟩ := mem_ready.1 hj
      have hnot : ∀ e ∈ oj.after, Region.binds md e = true → e.on ≠ i := fun e he hb heq => by
        have h1 := hall e he hb
        have h0 := (mem_ready.1 hr).1
        rw [heq] at h1
        rcases Nat.lt_or_ge i listed.size with h' | h'
        · simp [h'] at h0 h1; rw [h0] at h1; cases h1
        · simp [Array.getElem?_eq_none h'] at h1
      have hjT : j ≠ T := fun hjt => by
        subst hjt
        unfold waits at hW
        rw [hoj] at hW
        simp only [Array.any_eq_true'] at hW
        obtain ⟨e, he, hb⟩ := hW
        simp only [Bool.and_eq_true, beq_iff_eq] at hb
        exact hnot e he hb.1 hb.2
      have h2 := wpOp_putIf hoj (hfree j oj hoj hji hjun hnot) (fun cs b => hsel i oi cs b hi) (fun cs b => hsel j oj cs b hoj) hQ hy h1
      have hfree' : ∀ k ok, ops[k]? = some ok → k ≠ i → (listed.setIfInBounds j true).getD k true = false →
          (∀ e ∈ ok.after, Region.binds md e = true → e.on ≠ i) → oi.apart ops ok = true := fun k ok hk hki hun hno => by
        refine hfree k ok hk hki ?_ hno
        by_cases hjk : j = k
        · subst hjk; exact hjun
        · rw [getD_set_ne true hjk] at hun; exact hun
      refine wpOp_mono (fun a' w' h3 => ⟨h3.2.1, ih (listed.setIfInBounds j true) a' w' hfree' (ready_mono hr (Ne.symm hji)) h3.1 (h3.2.1 hjT) ?_⟩) h2
      rw [Array.setIfInBounds_comm _ _ hji]
      exact h3.2.2

def AllReadyT (P : Program) (md : Region.Mode) (ops : Array Oper) (Q : Exit → Act → World → Prop) (S : World → Prop) (T : Nat) (fuel : Nat) (listed : Array Bool) (a : Act) (w : World) (rs : List Nat) : Prop :=
  ∀ i ∈ rs, wpOp P ops Q i (fun a' w' => (i ≠ T → S w') ∧ wpAnyT P md ops Q S T fuel (listed.setIfInBounds i true) a' w') a w
theorem AllReadyT.nil {fuel : Nat} {listed : Array Bool} {a : Act} {w : World} : AllReadyT P md ops Q S T fuel listed a w [] := fun _ h => by cases h
theorem wpAnyT_ready {rs : List Nat} {fuel : Nat} {listed : Array Bool} {a : Act} {w : World} (hr : Region.ready md ops listed = rs) (hne : rs ≠ [])
    (h : AllReadyT P md ops Q S T fuel listed a w rs) : wpAnyT P md ops Q S T (fuel + 1) listed a w :=
  ⟨fun h0 => absurd (hr ▸ h0) hne, hr ▸ h⟩
theorem wpAnyT_done {listed : Array Bool} {a : Act} {w : World} (hr : Region.ready md ops listed = []) (h : Q .normal a w) :
    ∀ fuel, wpAnyT P md ops Q S T fuel listed a w
  | 0 => ⟨hr, h⟩
  | _ + 1 => ⟨fun _ => h, by rw [hr]; simp⟩
theorem wp_region_T_drew {id : Nat} {a : Act} {w : World} (T : Nat) (hm : P.follows .mixedOrders = true) (hS : S w.drew)
    (h : S w.drew → wpAnyT P .any ops Q S T ops.size (Array.replicate ops.size false) a w.drew) : (Code.region id ops true).wp P Q a w :=
  wp_region_any hm (wpAny_of_T _ _ _ _ (h hS))
end

theorem takeT {P : Program} {md : Region.Mode} {l rest : List Oper} {Q : Exit → Act → World → Prop} {S : World → Prop} {T : Nat} {oi : Oper} {v : Value} {fuel : Nat} {listed : Array Bool} {a : Act} {w : World} (i : Nat) (hi : l.drop i = oi :: rest)
    (hW : waits md l.toArray T i = true) (hs : Region.noSelect l.toArray = true) (hf : Region.free md l.toArray listed i = true) (hr : (Region.ready md l.toArray listed).contains i = true)
    (hQ : ∀ c a w, Q (.panic c) (a.put oi.dst v) w → Q (.panic c) a w) (hy : YieldsIf P l.toArray S oi v a) (hS : S w)
    (h : wpAnyT P md l.toArray Q S T fuel (listed.setIfInBounds i true) (a.put oi.dst v) w) : wpAnyT P md l.toArray Q S T (fuel + 1) listed a w :=
  wpAnyT_first (drop_get hi) (Region.noSelect_spec hs) hW hQ fuel listed a w (Region.free_spec (drop_get hi) hf) (by simpa using hr) hy hS h

theorem consT {P : Program} {md : Region.Mode} {l rest : List Oper} {Q : Exit → Act → World → Prop} {S : World → Prop} {T : Nat} {fuel : Nat} {listed : Array Bool} {a : Act} {w : World} {o : Oper} {rs : List Nat} (i : Nat) (ho : l.drop i = o :: rest)
    (h : ∀ K' : Act → World → Prop, Shut (∀ a w, S w → (S w → wpAnyT P md l.toArray Q S T fuel (listed.setIfInBounds i true) a w) → K' a w) → if Region.wanted o (yielded l.toArray a.tmps) = true then Oper.wp P o a w K' Q else K' (a.put o.dst undef) w)
    (hs : AllReadyT P md l.toArray Q S T fuel listed a w rs) : AllReadyT P md l.toArray Q S T fuel listed a w (i :: rs) := fun j hj => by
  rcases List.mem_cons.1 hj with rfl | hj
  · exact wpOp_step (drop_get ho) (fun K' hK => h K' (fun a w hS hW => hK a w ⟨fun _ => hS, hW hS⟩))
  · exact hs j hj

theorem lastT {P : Program} {md : Region.Mode} {l rest : List Oper} {Q : Exit → Act → World → Prop} {S : World → Prop} {T : Nat} {fuel : Nat} {listed : Array Bool} {a : Act} {w : World} {o : Oper} (ho : l.drop T = o :: rest)
    (h : ∀ K' : Act → World → Prop, Shut (∀ a w, wpAnyT P md l.toArray Q S T fuel (listed.setIfInBounds T true) a w → K' a w) → if Region.wanted o (yielded l.toArray a.tmps) = true then Oper.wp P o a w K' Q else K' (a.put o.dst undef) w) :
    AllReadyT P md l.toArray Q S T fuel listed a w [T] := fun j hj => by
  have e : j = T := by simpa using hj
  subst e
  exact wpOp_step (drop_get ho) (fun K' hK => h K' (fun a w hW => hK a w ⟨fun h => absurd rfl h, hW⟩))

end Go.Proofs.Ytlpjkolocgkcpaa

namespace Go.Proofs.Ytlpjkolocgkcpaa
open Go.RowKit
attribute [local go_sem ↓] Go.wp_at_zero Go.wp_at_succ

theorem gr_wide {u v : World} {row : Option Nat} (h : u.grownBy v none) : u.grownBy v row := ⟨h.os, h.tape, h.output, h.size, fun k hk _ => h.block k hk (by simp)⟩
def SameW (w w' : World) : Prop := w'.heap = w.heap ∧ w.grownBy w' none
theorem SameW.mom {w V : World} (h : SameW w V) {g : Nat} {q : G.Qu} {gv fv nv ov : Value} {rate mi pa fr : Int} {fd : Nat} (hm : MomAt w g q gv fv nv ov rate mi pa fr fd) : MomAt V g q gv fv nv ov rate mi pa fr fd := by
  unfold MomAt
  rw [h.1]
  exact hm
theorem SameW.rdF {w V : World} (h : SameW w V) {g : Nat} {F : Option Addr} {fs : List G.Fr} (hr : RdF w g F fs) (hg : g ≤ w.heap.size) : RdF V g F fs := hr.below ((bel_of h.2).mono hg)
theorem SameW.d (w : World) (n : Nat) : SameW w (w.drewN n) := ⟨rfl, gr_drewN w n _⟩
def Sf (q : G.Qu) (fs : List G.Fr) (m : Int) : Int := q.seats + G.sumF fs m
def AdmitPost (q : G.Qu) (fs : List G.Fr) (g : Nat) (gv fv nv ov : Value) (rate : Int) (p : G.Pt) (s : G.Mo) (w : World) (e : Ending) (w' : World) : Prop :=
  ∃ fd : Nat, e = .returned (.int .i64 (G.minuteOf (Sf q fs) rate q.opn p s)) ∧ MomAt w' g q gv fv nv ov rate (G.next (Sf q fs) rate q.opn p s).min (G.next (Sf q fs) rate q.opn p s).passed (q.seats - (G.next (Sf q fs) rate q.opn p s).used + G.cnts (fs.take fd)) fd ∧ fd ≤ fs.length ∧ (∀ f ∈ fs.take fd, f.at_ ≤ (G.next (Sf q fs) rate q.opn p s).min) ∧ w.grownBy w' (some g)
theorem AdmitPost.giveup {q : G.Qu} {fs : List G.Fr} {g : Nat} {gv fv nv ov : Value} {rate : Int} {p : G.Pt} {s : G.Mo} {w w' : World} {mi pa : Int} {fd : Nat} (hw : G.Wt (Sf q fs) q.opn p s mi pa) (hg : p.gone ≤ mi) (hs : G.Sync fs fd mi) (hm : MomAt w' g q gv fv nv ov rate mi pa (q.seats - s.used + G.cnts (fs.take fd)) fd) (hgr : w.grownBy w' (some g)) :
    AdmitPost q fs g gv fv nv ov rate p s w (.returned (.int .i64 (-1))) w' := by
  obtain ⟨h1, h2⟩ := hw.fin (.inl hg)
  have hg' : p.gone ≤ G.ready (Sf q fs) q.opn p s := by rw [h1]; exact hg
  have e1 : G.minuteOf (Sf q fs) rate q.opn p s = -1 := (G.next_gone hg').1
  have e2 : G.next (Sf q fs) rate q.opn p s = ⟨mi, pa, s.used⟩ := by unfold G.next; rw [if_pos hg', h1, h2]
  unfold AdmitPost
  rw [e1, e2]
  exact ⟨fd, rfl, hm, hs.le, hs.old, hgr⟩
theorem AdmitPost.goes {q : G.Qu} {fs : List G.Fr} (hfs : G.FSorted fs) {g : Nat} {gv fv nv ov : Value} {rate : Int} {p : G.Pt} {s : G.Mo} {w w' : World} {mi pa : Int} {fd : Nat} (hw : G.Wt (Sf q fs) q.opn p s mi pa) (hg : mi < p.gone) (hz : p.size ≤ Sf q fs mi - s.used) (hs : G.Sync fs fd mi) (hr : 1 ≤ rate) (hpa : 0 ≤ pa) (hsz : 1 ≤ p.size)
    {mi2 : Int} (hmi2 : mi2 = mi + (pa + p.size) / rate) (hm : MomAt w' g q gv fv nv ov rate mi2 ((pa + p.size) % rate) (q.seats - s.used + G.cnts (fs.take fd) - p.size + G.cnts (G.comes fs fd mi2)) (fd + (G.comes fs fd mi2).length)) (hgr : w.grownBy w' (some g)) :
    AdmitPost q fs g gv fv nv ov rate p s w (.returned (.int .i64 (if 1440 < mi + (pa + p.size - 1) / rate then -1 else mi + (pa + p.size - 1) / rate))) w' := by
  obtain ⟨h1, h2⟩ := hw.fin (.inr hz)
  have hg' : ¬ p.gone ≤ G.ready (Sf q fs) q.opn p s := by rw [h1]; omega
  have e1 : G.minuteOf (Sf q fs) rate q.opn p s = if 1440 < mi + (pa + p.size - 1) / rate then -1 else mi + (pa + p.size - 1) / rate := by unfold G.minuteOf; rw [if_neg hg', h1, h2]
  have e2 : G.next (Sf q fs) rate q.opn p s = ⟨mi2, (pa + p.size) % rate, s.used + p.size⟩ := by unfold G.next; rw [if_neg hg', h1, h2, hmi2]
  have hd : 0 ≤ (pa + p.size) / rate := Int.ediv_nonneg (by omega) (by omega)
  obtain ⟨k1, k2⟩ := G.sync_comes hfs (fd := fd) (mx := mi2) hs.le (fun f hf => by have := hs.old f hf; omega)
  unfold AdmitPost
  rw [e1, e2]
  refine ⟨_, rfl, ?_, k1.le, k1.old, hgr⟩
  dsimp only
  rw [k2, show q.seats - (s.used + p.size) + (G.cnts (fs.take fd) + G.cnts (G.comes fs fd mi2)) = q.seats - s.used + G.cnts (fs.take fd) - p.size + G.cnts (G.comes fs fd mi2) by omega]
  exact hm
theorem mom_meas9 {w w' : World} {g : Nat} {q q' : G.Qu} {gv fv nv ov gv' fv' nv' ov' : Value} {rate mi pa fr rate' mi' pa' fr' : Int} {fd fd' : Nat} (h' : MomAt w' g q' gv' fv' nv' ov' rate' mi' pa' fr' fd') (h : MomAt w g q gv fv nv ov rate mi pa fr fd) (hk : mi < mi') (hm : mi < 3000) :
    (3000 - intOf ((w'.cell? ⟨g, 9, none⟩).getD undef)).toNat < (3000 - intOf ((w.cell? ⟨g, 9, none⟩).getD undef)).toNat := by
  have a1 : w'.cell? ⟨g, 9, none⟩ = some (.int .i64 mi') := (blk_cell h' 9).trans rfl
  have a0 : w.cell? ⟨g, 9, none⟩ = some (.int .i64 mi) := (blk_cell h 9).trans rfl
  rw [a1, a0]
  simp only [Option.getD_some, intOf]
  omega

set_option maxHeartbeats 6400000 in
set_option maxRecDepth 100000 in
theorem admit_any (g : Nat) (q : G.Qu) (gv nv ov : Value) (F : Option Addr) (m d : Nat) (fs : List G.Fr) (rate mi pa : Int) (fd : Nat) (p : G.Pt) (s : G.Mo) (W : World) (hg : MomAt W g q gv (.slice F m d) nv ov rate mi pa (q.seats - s.used + G.cnts (fs.take fd)) fd) (hl : fs.length = m) (hr : RdF W g F fs) (hm : m ≤ 1000) (hfd : fd ≤ m) (hfs : G.FSorted fs) (hv : ∀ f ∈ fs, G.vFree f = true)
    (hmi : s.min = mi) (hpa : s.passed = pa) (hold : ∀ f ∈ fs.take fd, f.at_ ≤ mi) (hp : p.V) (hr0 : 1 ≤ rate) (hr1 : rate ≤ 100) (hmi0 : 0 ≤ mi) (hmi1 : mi ≤ 2500) (hp0 : 0 ≤ pa) (hp1 : pa < rate) (hu0 : 0 ≤ s.used) (hu1 : s.used ≤ 1000) (hs0 : 0 ≤ q.seats) (hs1 : q.seats ≤ 9999) (ho0 : 0 ≤ q.opn) (ho1 : q.opn ≤ 1440) :
    Calls Try.prog 55 #[.pointer (some ⟨g, 0, none⟩), .agg #[.int .i64 p.id, .int .i64 p.at_, .int .i64 p.size, .int .i64 p.quits]] W (AdmitPost q fs g gv (.slice F m d) nv ov rate p s W) := by
  have HG := hide hg
  have HL := hide hl
  have HR := hide hr
  have HFS := hide hfs
  have HVV := hide (fun f hf => G.vFree_iff.1 (hv f hf))
  have HV := hide (fun f (hf : f ∈ fs) => (G.vFree_iff.1 (hv f hf)).2)
  have HV0 := hide (fun f (hf : f ∈ fs) => (G.vFree_iff.1 (hv f hf)).1.2)
  have HMI := hide hmi
  have HPA := hide hpa
  have HOLD := hide hold
  have HP := hide hp
  have hcb := G.cnts_bd (l := fs.take fd) (fun f hf => HV.out f (List.mem_of_mem_take hf))
  have hcl : (fs.take fd).length ≤ 1000 := by rw [List.length_take]; omega
  obtain ⟨fr, hfr⟩ : ∃ z, q.seats - s.used + G.cnts (fs.take fd) = z := ⟨_, rfl⟩
  have HFR := hide hfr
  have hf0 : -1000000 ≤ fr := by omega
  have hf1 : fr ≤ 100000000 := by omega
  rw [hfr] at HG
  have hz := HP.out.z0
  have hz1 := HP.out.z1
  have ha0 := HP.out.a0
  have ha1 := HP.out.a1
  obtain ⟨gq, hgq⟩ : ∃ z, p.gone = z := ⟨_, rfl⟩
  have HGQ := hide hgq
  have hgq0 : 0 ≤ gq := by rw [← hgq]; unfold G.Pt.gone; have h := HP.out.qt; have := HP.out.a0; split <;> omega
  have hgq1 : gq ≤ 1441 := by rw [← hgq]; unfold G.Pt.gone; have h := HP.out.qt; split <;> omega
  clear hg hl hr hfs hv hmi hpa hold hp hcb hcl hfr hgq
  have HZ := hide (blk_lt HG.out)
  have HSQ := hide (And.intro (And.intro hs0 hs1) (And.intro hu0 hu1))
  have HMB := hide (And.intro hmi0 hmi1)
  have HPB := hide (And.intro hp0 hp1)
  clear hs0 hs1 hu0 hu1
  go_enter Try.func55, Try.ntmps55
  obtain ⟨eq1, heq1⟩ : ∃ z, (p.quits == -1) = z := ⟨_, rfl⟩
  have HEQ := hide heq1
  go_upto_if 10 with fail
  clear heq1
  refine cap_w (M := Code.wp _ _ _ _) _ (fun w1 hw1 => ?_)
  have HM1 := hide (show w1.heap[W.heap.size]? = some (.cells #[.pointer (some ⟨g, 0, none⟩)] 106 (0, 0)) by rw [hw1]; exact ((Below.heap_alloc _ _ _ (by first | (simp; done) | (simp; omega) | omega)).trans (Below.heap_alloc _ _ _ (by first | (simp; done) | (simp; omega) | omega))).trans (World.alloc_heap_new _ _))
  have HP1 := hide (show w1.heap[W.heap.size + 1]? = some (.cells #[.int .i64 p.id, .int .i64 p.at_, .int .i64 p.size, .int .i64 p.quits] 42 (0, 0)) by rw [hw1]; exact (Below.heap_alloc _ _ _ (by first | (simp; done) | (simp; omega) | omega)).trans (alloc_new_at (by simp)))
  have HQ1 := hide (show w1.heap[W.heap.size + 1 + 1]? = some (.cells #[.int .i64 p.quits] 3 (0, 0)) by rw [hw1]; exact alloc_new_at (by simp))
  have HB1 := hide (show Below W.heap.size W w1 by rw [hw1]; (repeat' first | exact zbR _ _ | assumption | refine zbD ?_ | refine zbA ?_ ?_ _ | refine zbS ?_ ?_ _ | refine zbT ?_ (by assumption) ?_ | (simp; done) | (simp; omega) | omega))
  clear hw1
  obtain ⟨bm, hbm⟩ : ∃ z, W.heap.size = z := ⟨_, rfl⟩
  have HBM := hide hbm
  rw [hbm] at HM1 HP1 HQ1 ⊢
  clear hbm
  have hq10 : w1.cell? ⟨bm + 1 + 1, 0, none⟩ = some (.int .i64 p.quits) := (blk_cell HQ1.out 0).trans rfl
  have hq1f := blk_frozen HQ1.out 0
  have hq1z := blk_lt HQ1.out
  go_cut [] from 10 to 10 (fun wy => Hid (wy.heap[bm + 1 + 1]? = some (.cells #[.int .i64 gq] 3 (0, 0))) ∧ Hid (w1.grownBy wy (some (bm + 1 + 1))))
  case first =>
    cases eq1
    · have HQ2 := hide (show w1.heap[bm + 1 + 1]? = some (.cells #[.int .i64 gq] 3 (0, 0)) by rw [← HGQ.out]; unfold G.Pt.gone; rw [if_neg (by simpa using HEQ.out)]; exact HQ1.out)
      go_wp2_with fail
      go_meet
      case rel => exact ⟨HQ2, hide (World.grownBy.refl _ _)⟩
    · have HQ2 := hide (show (w1.setCell ⟨bm + 1 + 1, 0, none⟩ (.int .i64 1441)).heap[bm + 1 + 1]? = some (.cells #[.int .i64 gq] 3 (0, 0)) by rw [← HGQ.out]; unfold G.Pt.gone; rw [if_pos (by simpa using HEQ.out)]; exact (blk_set HQ1.out 0 _).trans rfl)
      go_wp2_with fail
      go_meet
      case rel => exact ⟨HQ2, hide (gr_set _ _ _ _)⟩
  case rest =>
    obtain ⟨HQ2, HG12⟩ := hcut
    rename World => w2
    clear hq10 hq1f hq1z
    have HM2 := bkG HG12.out (by first | (simp; done) | (simp; omega)) HM1
    have HP2 := bkG HG12.out (by first | (simp; done) | (simp; omega)) HP1
    have HBW2 := hide (HB1.out.trans (grown_below HG12.out (B := W.heap.size) HB1.out.size (fun z hz => by have h1 := Option.some.inj hz; have h2 := HBM.out; omega)))
    have HMO2 := hide (show MomAt w2 g q gv (.slice F m d) nv ov rate mi pa fr fd from (HBW2.out.block g HZ.out).trans HG.out)
    have HGR2 := hide (show W.grownBy w2 (some g) from gr_wide (gr_of HBW2.out))
    have HR2 := hide (HR.out.below (HBW2.out.mono (Nat.le_of_lt HZ.out)))
    have HGB := hide (show g < bm by have h1 := HZ.out; have h2 := HBM.out; omega)
    have HR0 := HR
    clear HM1 HP1 HQ1 HB1 HG12 HG HR
    obtain ⟨mx, hmx⟩ : ∃ z, max p.at_ q.opn = z := ⟨_, rfl⟩
    have HMX := hide hmx
    have hmx1 : (if p.at_ < q.opn then q.opn else p.at_) = mx := by split <;> omega
    have hmx2 : max p.at_ q.opn = mx := hmx
    have hmxb : 0 ≤ mx ∧ mx ≤ 1440 := by omega
    clear hmx
    have HRC := hide (reach_any g q gv nv ov F m d fs rate mi pa fr mx fd w2.drew HMO2.out HL.out HR2.out hm hfd HV.out hf0 hf1 (by omega) (by omega) (by omega) (by omega))
    go_upto_region 5 with fail
    obtain ⟨V, hV⟩ : ∃ V, w2.drew = V := ⟨_, rfl⟩
    have HGV := hide (show W.grownBy V (some g) by rw [← hV]; exact gr_trans HGR2.out (gr_drew1 _ _))
    have HMV := hide (show V.heap[bm]? = some (.cells #[.pointer (some ⟨g, 0, none⟩)] 106 (0, 0)) by rw [← hV]; exact HM2.out)
    have HPV := hide (show V.heap[bm + 1]? = some (.cells #[.int .i64 p.id, .int .i64 p.at_, .int .i64 p.size, .int .i64 p.quits] 42 (0, 0)) by rw [← hV]; exact HP2.out)
    have HQV := hide (show V.heap[bm + 1 + 1]? = some (.cells #[.int .i64 gq] 3 (0, 0)) by rw [← hV]; exact HQ2.out)
    have HMOV := hide (show MomAt V g q gv (.slice F m d) nv ov rate mi pa fr fd by rw [← hV]; exact HMO2.out)
    have em : V.cell? ⟨bm, 0, none⟩ = some (.pointer (some ⟨g, 0, none⟩)) := (blk_cell HMV.out 0).trans rfl
    have ep : V.cell? ⟨bm + 1, 1, none⟩ = some (.int .i64 p.at_) := (blk_cell HPV.out 1).trans rfl
    have e0 : V.cell? ⟨g, 0, none⟩ = some (.int .i64 q.opn) := (blk_cell HMOV.out 0).trans rfl
    refine wp_region_still_tail 10 (by kernel_rfl) (by kernel_rfl) ?_
    simp only [List.take_succ_cons, List.take_zero, List.drop_succ_cons, List.drop_zero]
    change wpStill _ _ w2.drew (fun a' => wpList _ _ _ _ a' w2.drew) _ _
    rw [hV] at HRC ⊢
    clear hV HM2 HP2 HQ2 HMO2 HGR2 HR2
    (repeat still_step)
    refine wpStill_nil ?_
    clear em ep e0 hmx1 hmx2
    go_upto_region 6 with (go_at_call 78; (with_reducible refine HRC.out.mono ?_); rintro e w3 ⟨rfl, hm3, hg3⟩; have HMO := hide hm3; have HGR := hide (gr_trans HGV.out hg3); have HM := bkG hg3 (by have := HGB.out; simp; omega) HMV; have HP3 := bkG hg3 (by have := HGB.out; simp; omega) HPV; have HQ := bkG hg3 (by have := HGB.out; simp; omega) HQV; clear hm3 hg3)
    have hfrom : G.from_ q.opn p s = max mi mx := by unfold G.from_; rw [HMI.out, HMX.out]
    have HFROM := hide hfrom
    have HSY0 := hide (G.sync_comes HFS.out (fd := fd) (mx := max mi mx) (by have := HL.out; omega) (fun f hf => by have := HOLD.out f hf; omega))
    have HMO' := hide (show MomAt w3 g q gv (.slice F m d) nv ov rate (G.from_ q.opn p s) (if s.min < max p.at_ q.opn then 0 else s.passed) (q.seats - s.used + G.cnts (fs.take (fd + (G.comes fs fd (max mi mx)).length))) (fd + (G.comes fs fd (max mi mx)).length) by
      rw [hfrom, HMI.out, HPA.out, HMX.out, HSY0.out.2, ← Int.add_assoc, HFR.out]
      exact HMO.out)
    have HFB := hide (show G.from_ q.opn p s ≤ 2500 ∧ 0 ≤ G.from_ q.opn p s by rw [hfrom]; have := HMB.out; omega)
    have HPB0 := hide (show 0 ≤ (if s.min < max p.at_ q.opn then 0 else s.passed) ∧ (if s.min < max p.at_ q.opn then 0 else s.passed) < rate by have := HPB.out; have := HPA.out; split <;> omega)
    clear hfrom HMO
    go_wp2_with fail
    go_loopw [23] (fun _ wr => ∃ (mi2 pa2 : Int) (fd2 : Nat), Hid (MomAt wr g q gv (.slice F m d) nv ov rate mi2 pa2 (q.seats - s.used + G.cnts (fs.take fd2)) fd2) ∧ Hid (G.Sync fs fd2 mi2) ∧ Hid (G.Wt (Sf q fs) q.opn p s mi2 pa2) ∧ Hid (mi2 ≤ 2500 ∧ 0 ≤ mi2) ∧ Hid (0 ≤ pa2 ∧ pa2 < rate) ∧ Hid (wr.heap[bm]? = some (.cells #[.pointer (some ⟨g, 0, none⟩)] 106 (0, 0))) ∧ Hid (wr.heap[bm + 1]? = some (.cells #[.int .i64 p.id, .int .i64 p.at_, .int .i64 p.size, .int .i64 p.quits] 42 (0, 0))) ∧ Hid (wr.heap[bm + 1 + 1]? = some (.cells #[.int .i64 gq] 3 (0, 0))) ∧ Hid (W.grownBy wr (some g))) (fun _ wr => (3000 - intOf ((wr.cell? ⟨g, 9, none⟩).getD undef)).toNat)
    case atStart => exact ⟨_, _, _, HMO', hide (by rw [HFROM.out]; exact HSY0.out.1), hide (G.Wt.start _ _ _ _), HFB, HPB0, HM, HP3, HQ, HGR⟩
    case round =>
      clear HMO' HM HP3 HQ HGR
      obtain ⟨mi2, pa2, fd2, HMO, HSY, HWT, HMB2, HPB2, HM, HP3, HQ, HGR⟩ := hrel
      have hcb := G.cnts_bd (l := fs.take fd2) (fun f hf => HV.out f (List.mem_of_mem_take hf))
      have hcl : (fs.take fd2).length ≤ 1000 := by rw [List.length_take]; have := HL.out; omega
      obtain ⟨fr2, hfr2⟩ : ∃ z, q.seats - s.used + G.cnts (fs.take fd2) = z := ⟨_, rfl⟩
      have HFR2 := hide hfr2
      have hg0 : -1000000 ≤ fr2 := by have := HSQ.out; omega
      have hg1 : fr2 ≤ 90000000 := by have := HSQ.out; omega
      rw [hfr2] at HMO
      have HSF := hide (show Sf q fs mi2 - s.used = fr2 by unfold Sf; rw [HSY.out.sum]; omega)
      clear hcb hcl hfr2
      have HRr := hide (HR0.out.other HGR.out (Nat.le_of_lt HZ.out))
      have cm : wr.cell? ⟨bm, 0, none⟩ = some (.pointer (some ⟨g, 0, none⟩)) := (blk_cell HM.out 0).trans rfl
      have cq : wr.cell? ⟨bm + 1 + 1, 0, none⟩ = some (.int .i64 gq) := (blk_cell HQ.out 0).trans rfl
      have cz : wr.cell? ⟨bm + 1, 2, none⟩ = some (.int .i64 p.size) := (blk_cell HP3.out 2).trans rfl
      have c11 : wr.cell? ⟨g, 11, none⟩ = some (.int .i64 fr2) := (blk_cell HMO.out 11).trans rfl
      have HGN := fun n => hide (gone_any g bm (bm + 1 + 1) q gv (.slice F m d) nv ov rate mi2 pa2 fr2 gq fd2 (wr.drewN n) HMO.out cm cq)
      obtain ⟨gd, hgd⟩ : ∃ z, decide (gq ≤ mi2) = z := ⟨_, rfl⟩
      rw [hgd] at HGN
      have HGD := hide hgd
      clear hgd
      cases gd
      · have HLT := hide (show mi2 < gq by have := of_decide_eq_false HGD.out; omega)
        by_cases hsz : fr2 < p.size
        · have hszd : decide (fr2 < p.size) = true := decide_eq_true hsz
          go_upto_region 6 with fail
          go_quiet ((go_at_call 77; exact Calls.quiet_of (HGN _).out))
          clear HGN c11 cz hszd
          go_upto_region 7 with fail
          obtain ⟨nv1, hnv1⟩ : ∃ z, G.nf fs fd2 = z := ⟨_, rfl⟩
          have HNV := hide hnv1
          have HNB := hide (show mi2 < nv1 by rw [← hnv1]; exact HSY.out.lt_nf (by have := HLT.out; omega))
          have HN2 := hide (show nv1 ≤ 1441 by
            rw [← hnv1]
            unfold G.nf
            cases hf : fs[fd2]? with
            | none => exact Int.le_refl _
            | some f => have := HV0.out f (List.mem_of_getElem? hf); dsimp only; omega)
          obtain ⟨mn, hmn⟩ : ∃ z, min gq nv1 = z := ⟨_, rfl⟩
          have HMN := hide hmn
          have hmn1 : (if nv1 < gq then nv1 else gq) = mn := by split <;> omega
          have hmn2 : min gq nv1 = mn := hmn
          have HMNB := hide (show mi2 < mn ∧ mn ≤ 1441 by have h1 := HLT.out; have h2 := HNB.out; omega)
          have HZR := hide (blk_lt HMO.out)
          have HNF := fun (V : World) (hV : SameW wr V) => hide (nextFree_any g q gv nv ov F m d fs rate mi2 pa2 fr2 fd2 V (hV.mom HMO.out) HL.out ((hV.rdF HRr.out (Nat.le_of_lt HZR.out)).mono (by rw [hV.1]; exact Nat.le_of_lt HZR.out)) hm (by have := HSY.out.le; have := HL.out; omega))
          rw [hnv1] at HNF
          clear hmn hnv1
          have HRC7 := fun (V : World) (hV : SameW wr V) => hide (reach_any g q gv nv ov F m d fs rate mi2 pa2 fr2 mn fd2 V (hV.mom HMO.out) HL.out (hV.rdF HRr.out (Nat.le_of_lt HZR.out)) hm (by have := HSY.out.le; have := HL.out; omega) HV.out hg0 (by omega) (by have := HMB2.out; omega) (by have := HMB2.out; omega) (by have h1 := HMB2.out; have h2 := HMNB.out; omega) (by have h2 := HMNB.out; omega))
          have HRC7N := fun n => HRC7 (wr.drewN n) (SameW.d wr n)
          clear HRC7
          refine wp_region_T_drew (S := (fun w' => SameW wr w' ∧ w'.cell? ⟨bm, 0, none⟩ = some (.pointer (some ⟨g, 0, none⟩)) ∧ w'.cell? ⟨bm + 1 + 1, 0, none⟩ = some (.int .i64 gq))) 5 (by kernel_rfl) ?_ (fun hD0 => ?_)
          · (try dsimp only); first | exact ⟨⟨rfl, rfl, rfl, rfl, Nat.le_refl _, fun _ _ _ => rfl⟩, cm, cq⟩ | exact ⟨hSW6.out, cm, cq⟩ | assumption
          refine takeT (v := ?_) 0 rfl (by kernel_rfl) (by kernel_rfl) (by kernel_rfl) (by kernel_rfl) (fun _ _ _ h => h) (Or.inl ⟨by rfl, ?_⟩) (by assumption) ?_; rotate_left
          · (intro w hSw; (try dsimp only at hSw); go_simp; try with_reducible rfl)
          try simp only [Act.put, zl, z0, z1]
          refine wpAnyT_ready (rs := [1, 2]) (by kernel_rfl) (by simp) ?_; refine consT 1 rfl (fun K hK => ?_) ?_; go_simp
          refine hK.out _ _ ?_ (fun hD1 => ?_)
          · (try dsimp only); first | exact hD0 | (first | exact ⟨⟨rfl, rfl, rfl, rfl, Nat.le_refl _, fun _ _ _ => rfl⟩, cm, cq⟩ | exact ⟨hSW6.out, cm, cq⟩ | assumption)
          clear hK K hD0; try simp only [Act.put, zl, z0, z1]
          refine wpAnyT_ready (rs := [2]) (by kernel_rfl) (by simp) ?_; refine consT 2 rfl (fun K hK => ?_) AllReadyT.nil; go_simp
          refine hK.out _ _ ?_ (fun hD2 => ?_)
          · (try dsimp only); first | exact hD1 | (first | exact ⟨⟨rfl, rfl, rfl, rfl, Nat.le_refl _, fun _ _ _ => rfl⟩, cm, cq⟩ | exact ⟨hSW6.out, cm, cq⟩ | assumption)
          clear hK K hD1; try simp only [Act.put, zl, z0, z1]
          refine wpAnyT_ready (rs := [3]) (by kernel_rfl) (by simp) ?_; refine consT 3 rfl (fun K hK => ?_) AllReadyT.nil; go_simp
          ((go_at_call 79; go_loud ((with_reducible refine (HNF _ (hD2).1).out.mono ?_); rintro e w6 ⟨rfl, k6, rfl⟩)))
          refine hK.out _ _ ?_ (fun hD3 => ?_)
          · (try dsimp only); first | exact ⟨⟨rfl, rfl, rfl, rfl, Nat.le_refl _, fun _ _ _ => rfl⟩, cm, cq⟩ | exact ⟨hSW6.out, cm, cq⟩ | assumption
          clear hK K hD2; try simp only [Act.put, zl, z0, z1]
          refine takeT (v := ?_) 4 rfl (by kernel_rfl) (by kernel_rfl) (by kernel_rfl) (by kernel_rfl) (fun _ _ _ h => h) (Or.inl ⟨by rfl, ?_⟩) (by assumption) ?_; rotate_left
          · (intro w hSw; (try dsimp only at hSw); go_simp; try with_reducible rfl)
          try simp only [Act.put, zl, z0, z1]
          refine wpAnyT_ready (rs := [5]) (by kernel_rfl) (by simp) ?_
          refine lastT rfl (fun K hK => ?_)
          (try dsimp only at hD3)
          (go_simp; go_at_call 78; go_loud ((with_reducible refine (HRC7N _).out.mono ?_); rintro e w9 ⟨rfl, hm9, hg9⟩; have HMO9 := hide hm9; have HG9 := hide (gr_trans (gr_drewN wr _ _) hg9); clear hm9 hg9))
          refine hK.out _ _ ?_
          clear hK K
          try simp only [Act.put, zl, z0, z1]
          refine wpAnyT_done (by kernel_rfl) ?_ _
          rotate_left 1
          refine consT 2 rfl (fun K hK => ?_) AllReadyT.nil
          go_simp
          refine hK.out _ _ ?_ (fun hD1 => ?_)
          · (try dsimp only); first | exact hD0 | (first | exact ⟨⟨rfl, rfl, rfl, rfl, Nat.le_refl _, fun _ _ _ => rfl⟩, cm, cq⟩ | exact ⟨hSW6.out, cm, cq⟩ | assumption)
          clear hK K hD0; try simp only [Act.put, zl, z0, z1]
          refine wpAnyT_ready (rs := [1, 3]) (by kernel_rfl) (by simp) ?_; refine consT 1 rfl (fun K hK => ?_) ?_; go_simp
          refine hK.out _ _ ?_ (fun hD2 => ?_)
          · (try dsimp only); first | exact hD1 | (first | exact ⟨⟨rfl, rfl, rfl, rfl, Nat.le_refl _, fun _ _ _ => rfl⟩, cm, cq⟩ | exact ⟨hSW6.out, cm, cq⟩ | assumption)
          clear hK K hD1; try simp only [Act.put, zl, z0, z1]
          refine wpAnyT_ready (rs := [3]) (by kernel_rfl) (by simp) ?_; refine consT 3 rfl (fun K hK => ?_) AllReadyT.nil; go_simp
          ((go_at_call 79; go_loud ((with_reducible refine (HNF _ (hD2).1).out.mono ?_); rintro e w6 ⟨rfl, k6, rfl⟩)))
          refine hK.out _ _ ?_ (fun hD3 => ?_)
          · (try dsimp only); first | exact ⟨⟨rfl, rfl, rfl, rfl, Nat.le_refl _, fun _ _ _ => rfl⟩, cm, cq⟩ | exact ⟨hSW6.out, cm, cq⟩ | assumption
          clear hK K hD2; try simp only [Act.put, zl, z0, z1]
          refine takeT (v := ?_) 4 rfl (by kernel_rfl) (by kernel_rfl) (by kernel_rfl) (by kernel_rfl) (fun _ _ _ h => h) (Or.inl ⟨by rfl, ?_⟩) (by assumption) ?_; rotate_left
          · (intro w hSw; (try dsimp only at hSw); go_simp; try with_reducible rfl)
          try simp only [Act.put, zl, z0, z1]
          refine wpAnyT_ready (rs := [5]) (by kernel_rfl) (by simp) ?_
          refine lastT rfl (fun K hK => ?_)
          (try dsimp only at hD3)
          (go_simp; go_at_call 78; go_loud ((with_reducible refine (HRC7N _).out.mono ?_); rintro e w9 ⟨rfl, hm9, hg9⟩; have HMO9 := hide hm9; have HG9 := hide (gr_trans (gr_drewN wr _ _) hg9); clear hm9 hg9))
          refine hK.out _ _ ?_
          clear hK K
          try simp only [Act.put, zl, z0, z1]
          refine wpAnyT_done (by kernel_rfl) ?_ _
          rotate_left 1
          refine consT 3 rfl (fun K hK => ?_) AllReadyT.nil
          go_simp
          ((go_at_call 79; go_loud ((with_reducible refine (HNF _ (hD1).1).out.mono ?_); rintro e w6 ⟨rfl, k6, rfl⟩)))
          refine hK.out _ _ ?_ (fun hD2 => ?_)
          · (try dsimp only); first | exact ⟨⟨rfl, rfl, rfl, rfl, Nat.le_refl _, fun _ _ _ => rfl⟩, cm, cq⟩ | exact ⟨hSW6.out, cm, cq⟩ | assumption
          clear hK K hD1; try simp only [Act.put, zl, z0, z1]
          refine wpAnyT_ready (rs := [1]) (by kernel_rfl) (by simp) ?_; refine consT 1 rfl (fun K hK => ?_) AllReadyT.nil; go_simp
          refine hK.out _ _ ?_ (fun hD3 => ?_)
          · (try dsimp only); first | exact hD2 | (first | exact ⟨⟨rfl, rfl, rfl, rfl, Nat.le_refl _, fun _ _ _ => rfl⟩, cm, cq⟩ | exact ⟨hSW6.out, cm, cq⟩ | assumption)
          clear hK K hD2; try simp only [Act.put, zl, z0, z1]
          refine takeT (v := ?_) 4 rfl (by kernel_rfl) (by kernel_rfl) (by kernel_rfl) (by kernel_rfl) (fun _ _ _ h => h) (Or.inl ⟨by rfl, ?_⟩) (by assumption) ?_; rotate_left
          · (intro w hSw; (try dsimp only at hSw); go_simp; try with_reducible rfl)
          try simp only [Act.put, zl, z0, z1]
          refine wpAnyT_ready (rs := [5]) (by kernel_rfl) (by simp) ?_
          refine lastT rfl (fun K hK => ?_)
          (try dsimp only at hD3)
          (go_simp; go_at_call 78; go_loud ((with_reducible refine (HRC7N _).out.mono ?_); rintro e w9 ⟨rfl, hm9, hg9⟩; have HMO9 := hide hm9; have HG9 := hide (gr_trans (gr_drewN wr _ _) hg9); clear hm9 hg9))
          refine hK.out _ _ ?_
          clear hK K
          try simp only [Act.put, zl, z0, z1]
          refine wpAnyT_done (by kernel_rfl) ?_ _
          all_goals
            (try dsimp only [Act.put, List.getElem_toArray, List.getElem_cons_succ, List.getElem_cons_zero])
            (try simp only [List.setIfInBounds_toArray, List.set_cons_zero, List.set_cons_succ])
            clear HRC7N HNF cm cq hmn1 hmn2
            have HSY9 := hide (G.sync_comes HFS.out (fd := fd2) (mx := mn) HSY.out.le (fun f hf => by have h1 := HSY.out.old f hf; have h2 := HMNB.out; omega))
            have hmx9 : max mi2 mn = mn := by have h2 := HMNB.out; omega
            rw [hmx9, if_pos HMNB.out.1] at HMO9
            have HMA := hide (show MomAt w9 g q gv (.slice F m d) nv ov rate mn 0 (q.seats - s.used + G.cnts (fs.take (fd2 + (G.comes fs fd2 mn).length))) (fd2 + (G.comes fs fd2 mn).length) by
              rw [HSY9.out.2, ← Int.add_assoc, HFR2.out]
              exact HMO9.out)
            have HWT9 := hide (HWT.out.step HMNB.out.1 (fun j h1 h2 => by
              have h3 := HMN.out
              refine ⟨by rw [HGQ.out]; omega, ?_⟩
              have h4 := HSF.out
              unfold Sf at h4 ⊢
              rcases HSY.out.stay HFS.out h1 (by rw [HNV.out]; omega) HV0.out with h5 | h5
              · rw [h5]; omega
              · have := HMNB.out; omega))
            have HM9 := bkG HG9.out (by have := HGB.out; simp; omega) HM
            have HP9 := bkG HG9.out (by have := HGB.out; simp; omega) HP3
            have HQ9 := bkG HG9.out (by have := HGB.out; simp; omega) HQ
            have HLM := hide HMB2.out.1
            clear hmx9 HMO9
            go_wp2_with fail
            go_roundw
            case rel => exact ⟨mn, 0, _, HMA, hide HSY9.out.1, HWT9, hide (by have h1 := HMNB.out; have h2 := HMB2.out; omega), hide (by omega), HM9, HP9, HQ9, hide (gr_trans HGR.out HG9.out)⟩
            case measure => exact mom_meas9 HMA.out HMO.out HMNB.out.1 (by have := HMB2.out; omega)
        · have hszd : decide (fr2 < p.size) = false := decide_eq_false hsz
          have hsz' : p.size ≤ fr2 := by omega
          have HPD := hide (fun n => (HGN n).out)
          go_upto_region 6 with fail
          go_quiet ((go_at_call 77; exact Calls.quiet_of (HGN _).out))
          clear hszd cm cq cz c11
          go_upto_region 10 with (go_at_call 77; (with_reducible refine (HGN _).out.mono ?_); rintro e w6 ⟨rfl, k6, rfl⟩)
          refine cap_w (M := Code.wp _ _ _ _) _ (fun w7 hw7 => ?_)
          have HS7 := hide (show SameW wr w7.drew by rw [hw7]; exact ⟨rfl, rfl, rfl, rfl, Nat.le_refl _, fun _ _ _ => rfl⟩)
          clear hw7 HGN
          obtain ⟨V, hV⟩ : ∃ V, w7.drew = V := ⟨_, rfl⟩
          rw [hV] at HS7
          have HMV := bkG HS7.out.2 (by simp) HM
          have HPV := bkG HS7.out.2 (by simp) HP3
          have HMOV := hide (HS7.out.mom HMO.out)
          have em : V.cell? ⟨bm, 0, none⟩ = some (.pointer (some ⟨g, 0, none⟩)) := (blk_cell HMV.out 0).trans rfl
          have ep : V.cell? ⟨bm + 1, 2, none⟩ = some (.int .i64 p.size) := (blk_cell HPV.out 2).trans rfl
          have e11 : V.cell? ⟨g, 11, none⟩ = some (.int .i64 fr2) := (blk_cell HMOV.out 11).trans rfl
          have y11 := blk_frozen HMOV.out 11
          have yz := blk_lt HMOV.out
          have ym := blk_lt HMV.out
          have yp := blk_lt HPV.out
          have hsw : IntKind.i64.wrap (fr2 - p.size) = fr2 - p.size := wrap_ok (by omega) (by omega)
          have HRV := hide (HS7.out.rdF HRr.out (Nat.le_of_lt (blk_lt HMO.out)))
          refine wp_region_still_tail 9 (by kernel_rfl) (by kernel_rfl) ?_
          simp only [List.take_succ_cons, List.take_zero, List.drop_succ_cons, List.drop_zero]
          change wpStill _ _ w7.drew (fun a' => wpList _ _ _ _ a' w7.drew) _ _
          rw [hV]
          clear hV
          (repeat still_step)
          refine wpStill_nil ?_
          clear em ep e11
          obtain ⟨w8, hw8⟩ : ∃ w8, V.setCell ⟨g, 11, none⟩ (.int .i64 (fr2 - p.size)) = w8 := ⟨_, rfl⟩
          have HMO8 := hide (show MomAt w8 g q gv (.slice F m d) nv ov rate mi2 pa2 (fr2 - p.size) fd2 by rw [← hw8]; exact HMOV.out.set.2.2.1 _)
          have HG8 := hide (show wr.grownBy w8 (some g) by rw [← hw8]; exact gr_trans (gr_wide HS7.out.2) (gr_set _ _ _ _))
          have HM8 := bkG HG8.out (by have := HGB.out; simp; omega) HM
          have HP8 := bkG HG8.out (by have := HGB.out; simp; omega) HP3
          have HR8 := hide (HRr.out.other HG8.out (Nat.le_of_lt (blk_lt HMO.out)))
          have em : w8.cell? ⟨bm, 0, none⟩ = some (.pointer (some ⟨g, 0, none⟩)) := (blk_cell HM8.out 0).trans rfl
          have ep : w8.cell? ⟨bm + 1, 2, none⟩ = some (.int .i64 p.size) := (blk_cell HP8.out 2).trans rfl
          have HPS := hide (pass_any g q gv nv ov F m d fs rate mi2 pa2 (fr2 - p.size) p.size fd2 w8 HMO8.out HL.out HR8.out hm (by have := HSY.out.le; have := HL.out; omega) HV.out (by omega) (by omega) HMB2.out.2 (by have := HMB2.out; omega) hr0 (by omega) HPB2.out.1 (by have := HPB2.out; omega) hz (by omega))
          obtain ⟨vv, hvv⟩ : ∃ z, (if 1440 < mi2 + (pa2 + p.size - 1) / rate then -1 else mi2 + (pa2 + p.size - 1) / rate) = z := ⟨_, rfl⟩
          have HVV2 := hide hvv
          rw [hvv] at HPS
          clear hvv
          have e11 : V.cell? ⟨g, 11, none⟩ = some (.int .i64 fr2) := (blk_cell HMOV.out 11).trans rfl
          go_wp2_with (go_at_call 80; (with_reducible refine HPS.out.mono ?_); rintro e w9 ⟨rfl, hm9, hg9⟩; have HMO9 := hide hm9; have HG9 := hide (gr_trans HG8.out hg9); clear hm9 hg9)
          go_ret
          rw [← HVV2.out]
          refine AdmitPost.goes HFS.out HWT.out (by rw [HGQ.out]; exact HLT.out) (by rw [HSF.out]; exact hsz') HSY.out hr0 HPB2.out.1 hz rfl ?_ (gr_trans HGR.out HG9.out)
          rw [HFR2.out]
          exact HMO9.out
      · have HLE := hide (of_decide_eq_true HGD.out)
        have HPO := hide (show MomAt wr g q gv (.slice F m d) nv ov rate mi2 pa2 (q.seats - s.used + G.cnts (fs.take fd2)) fd2 by rw [HFR2.out]; exact HMO.out)
        go_upto_region 6 with fail
        go_quiet ((go_at_call 77; exact Calls.quiet_of (HGN _).out))
        go_wp2_with (go_at_call 77; (with_reducible refine (HGN _).out.mono ?_); rintro e w6 ⟨rfl, k6, rfl⟩)
        go_ret
        refine AdmitPost.giveup HWT.out (by rw [HGQ.out]; exact HLE.out) HSY.out ?_ (gr_trans HGR.out ⟨rfl, rfl, rfl, Nat.le_refl _, fun _ _ _ => rfl⟩)
        exact HPO.out
end Go.Proofs.Ytlpjkolocgkcpaa

namespace Go.Proofs.Ytlpjkolocgkcpaa
open Go.RowKit Go.Maps

def elB : Elem Bool where
  enc := Value.bool
  dat b := .lit (.bool b)
  zero := false
  enc_inj x y h := by injection h
  dat_inj x y h := by injection h with h; injection h
def elI : Elem Int where
  enc := Value.int .i64
  dat x := .lit (.int .i64 x)
  zero := 0
  enc_inj x y h := by injection h
  dat_inj x y h := by injection h with h; injection h
theorem zeroB (w : World) : (zeroValue 4).run Try.prog w = .ok (elB.enc elB.zero) w := by kernel_rfl
theorem zeroI (w : World) : (zeroValue 3).run Try.prog w = .ok (elI.enc elI.zero) w := by kernel_rfl
theorem MapK.none_out {α : Type} {E : Elem α} {w : World} {B n : Nat} {F : Int → α} {kn : Int → Bool} (h : MapK E w B F kn n) {k : Int} (hr : ¬ (0 ≤ k ∧ k ≤ 999)) : ∃ D : DataW Unit, w.ownsMap Try.prog 3 E.rd B n D ∧ Maps.has D (.int .i64 k) = false := by
  obtain ⟨D, h, hF, hR⟩ := h
  refine ⟨D, h, ?_⟩
  cases hc : Maps.has D (.int .i64 k) with
  | false => rfl
  | true =>
    obtain ⟨k', e, h0, h1⟩ := hR _ hc
    injection e with _ e
    subst e
    exact absurd ⟨h0, h1⟩ hr
theorem MapK.lookOk_wf {α : Type} {E : Elem α} {w : World} {B n : Nat} {F : Int → α} {kn : Int → Bool} {t e : TypeId} (ht : Try.prog.underlying t = some (.map 3 e)) (hz : ∀ w, (zeroValue e).run Try.prog w = .ok (E.enc E.zero) w) (h : MapK E w B F kn n) {k : Int} (hwf : (Lit.int .i64 k).wf = true) :
    ∃ z b, (Instr.lookup t (.map (some B)) (.int .i64 k) true).run Try.prog w = .ok (.tuple #[E.enc z, .bool b]) w ∧ (b = true → 0 ≤ k ∧ k ≤ 999 ∧ z = F k ∧ kn k = true) ∧ (b = false → 0 ≤ k → k ≤ 999 → kn k = false) := by
  by_cases hr : 0 ≤ k ∧ k ≤ 999
  · exact ⟨_, _, h.lookOk ht hz hr.1 hr.2, fun e => ⟨hr.1, hr.2, rfl, e⟩, fun e _ _ => e⟩
  · obtain ⟨D, h, hh⟩ := h.none_out hr
    obtain ⟨v, ps, hrun, hat⟩ := h.look_ok intKeyed ht (hz w) (E.rd_enc E.zero) (keyOf_int_mk Try.underlying3 hwf)
    rw [atKey_of_not_has hh] at hat
    obtain ⟨x, rfl, hx⟩ := E.rd_inv hat
    have := E.dat_inj _ _ (congrArg Prod.fst hx)
    rw [← this] at hrun
    rw [hh] at hrun
    exact ⟨_, false, hrun, fun e => (by cases e), fun _ h0 h1 => absurd ⟨h0, h1⟩ hr⟩
theorem MapK.look_wf {α : Type} {E : Elem α} {w : World} {B n : Nat} {F : Int → α} {kn : Int → Bool} {t e : TypeId} (ht : Try.prog.underlying t = some (.map 3 e)) (hz : ∀ w, (zeroValue e).run Try.prog w = .ok (E.enc E.zero) w) (h : MapK E w B F kn n) {k : Int} (hwf : (Lit.int .i64 k).wf = true) :
    ∃ z, (Instr.lookup t (.map (some B)) (.int .i64 k) false).run Try.prog w = .ok (E.enc z) w ∧ (0 ≤ k → k ≤ 999 → z = F k) ∧ (¬ (0 ≤ k ∧ k ≤ 999) → z = E.zero) := by
  by_cases hr : 0 ≤ k ∧ k ≤ 999
  · exact ⟨_, h.look ht hz hr.1 hr.2, fun _ _ => rfl, fun c => absurd hr c⟩
  · obtain ⟨D, h, hh⟩ := h.none_out hr
    obtain ⟨v, ps, hrun, hat⟩ := h.lookup intKeyed ht (hz w) (E.rd_enc E.zero) (keyOf_int_mk Try.underlying3 hwf)
    rw [atKey_of_not_has hh] at hat
    obtain ⟨x, rfl, hx⟩ := E.rd_inv hat
    have := E.dat_inj _ _ (congrArg Prod.fst hx)
    exact ⟨x, hrun, fun h0 h1 => absurd ⟨h0, h1⟩ hr, fun _ => this.symm⟩
end Go.Proofs.Ytlpjkolocgkcpaa
