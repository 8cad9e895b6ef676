/- Of what the proof is made: 3 texts, one behind the other. -/
import Derived.Test.YtgpghapnmalipaaGreatDoorM6
import Derived.Test.YtgpghapnmalipaaGreatDoorM7
import Derived.Test.YtgpghapnmalipaaGreatDoorM3
import Derived.Deep.RegionHeld3
namespace Go.Proofs.YtgpghapnmalipaaGreatDoor.Lit
open Go.Proofs.YtgpghapnmalipaaGreatDoor
open Go.RowKit Corb
set_option maxHeartbeats 800000 in
theorem bookPut_any (a ac : Option Addr) (cap n cc k : Nat) (vs : Value) (m : Nat → Nat) (C : Array Value) (l c : List Int) (w : World) (hC : C = (bookCells (.slice a n cap) (.slice ac n cc) vs m).toArray) (hn : l.length = n) (hnc : c.length = n) (h : IRow w a l) (hcr : IRow w ac c) (hk : k < n) (hm : n ≤ 300) :
    Calls Tryz.prog 101 #[.agg C, .int .i64 (k : Int)] w fun e w' => e = .returned (.agg #[.int .i64 (btI (c.getD k 0) (l.getD k 0)), .int .i64 (l.getD k 0)]) ∧ Below w.heap.size w w' := by
  have e0 : C[0]? = some (.slice a n cap) := by subst hC; rfl
  have e1 : C[1]? = some (.slice ac n cc) := by subst hC; rfl
  have hmI : (n : Int) ≤ 300 := by omega
  have hkI : (k : Int) < (n : Int) := by omega
  clear hC
  obtain ⟨g, o, rfl, hg, hc⟩ := h (by omega)
  obtain ⟨g', o', rfl, hg', hc'⟩ := hcr (by omega)
  have d0 := hc k (by omega)
  have d1 := hc' k (by omega)
  have hb : Below w.heap.size w ((w.alloc (.cells C 118)).alloc (.cells #[.int .i64 0, .int .i64 0] 112)) := ((Below.refl _ _).alloc (Nat.le_refl _) _).alloc (by simp) _
  have r0 : ((w.alloc (.cells C 118)).alloc (.cells #[.int .i64 0, .int .i64 0] 112)).cell? ⟨w.heap.size + 1, 0, none⟩ = some (.int .i64 0) := by
    have := cell_of_row ((w.alloc (.cells C 118)).alloc (.cells #[.int .i64 0, .int .i64 0] 112)) (w.heap.size + 1) 0 #[.int .i64 0, .int .i64 0] 112 (0, 0) (heap_alloc2_new w _ _)
    rw [this]; rfl
  have r1 : ((w.alloc (.cells C 118)).alloc (.cells #[.int .i64 0, .int .i64 0] 112)).cell? ⟨w.heap.size + 1, 1, none⟩ = some (.int .i64 0) := by
    have := cell_of_row ((w.alloc (.cells C 118)).alloc (.cells #[.int .i64 0, .int .i64 0] 112)) (w.heap.size + 1) 1 #[.int .i64 0, .int .i64 0] 112 (0, 0) (heap_alloc2_new w _ _)
    rw [this]; rfl
  have hs2 : ((w.alloc (.cells C 118)).alloc (.cells #[.int .i64 0, .int .i64 0] 112)).heap.size = w.heap.size + 2 := by simp
  have HR := hide (And.intro r0 (And.intro r1 (And.intro hs2 hb)))
  clear hc hc' h hcr r0 r1 hs2 hb
  generalize l.getD k 0 = y at *
  generalize c.getD k 0 = z at *
  go_enter Tryz.func101, Tryz.ntmps101
  go_wp2_with fail
  refine (implBitsTurn_any _ _ _).mono ?_
  rintro e x1 ⟨rfl, hb1⟩
  obtain ⟨r0, r1, hs2, hb⟩ := unhide HR
  have q0 := (hb1.cell (p := ⟨w.heap.size + 1, 0, none⟩) (by rw [hs2]; exact Nat.lt_succ_self _)).trans r0
  have q1 := (hb1.cell (p := ⟨w.heap.size + 1, 1, none⟩) (by rw [hs2]; exact Nat.lt_succ_self _)).trans r1
  have f0 := hb1.frozen (p := ⟨w.heap.size + 1, 0, none⟩) (by rw [hs2]; exact Nat.lt_succ_self _)
  have f1 := hb1.frozen (p := ⟨w.heap.size + 1, 1, none⟩) (by rw [hs2]; exact Nat.lt_succ_self _)
  have hbn := hb.trans (hb1.mono hb.size)
  clear HR r0 r1 hb hb1
  go_wp2_with fail
  exact bodyPost_ret (v := .agg #[.int .i64 (btI z y), .int .i64 y]) (by simp [results, Tryz.results101, go_sem, q0, q1]) rfl ⟨rfl, below_set (below_set hbn (Nat.le_succ _) _) (Nat.le_succ _) _⟩
set_option maxHeartbeats 1600000 in
theorem l3Piece_any (a ac : Option Addr) (cap n cc k : Nat) (l c : List Int) (w : World) (hn : l.length = n) (hnc : c.length = n) (h : IRow w a l) (hcr : IRow w ac c) (hk : k < n) (hm : n ≤ 300) (hy : 0 ≤ l.getD k 0 ∧ l.getD k 0 ≤ 15) (hz : 0 ≤ c.getD k 0 ∧ c.getD k 0 < 65536) :
    Calls Tryz.prog 167 #[.slice a n cap, .slice ac n cc, .int .i64 (k : Int)] w fun e w' => e = .returned (.agg #[.int .i64 (rv (l.getD k 0).toNat (c.getD k 0).toNat : Nat), .int .i64 (l.getD k 0)]) ∧ Below w.heap.size w w' := by
  have hmI : (n : Int) ≤ 300 := by omega
  have hkI : (k : Int) < (n : Int) := by omega
  obtain ⟨g, o, rfl, hg, hc⟩ := h (by omega)
  obtain ⟨g', o', rfl, hg', hc'⟩ := hcr (by omega)
  have d0 := hc k (by omega)
  have d1 := hc' k (by omega)
  obtain ⟨y0, y1⟩ := hy
  obtain ⟨z0, z1⟩ := hz
  clear hc hc' h hcr
  generalize l.getD k 0 = y at *
  generalize c.getD k 0 = z at *
  have hb : Below w.heap.size w (w.alloc (.cells #[.int .i64 0, .int .i64 0] 112)) := (Below.refl _ _).alloc (Nat.le_refl _) _
  have y2 : y ≤ 16 := by omega
  go_enter Tryz.func167, Tryz.ntmps167
  have HC : ∀ A : Array Value, (w.alloc (.cells A 112)).drew.cell? ⟨g, o + k, none⟩ = some (.int .i64 y) ∧ (w.alloc (.cells A 112)).drew.cell? ⟨g', o' + k, none⟩ = some (.int .i64 z) := fun A => by
    have hb : Below w.heap.size w (w.alloc (.cells A 112)) := (Below.refl _ _).alloc (Nat.le_refl _) _
    exact ⟨(hb.cell (p := ⟨g, o + k, none⟩) hg).trans d0, (hb.cell (p := ⟨g', o' + k, none⟩) hg').trans d1⟩
  go_wp2_with fail
  go_region_held3 (fun W => W.cell? ⟨g, o + k, none⟩ = some (.int .i64 y) ∧ W.cell? ⟨g', o' + k, none⟩ = some (.int .i64 z)) (first | exact HC _ | assumption) (first | (go_at_call 174; refine (l1Turn_any _ _ _ z0 z1 y0 y2).mono ?_; rintro e x1 ⟨rfl, hx⟩; subst hx))
  go_wp2
  exact bodyPost_ret (v := .agg #[.int .i64 (rv y.toNat z.toNat : Nat), .int .i64 y]) (by simp [results, Tryz.results167, go_sem]) rfl ⟨rfl, ((Below.refl _ _).alloc (Nat.le_refl _) _).drew⟩
end Go.Proofs.YtgpghapnmalipaaGreatDoor.Lit
namespace Go.Proofs.YtgpghapnmalipaaGreatDoor.Dist
open Go.Proofs.YtgpghapnmalipaaGreatDoor
open Go.RowKit Corb
set_option maxHeartbeats 800000 in
theorem bookPut_any (a ac : Option Addr) (cap n cc k : Nat) (vs : Value) (m : Nat → Nat) (C : Array Value) (l c : List Int) (w : World) (hC : C = (bookCells (.slice a n cap) (.slice ac n cc) vs m).toArray) (hn : l.length = n) (hnc : c.length = n) (h : IRow w a l) (hcr : IRow w ac c) (hk : k < n) (hm : n ≤ 300) :
    Calls Tryz.prog 136 #[.agg C, .int .i64 (k : Int)] w fun e w' => e = .returned (.agg #[.int .i64 (btI (c.getD k 0) (l.getD k 0)), .int .i64 (l.getD k 0)]) ∧ Below w.heap.size w w' := by
  have e0 : C[0]? = some (.slice a n cap) := by subst hC; rfl
  have e1 : C[1]? = some (.slice ac n cc) := by subst hC; rfl
  have hmI : (n : Int) ≤ 300 := by omega
  have hkI : (k : Int) < (n : Int) := by omega
  clear hC
  obtain ⟨g, o, rfl, hg, hc⟩ := h (by omega)
  obtain ⟨g', o', rfl, hg', hc'⟩ := hcr (by omega)
  have d0 := hc k (by omega)
  have d1 := hc' k (by omega)
  have hb : Below w.heap.size w ((w.alloc (.cells C 121)).alloc (.cells #[.int .i64 0, .int .i64 0] 112)) := ((Below.refl _ _).alloc (Nat.le_refl _) _).alloc (by simp) _
  have r0 : ((w.alloc (.cells C 121)).alloc (.cells #[.int .i64 0, .int .i64 0] 112)).cell? ⟨w.heap.size + 1, 0, none⟩ = some (.int .i64 0) := by
    have := cell_of_row ((w.alloc (.cells C 121)).alloc (.cells #[.int .i64 0, .int .i64 0] 112)) (w.heap.size + 1) 0 #[.int .i64 0, .int .i64 0] 112 (0, 0) (heap_alloc2_new w _ _)
    rw [this]; rfl
  have r1 : ((w.alloc (.cells C 121)).alloc (.cells #[.int .i64 0, .int .i64 0] 112)).cell? ⟨w.heap.size + 1, 1, none⟩ = some (.int .i64 0) := by
    have := cell_of_row ((w.alloc (.cells C 121)).alloc (.cells #[.int .i64 0, .int .i64 0] 112)) (w.heap.size + 1) 1 #[.int .i64 0, .int .i64 0] 112 (0, 0) (heap_alloc2_new w _ _)
    rw [this]; rfl
  have hs2 : ((w.alloc (.cells C 121)).alloc (.cells #[.int .i64 0, .int .i64 0] 112)).heap.size = w.heap.size + 2 := by simp
  have HR := hide (And.intro r0 (And.intro r1 (And.intro hs2 hb)))
  clear hc hc' h hcr r0 r1 hs2 hb
  generalize l.getD k 0 = y at *
  generalize c.getD k 0 = z at *
  go_enter Tryz.func136, Tryz.ntmps136
  go_wp2_with fail
  refine (implBitsTurn_any _ _ _).mono ?_
  rintro e x1 ⟨rfl, hb1⟩
  obtain ⟨r0, r1, hs2, hb⟩ := unhide HR
  have q0 := (hb1.cell (p := ⟨w.heap.size + 1, 0, none⟩) (by rw [hs2]; exact Nat.lt_succ_self _)).trans r0
  have q1 := (hb1.cell (p := ⟨w.heap.size + 1, 1, none⟩) (by rw [hs2]; exact Nat.lt_succ_self _)).trans r1
  have f0 := hb1.frozen (p := ⟨w.heap.size + 1, 0, none⟩) (by rw [hs2]; exact Nat.lt_succ_self _)
  have f1 := hb1.frozen (p := ⟨w.heap.size + 1, 1, none⟩) (by rw [hs2]; exact Nat.lt_succ_self _)
  have hbn := hb.trans (hb1.mono hb.size)
  clear HR r0 r1 hb hb1
  go_wp2_with fail
  exact bodyPost_ret (v := .agg #[.int .i64 (btI z y), .int .i64 y]) (by simp [results, Tryz.results136, go_sem, q0, q1]) rfl ⟨rfl, below_set (below_set hbn (Nat.le_succ _) _) (Nat.le_succ _) _⟩
set_option maxHeartbeats 1600000 in
theorem l3Piece_any (a ac : Option Addr) (cap n cc k : Nat) (l c : List Int) (w : World) (hn : l.length = n) (hnc : c.length = n) (h : IRow w a l) (hcr : IRow w ac c) (hk : k < n) (hm : n ≤ 300) (hy : 0 ≤ l.getD k 0 ∧ l.getD k 0 ≤ 15) (hz : 0 ≤ c.getD k 0 ∧ c.getD k 0 < 65536) :
    Calls Tryz.prog 167 #[.slice a n cap, .slice ac n cc, .int .i64 (k : Int)] w fun e w' => e = .returned (.agg #[.int .i64 (rv (l.getD k 0).toNat (c.getD k 0).toNat : Nat), .int .i64 (l.getD k 0)]) ∧ Below w.heap.size w w' := by
  have hmI : (n : Int) ≤ 300 := by omega
  have hkI : (k : Int) < (n : Int) := by omega
  obtain ⟨g, o, rfl, hg, hc⟩ := h (by omega)
  obtain ⟨g', o', rfl, hg', hc'⟩ := hcr (by omega)
  have d0 := hc k (by omega)
  have d1 := hc' k (by omega)
  obtain ⟨y0, y1⟩ := hy
  obtain ⟨z0, z1⟩ := hz
  clear hc hc' h hcr
  generalize l.getD k 0 = y at *
  generalize c.getD k 0 = z at *
  have hb : Below w.heap.size w (w.alloc (.cells #[.int .i64 0, .int .i64 0] 112)) := (Below.refl _ _).alloc (Nat.le_refl _) _
  have y2 : y ≤ 16 := by omega
  go_enter Tryz.func167, Tryz.ntmps167
  have HC : ∀ A : Array Value, (w.alloc (.cells A 112)).drew.cell? ⟨g, o + k, none⟩ = some (.int .i64 y) ∧ (w.alloc (.cells A 112)).drew.cell? ⟨g', o' + k, none⟩ = some (.int .i64 z) := fun A => by
    have hb : Below w.heap.size w (w.alloc (.cells A 112)) := (Below.refl _ _).alloc (Nat.le_refl _) _
    exact ⟨(hb.cell (p := ⟨g, o + k, none⟩) hg).trans d0, (hb.cell (p := ⟨g', o' + k, none⟩) hg').trans d1⟩
  go_wp2_with fail
  go_region_held3 (fun W => W.cell? ⟨g, o + k, none⟩ = some (.int .i64 y) ∧ W.cell? ⟨g', o' + k, none⟩ = some (.int .i64 z)) (first | exact HC _ | assumption) (first | (go_at_call 174; refine (l1Turn_any _ _ _ z0 z1 y0 y2).mono ?_; rintro e x1 ⟨rfl, hx⟩; subst hx))
  go_wp2
  exact bodyPost_ret (v := .agg #[.int .i64 (rv y.toNat z.toNat : Nat), .int .i64 y]) (by simp [results, Tryz.results167, go_sem]) rfl ⟨rfl, ((Below.refl _ _).alloc (Nat.le_refl _) _).drew⟩
end Go.Proofs.YtgpghapnmalipaaGreatDoor.Dist
namespace Go.Proofs.YtgpghapnmalipaaGreatDoor.Len
open Go.Proofs.YtgpghapnmalipaaGreatDoor
open Go.RowKit Corb
set_option maxHeartbeats 800000 in
theorem bookPut_any (a ac : Option Addr) (cap n cc k : Nat) (vs : Value) (m : Nat → Nat) (C : Array Value) (l c : List Int) (w : World) (hC : C = (bookCells (.slice a n cap) (.slice ac n cc) vs m).toArray) (hn : l.length = n) (hnc : c.length = n) (h : IRow w a l) (hcr : IRow w ac c) (hk : k < n) (hm : n ≤ 300) :
    Calls Tryz.prog 112 #[.agg C, .int .i64 (k : Int)] w fun e w' => e = .returned (.agg #[.int .i64 (btI (c.getD k 0) (l.getD k 0)), .int .i64 (l.getD k 0)]) ∧ Below w.heap.size w w' := by
  have e0 : C[0]? = some (.slice a n cap) := by subst hC; rfl
  have e1 : C[1]? = some (.slice ac n cc) := by subst hC; rfl
  have hmI : (n : Int) ≤ 300 := by omega
  have hkI : (k : Int) < (n : Int) := by omega
  clear hC
  obtain ⟨g, o, rfl, hg, hc⟩ := h (by omega)
  obtain ⟨g', o', rfl, hg', hc'⟩ := hcr (by omega)
  have d0 := hc k (by omega)
  have d1 := hc' k (by omega)
  have hb : Below w.heap.size w ((w.alloc (.cells C 186)).alloc (.cells #[.int .i64 0, .int .i64 0] 112)) := ((Below.refl _ _).alloc (Nat.le_refl _) _).alloc (by simp) _
  have r0 : ((w.alloc (.cells C 186)).alloc (.cells #[.int .i64 0, .int .i64 0] 112)).cell? ⟨w.heap.size + 1, 0, none⟩ = some (.int .i64 0) := by
    have := cell_of_row ((w.alloc (.cells C 186)).alloc (.cells #[.int .i64 0, .int .i64 0] 112)) (w.heap.size + 1) 0 #[.int .i64 0, .int .i64 0] 112 (0, 0) (heap_alloc2_new w _ _)
    rw [this]; rfl
  have r1 : ((w.alloc (.cells C 186)).alloc (.cells #[.int .i64 0, .int .i64 0] 112)).cell? ⟨w.heap.size + 1, 1, none⟩ = some (.int .i64 0) := by
    have := cell_of_row ((w.alloc (.cells C 186)).alloc (.cells #[.int .i64 0, .int .i64 0] 112)) (w.heap.size + 1) 1 #[.int .i64 0, .int .i64 0] 112 (0, 0) (heap_alloc2_new w _ _)
    rw [this]; rfl
  have hs2 : ((w.alloc (.cells C 186)).alloc (.cells #[.int .i64 0, .int .i64 0] 112)).heap.size = w.heap.size + 2 := by simp
  have HR := hide (And.intro r0 (And.intro r1 (And.intro hs2 hb)))
  clear hc hc' h hcr r0 r1 hs2 hb
  generalize l.getD k 0 = y at *
  generalize c.getD k 0 = z at *
  go_enter Tryz.func112, Tryz.ntmps112
  go_wp2_with fail
  refine (implBitsTurn_any _ _ _).mono ?_
  rintro e x1 ⟨rfl, hb1⟩
  obtain ⟨r0, r1, hs2, hb⟩ := unhide HR
  have q0 := (hb1.cell (p := ⟨w.heap.size + 1, 0, none⟩) (by rw [hs2]; exact Nat.lt_succ_self _)).trans r0
  have q1 := (hb1.cell (p := ⟨w.heap.size + 1, 1, none⟩) (by rw [hs2]; exact Nat.lt_succ_self _)).trans r1
  have f0 := hb1.frozen (p := ⟨w.heap.size + 1, 0, none⟩) (by rw [hs2]; exact Nat.lt_succ_self _)
  have f1 := hb1.frozen (p := ⟨w.heap.size + 1, 1, none⟩) (by rw [hs2]; exact Nat.lt_succ_self _)
  have hbn := hb.trans (hb1.mono hb.size)
  clear HR r0 r1 hb hb1
  go_wp2_with fail
  exact bodyPost_ret (v := .agg #[.int .i64 (btI z y), .int .i64 y]) (by simp [results, Tryz.results112, go_sem, q0, q1]) rfl ⟨rfl, below_set (below_set hbn (Nat.le_succ _) _) (Nat.le_succ _) _⟩
set_option maxHeartbeats 1600000 in
theorem l3Piece_any (a ac : Option Addr) (cap n cc k : Nat) (l c : List Int) (w : World) (hn : l.length = n) (hnc : c.length = n) (h : IRow w a l) (hcr : IRow w ac c) (hk : k < n) (hm : n ≤ 300) (hy : 0 ≤ l.getD k 0 ∧ l.getD k 0 ≤ 15) (hz : 0 ≤ c.getD k 0 ∧ c.getD k 0 < 65536) :
    Calls Tryz.prog 167 #[.slice a n cap, .slice ac n cc, .int .i64 (k : Int)] w fun e w' => e = .returned (.agg #[.int .i64 (rv (l.getD k 0).toNat (c.getD k 0).toNat : Nat), .int .i64 (l.getD k 0)]) ∧ Below w.heap.size w w' := by
  have hmI : (n : Int) ≤ 300 := by omega
  have hkI : (k : Int) < (n : Int) := by omega
  obtain ⟨g, o, rfl, hg, hc⟩ := h (by omega)
  obtain ⟨g', o', rfl, hg', hc'⟩ := hcr (by omega)
  have d0 := hc k (by omega)
  have d1 := hc' k (by omega)
  obtain ⟨y0, y1⟩ := hy
  obtain ⟨z0, z1⟩ := hz
  clear hc hc' h hcr
  generalize l.getD k 0 = y at *
  generalize c.getD k 0 = z at *
  have hb : Below w.heap.size w (w.alloc (.cells #[.int .i64 0, .int .i64 0] 112)) := (Below.refl _ _).alloc (Nat.le_refl _) _
  have y2 : y ≤ 16 := by omega
  go_enter Tryz.func167, Tryz.ntmps167
  have HC : ∀ A : Array Value, (w.alloc (.cells A 112)).drew.cell? ⟨g, o + k, none⟩ = some (.int .i64 y) ∧ (w.alloc (.cells A 112)).drew.cell? ⟨g', o' + k, none⟩ = some (.int .i64 z) := fun A => by
    have hb : Below w.heap.size w (w.alloc (.cells A 112)) := (Below.refl _ _).alloc (Nat.le_refl _) _
    exact ⟨(hb.cell (p := ⟨g, o + k, none⟩) hg).trans d0, (hb.cell (p := ⟨g', o' + k, none⟩) hg').trans d1⟩
  go_wp2_with fail
  go_region_held3 (fun W => W.cell? ⟨g, o + k, none⟩ = some (.int .i64 y) ∧ W.cell? ⟨g', o' + k, none⟩ = some (.int .i64 z)) (first | exact HC _ | assumption) (first | (go_at_call 174; refine (l1Turn_any _ _ _ z0 z1 y0 y2).mono ?_; rintro e x1 ⟨rfl, hx⟩; subst hx))
  go_wp2
  exact bodyPost_ret (v := .agg #[.int .i64 (rv y.toNat z.toNat : Nat), .int .i64 y]) (by simp [results, Tryz.results167, go_sem]) rfl ⟨rfl, ((Below.refl _ _).alloc (Nat.le_refl _) _).drew⟩
end Go.Proofs.YtgpghapnmalipaaGreatDoor.Len
