/- The walk of the exact law of EntryOk. -/
import Derived.Test.YthlmoakigdlboaaDoorEk1
namespace Go.Proofs.YthlmoakigdlboaaDoor
open Go.RowKit

theorem toStampE_any (y mo d h mi s : Int) (w : World) :
    Calls Tryd.prog 19 #[.agg #[.int .i64 y, .int .i64 mo, .int .i64 d, .int .i64 h, .int .i64 mi, .int .i64 s]] w fun e w' => e = .returned (.agg #[.int .i64 y, .int .i64 mo, .int .i64 d, .int .i64 h, .int .i64 mi, .int .i64 s]) ∧ Below w.heap.size w w' := by
  go_enter Tryd.func19, Tryd.ntmps19
  go_wp2
  refine bodyPost_ret (v := .agg #[.int .i64 y, .int .i64 mo, .int .i64 d, .int .i64 h, .int .i64 mi, .int .i64 s]) (by simp [results, Tryd.results19, go_sem]) rfl ⟨rfl, ?_⟩
  exact (((Below.refl _ _).alloc (Nat.le_refl _) _).alloc (by simp) _).alloc (by simp; omega) _

set_option maxHeartbeats 4000000 in
theorem toEntry_any (n : ByteArray) (y mo d h mi s : Int) (t : ByteArray) (w : World) :
    Calls Tryd.prog 13 #[.agg #[.string n, .int .i64 y, .int .i64 mo, .int .i64 d, .int .i64 h, .int .i64 mi, .int .i64 s, .string t]] w fun e w' => e = .returned (.agg #[.string n, .int .i64 y, .int .i64 mo, .int .i64 d, .int .i64 h, .int .i64 mi, .int .i64 s, .string t]) ∧ Below w.heap.size w w' := by
  have sz : (((w.alloc (.cells #[.string n, .int .i64 y, .int .i64 mo, .int .i64 d, .int .i64 h, .int .i64 mi, .int .i64 s, .string t] 33)).alloc (.cells #[.string ⟨#[]⟩, .int .i64 0, .int .i64 0, .int .i64 0, .int .i64 0, .int .i64 0, .int .i64 0, .string ⟨#[]⟩] 37)).alloc (.cells #[.string n, .int .i64 0, .int .i64 0, .int .i64 0, .int .i64 0, .int .i64 0, .int .i64 0, .string ⟨#[]⟩] 37)).heap.size = w.heap.size + 3 := by simp
  have XP0 : Hid (Ent (((w.alloc (.cells #[.string n, .int .i64 y, .int .i64 mo, .int .i64 d, .int .i64 h, .int .i64 mi, .int .i64 s, .string t] 33)).alloc (.cells #[.string ⟨#[]⟩, .int .i64 0, .int .i64 0, .int .i64 0, .int .i64 0, .int .i64 0, .int .i64 0, .string ⟨#[]⟩] 37)).alloc (.cells #[.string n, .int .i64 0, .int .i64 0, .int .i64 0, .int .i64 0, .int .i64 0, .int .i64 0, .string ⟨#[]⟩] 37)) w.heap.size n y mo d h mi s t) := by
    have h1 := ent_alloc w n y mo d h mi s t 33
    have h2 := h1.later ((Below.refl _ (w.alloc (.cells #[.string n, .int .i64 y, .int .i64 mo, .int .i64 d, .int .i64 h, .int .i64 mi, .int .i64 s, .string t] 33))).alloc (Nat.le_refl _) (.cells #[.string ⟨#[]⟩, .int .i64 0, .int .i64 0, .int .i64 0, .int .i64 0, .int .i64 0, .int .i64 0, .string ⟨#[]⟩] 37)) (by simp)
    exact h2.later ((Below.refl _ _).alloc (Nat.le_refl _) _) (by simp; omega)
  have XZ0 : Hid (Ent (((w.alloc (.cells #[.string n, .int .i64 y, .int .i64 mo, .int .i64 d, .int .i64 h, .int .i64 mi, .int .i64 s, .string t] 33)).alloc (.cells #[.string ⟨#[]⟩, .int .i64 0, .int .i64 0, .int .i64 0, .int .i64 0, .int .i64 0, .int .i64 0, .string ⟨#[]⟩] 37)).alloc (.cells #[.string n, .int .i64 0, .int .i64 0, .int .i64 0, .int .i64 0, .int .i64 0, .int .i64 0, .string ⟨#[]⟩] 37)) (w.heap.size + 1) ⟨#[]⟩ 0 0 0 0 0 0 ⟨#[]⟩) := by
    have h1 := ent_alloc (w.alloc (.cells #[.string n, .int .i64 y, .int .i64 mo, .int .i64 d, .int .i64 h, .int .i64 mi, .int .i64 s, .string t] 33)) ⟨#[]⟩ 0 0 0 0 0 0 ⟨#[]⟩ 37
    have e1 : (w.alloc (.cells #[.string n, .int .i64 y, .int .i64 mo, .int .i64 d, .int .i64 h, .int .i64 mi, .int .i64 s, .string t] 33)).heap.size = w.heap.size + 1 := by simp
    rw [e1] at h1
    exact h1.later ((Below.refl _ _).alloc (Nat.le_refl _) _) (by simp)
  have XT0 : Hid (Ent (((w.alloc (.cells #[.string n, .int .i64 y, .int .i64 mo, .int .i64 d, .int .i64 h, .int .i64 mi, .int .i64 s, .string t] 33)).alloc (.cells #[.string ⟨#[]⟩, .int .i64 0, .int .i64 0, .int .i64 0, .int .i64 0, .int .i64 0, .int .i64 0, .string ⟨#[]⟩] 37)).alloc (.cells #[.string n, .int .i64 0, .int .i64 0, .int .i64 0, .int .i64 0, .int .i64 0, .int .i64 0, .string ⟨#[]⟩] 37)) (w.heap.size + 2) n 0 0 0 0 0 0 ⟨#[]⟩) := by
    have h1 := ent_alloc ((w.alloc (.cells #[.string n, .int .i64 y, .int .i64 mo, .int .i64 d, .int .i64 h, .int .i64 mi, .int .i64 s, .string t] 33)).alloc (.cells #[.string ⟨#[]⟩, .int .i64 0, .int .i64 0, .int .i64 0, .int .i64 0, .int .i64 0, .int .i64 0, .string ⟨#[]⟩] 37)) n 0 0 0 0 0 0 ⟨#[]⟩ 37
    have e1 : ((w.alloc (.cells #[.string n, .int .i64 y, .int .i64 mo, .int .i64 d, .int .i64 h, .int .i64 mi, .int .i64 s, .string t] 33)).alloc (.cells #[.string ⟨#[]⟩, .int .i64 0, .int .i64 0, .int .i64 0, .int .i64 0, .int .i64 0, .int .i64 0, .string ⟨#[]⟩] 37)).heap.size = w.heap.size + 2 := by simp
    rw [e1] at h1
    exact h1
  have B0 : Hid (Below w.heap.size w (((w.alloc (.cells #[.string n, .int .i64 y, .int .i64 mo, .int .i64 d, .int .i64 h, .int .i64 mi, .int .i64 s, .string t] 33)).alloc (.cells #[.string ⟨#[]⟩, .int .i64 0, .int .i64 0, .int .i64 0, .int .i64 0, .int .i64 0, .int .i64 0, .string ⟨#[]⟩] 37)).alloc (.cells #[.string n, .int .i64 0, .int .i64 0, .int .i64 0, .int .i64 0, .int .i64 0, .int .i64 0, .string ⟨#[]⟩] 37))) := (((Below.refl _ _).alloc (Nat.le_refl _) _).alloc (by simp) _).alloc (by simp; omega) _
  have hne : w.heap.size + 1 ≠ w.heap.size + 2 := by omega
  have hge2 : w.heap.size ≤ w.heap.size + 2 := by omega
  have hge1 : w.heap.size ≤ w.heap.size + 1 := by omega
  have SZ := hide sz
  clear sz
  go_enter Tryd.func13, Tryd.ntmps13
  go_wp2_with fail
  refine (toStampE_any y mo d h mi s _).mono ?_
  rintro e x1 ⟨rfl, hb1⟩
  rw [unhide SZ] at hb1
  have XP := hide ((unhide XP0).later hb1 (by omega))
  have XZ := hide ((unhide XZ0).later hb1 (by omega))
  have XT := hide ((unhide XT0).later hb1 (by omega))
  have B1 := hide ((unhide B0).trans (hb1.mono (by omega)))
  clear hb1 XP0 XZ0 XT0 B0 SZ
  have HZ := hide (Ent.store ((((((((unhide XZ).set_other (c := w.heap.size + 2) (o := 1) (.int .i64 y) hne).set_other (c := w.heap.size + 2) (o := 2) (.int .i64 mo) hne).set_other (c := w.heap.size + 2) (o := 3) (.int .i64 d) hne).set_other (c := w.heap.size + 2) (o := 4) (.int .i64 h) hne).set_other (c := w.heap.size + 2) (o := 5) (.int .i64 mi) hne).set_other (c := w.heap.size + 2) (o := 6) (.int .i64 s) hne).set_other (c := w.heap.size + 2) (o := 7) (.string t) hne) n y mo d h mi s t)
  obtain ⟨⟨p0, p1, p2, p3, p4, p5, p6, p7⟩, _, _⟩ := unhide XP
  obtain ⟨⟨q0, q1, q2, q3, q4, q5, q6, q7⟩, ⟨g0, g1, g2, g3, g4, g5, g6, g7⟩, _⟩ := unhide XZ
  obtain ⟨⟨r0, r1, r2, r3, r4, r5, r6, r7⟩, ⟨k0, k1, k2, k3, k4, k5, k6, k7⟩, _⟩ := unhide XT
  clear XP XZ XT
  go_wp2
  obtain ⟨⟨z0, z1, z2, z3, z4, z5, z6, z7⟩, _, _⟩ := unhide HZ
  refine bodyPost_ret (v := .agg #[.string n, .int .i64 y, .int .i64 mo, .int .i64 d, .int .i64 h, .int .i64 mi, .int .i64 s, .string t]) (by simp [results, Tryd.results13, go_sem, z0, z1, z2, z3, z4, z5, z6, z7]) rfl ⟨rfl, ?_⟩
  exact (below_set (below_set (below_set (below_set (below_set (below_set (below_set (below_set (below_set (below_set (below_set (below_set (below_set (below_set (below_set (unhide B1) hge2 _) hge2 _) hge2 _) hge2 _) hge2 _) hge2 _) hge2 _) hge1 _) hge1 _) hge1 _) hge1 _) hge1 _) hge1 _) hge1 _) hge1 _)

theorem szEntry_any (n : ByteArray) (y mo d h mi s : Int) (t : ByteArray) (w : World) (hn : (n.size : Int) ≤ 9223372036854775807) (ht : (t.size : Int) ≤ 9223372036854775807) :
    Calls Tryd.prog 9 #[.agg #[.string n, .int .i64 y, .int .i64 mo, .int .i64 d, .int .i64 h, .int .i64 mi, .int .i64 s, .string t], .int .i64 1048576] w fun e w' => (∃ k : Int, e = .returned (.int .i64 k) ∧ (0 ≤ k → (n.size : Int) ≤ 1048576)) ∧ Below w.heap.size w w' := by
  by_cases h1 : (n.size : Int) ≤ 1048576
  · by_cases h2 : (n.size : Int) + (t.size : Int) ≤ 1048576
    · go_enter Tryd.func9, Tryd.ntmps9
      go_wp2
      go_ret
      exact ⟨⟨_, rfl, fun _ => h1⟩, (Below.refl _ _).alloc (Nat.le_refl _) _⟩
    · go_enter Tryd.func9, Tryd.ntmps9
      go_wp2
      go_ret
      exact ⟨⟨-1, rfl⟩, (Below.refl _ _).alloc (Nat.le_refl _) _⟩
  · go_enter Tryd.func9, Tryd.ntmps9
    go_wp2
    go_ret
    exact ⟨⟨-1, rfl, fun h => absurd h (by omega)⟩, (Below.refl _ _).alloc (Nat.le_refl _) _⟩


end Go.Proofs.YthlmoakigdlboaaDoor
