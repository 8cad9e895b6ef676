/- The walks of the exact laws of stamps. -/
import Derived.Test.YthokkljiccgpiaaSt5
namespace Go.Proofs.Ythokkljiccgpiaa
open Go.RowKit

theorem exStampOk_walk (y mo d h mi s : Int) (w : World) :
    Calls Try.prog 3 #[.agg #[.int .i64 y, .int .i64 mo, .int .i64 d, .int .i64 h, .int .i64 mi, .int .i64 s]] w fun e w' => e = .returned (.bool true) ∧ Below w.heap.size w w' := by
  go_enter Try.func3, Try.ntmps3
  go_wp2_with fail
  refine (toStamp_any y mo d h mi s _).mono ?_
  rintro e w1 ⟨rfl, hb1⟩
  obtain ⟨X1, B1⟩ := six_call hb1
  clear hb1
  go_wp2_with fail
  refine (specStampOk_any y mo d h mi s _).mono ?_
  rintro e w2 ⟨rfl, hb2⟩
  have X2 := X1.later hb2 (X1.2.2)
  have B2 := B1.trans (hb2.mono B1.size)
  obtain ⟨⟨c0, c1, c2, c3, c4, c5⟩, _, _⟩ := X2
  clear X1 hb2 B1
  go_wp2_with fail
  refine (toStamp_any y mo d h mi s _).mono ?_
  rintro e w3 ⟨rfl, hb3⟩
  have B3 := B2.trans (hb3.mono B2.size)
  clear hb3 B2
  go_wp2_with fail
  refine (implStampOk_any y mo d h mi s _).mono ?_
  rintro e w4 ⟨rfl, hb4⟩
  have B4 := B3.trans (hb4.mono B3.size)
  clear hb4 B3
  generalize stOk y mo d h mi s = k
  go_wp2
  go_ret
  exact ⟨rfl, B4⟩

theorem exStampPut_walk (y mo d h mi s : Int) (w : World) :
    Calls Try.prog 4 #[.agg #[.int .i64 y, .int .i64 mo, .int .i64 d, .int .i64 h, .int .i64 mi, .int .i64 s]] w fun e w' => e = .returned (.bool true) ∧ Below w.heap.size w w' := by
  go_enter Try.func4, Try.ntmps4
  go_wp2_with fail
  refine (toStamp_any y mo d h mi s _).mono ?_
  rintro e w1 ⟨rfl, hb1⟩
  obtain ⟨X1, B1⟩ := six_call hb1
  clear hb1
  go_wp2_with fail
  refine (specStampPut_any y mo d h mi s _).mono ?_
  rintro e w2 ⟨rfl, hb2⟩
  have X2 := X1.later hb2 (X1.2.2)
  have B2 := B1.trans (hb2.mono B1.size)
  obtain ⟨⟨c0, c1, c2, c3, c4, c5⟩, _, _⟩ := X2
  clear X1 hb2 B1
  go_wp2_with fail
  refine (toStamp_any y mo d h mi s _).mono ?_
  rintro e w3 ⟨rfl, hb3⟩
  have B3 := B2.trans (hb3.mono B2.size)
  clear hb3 B2
  go_wp2_with fail
  refine (implStampPut_any y mo d h mi s _).mono ?_
  rintro e w4 ⟨rfl, hb4⟩
  have B4 := B3.trans (hb4.mono B3.size)
  clear hb4 B3
  generalize stI y mo d h mi s = k
  go_wp2
  go_ret
  exact ⟨rfl, B4⟩

theorem exStampGet_walk (n : Int) (hn : (Lit.int .i64 n).wf = true) (w : World) :
    Calls Try.prog 5 #[.int .i64 n] w fun e w' => e = .returned (.bool true) ∧ Below w.heap.size w w' := by
  go_enter Try.func5, Try.ntmps5
  go_wp2_with fail
  refine (specStampGet_any n _).mono ?_
  rintro e w1 ⟨rfl, hb1⟩
  have HG : Hid (stG n = stG n) := rfl
  rw [show stG n = .agg #[.int .i64 (zz (gOk n) (gY n)), .int .i64 (zz (gOk n) (gM n)), .int .i64 (zz (gOk n) (gD n)), .int .i64 (zz (gOk n) (gH n)), .int .i64 (zz (gOk n) (gI n)), .int .i64 (zz (gOk n) (gS n))] from rfl]
  have hG2 : ∀ W, Calls Try.prog 16 #[.int .i64 n] W fun e w' => e = .returned (.tuple #[.agg #[.int .i64 (zz (gOk n) (gY n)), .int .i64 (zz (gOk n) (gM n)), .int .i64 (zz (gOk n) (gD n)), .int .i64 (zz (gOk n) (gH n)), .int .i64 (zz (gOk n) (gI n)), .int .i64 (zz (gOk n) (gS n))], .bool (gOk n)]) ∧ Below W.heap.size W w' := fun W => implStampGet_any n W hn
  have HG2 := hide hG2
  clear hG2 HG
  generalize zz (gOk n) (gY n) = y at *
  generalize zz (gOk n) (gM n) = mo at *
  generalize zz (gOk n) (gD n) = d at *
  generalize zz (gOk n) (gH n) = h at *
  generalize zz (gOk n) (gI n) = mi at *
  generalize zz (gOk n) (gS n) = s at *
  generalize gOk n = k at *
  have X1 := hide (six_alloc w1 y mo d h mi s 25)
  have B1 := hide (hb1.alloc hb1.size (.cells #[.int .i64 y, .int .i64 mo, .int .i64 d, .int .i64 h, .int .i64 mi, .int .i64 s] 25))
  clear hb1
  go_wp2_with fail
  refine (unhide HG2 _).mono ?_
  rintro e w2 ⟨rfl, hb2⟩
  have X2 := hide ((unhide X1).later hb2 (unhide X1).2.2)
  have B2 := hide ((unhide B1).trans (hb2.mono (unhide B1).size))
  clear hb2 X1 B1
  obtain ⟨⟨c0, c1, c2, c3, c4, c5⟩, _, hlt⟩ := unhide X2
  clear X2
  go_wp2_with fail
  refine (eqStamp_same y mo d h mi s _).mono ?_
  rintro e w3 ⟨rfl, hb3⟩
  have B3 := hide ((((unhide B2).alloc (unhide B2).size _)).trans (hb3.mono (Nat.le_trans (unhide B2).size (by simp))))
  clear hb3 B2
  go_wp2
  go_ret
  exact ⟨rfl, unhide B3⟩

end Go.Proofs.Ythokkljiccgpiaa
