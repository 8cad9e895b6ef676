/- Files: whether one is ok, the model's and the program's. -/
import Derived.Test.YthlmoakigdlboaaDoorNk4
import Derived.Test.YthlmoakigdlboaaDoorSt3
namespace Go.Proofs.YthlmoakigdlboaaDoor
open Go.RowKit

/-- A file in a block of the call's own. -/
def Ent (w : World) (b : Nat) (n : ByteArray) (y mo d h mi s : Int) (t : ByteArray) : Prop := (w.cell? ⟨b, 0, none⟩ = some (.string n) ∧ w.cell? ⟨b, 1, none⟩ = some (.int .i64 y) ∧ w.cell? ⟨b, 2, none⟩ = some (.int .i64 mo) ∧ w.cell? ⟨b, 3, none⟩ = some (.int .i64 d) ∧ w.cell? ⟨b, 4, none⟩ = some (.int .i64 h) ∧ w.cell? ⟨b, 5, none⟩ = some (.int .i64 mi) ∧ w.cell? ⟨b, 6, none⟩ = some (.int .i64 s) ∧ w.cell? ⟨b, 7, none⟩ = some (.string t)) ∧ (w.frozen? ⟨b, 0, none⟩ = false ∧ w.frozen? ⟨b, 1, none⟩ = false ∧ w.frozen? ⟨b, 2, none⟩ = false ∧ w.frozen? ⟨b, 3, none⟩ = false ∧ w.frozen? ⟨b, 4, none⟩ = false ∧ w.frozen? ⟨b, 5, none⟩ = false ∧ w.frozen? ⟨b, 6, none⟩ = false ∧ w.frozen? ⟨b, 7, none⟩ = false) ∧ b < w.heap.size
theorem ent_alloc (w : World) (n : ByteArray) (y mo d h mi s : Int) (t : ByteArray) (u : TypeId) : Ent (w.alloc (.cells #[.string n, .int .i64 y, .int .i64 mo, .int .i64 d, .int .i64 h, .int .i64 mi, .int .i64 s, .string t] u)) w.heap.size n y mo d h mi s t := by
  refine ⟨⟨?_, ?_, ?_, ?_, ?_, ?_, ?_, ?_⟩, ⟨?_, ?_, ?_, ?_, ?_, ?_, ?_, ?_⟩, ?_⟩ <;> simp
theorem Ent.later {w w' : World} {b B : Nat} {n t : ByteArray} {y mo d h mi s : Int} (k : Ent w b n y mo d h mi s t) (hb : Below B w w') (hB : b < B) : Ent w' b n y mo d h mi s t := by
  obtain ⟨⟨c0, c1, c2, c3, c4, c5, c6, c7⟩, ⟨f0, f1, f2, f3, f4, f5, f6, f7⟩, hlt⟩ := k
  refine ⟨⟨?_, ?_, ?_, ?_, ?_, ?_, ?_, ?_⟩, ⟨?_, ?_, ?_, ?_, ?_, ?_, ?_, ?_⟩, Nat.lt_of_lt_of_le hlt hb.size⟩
  · exact (hb.cell (p := ⟨b, 0, none⟩) hB).trans c0
  · exact (hb.cell (p := ⟨b, 1, none⟩) hB).trans c1
  · exact (hb.cell (p := ⟨b, 2, none⟩) hB).trans c2
  · exact (hb.cell (p := ⟨b, 3, none⟩) hB).trans c3
  · exact (hb.cell (p := ⟨b, 4, none⟩) hB).trans c4
  · exact (hb.cell (p := ⟨b, 5, none⟩) hB).trans c5
  · exact (hb.cell (p := ⟨b, 6, none⟩) hB).trans c6
  · exact (hb.cell (p := ⟨b, 7, none⟩) hB).trans c7
  · exact (hb.frozen (p := ⟨b, 0, none⟩) hB).trans f0
  · exact (hb.frozen (p := ⟨b, 1, none⟩) hB).trans f1
  · exact (hb.frozen (p := ⟨b, 2, none⟩) hB).trans f2
  · exact (hb.frozen (p := ⟨b, 3, none⟩) hB).trans f3
  · exact (hb.frozen (p := ⟨b, 4, none⟩) hB).trans f4
  · exact (hb.frozen (p := ⟨b, 5, none⟩) hB).trans f5
  · exact (hb.frozen (p := ⟨b, 6, none⟩) hB).trans f6
  · exact (hb.frozen (p := ⟨b, 7, none⟩) hB).trans f7
theorem setE_keep {w : World} {b i j : Nat} {v : Value} {c : Option Value} (k : w.cell? ⟨b, j, none⟩ = c) (h : i ≠ j) : (w.setCell ⟨b, i, none⟩ v).cell? ⟨b, j, none⟩ = c := by
  rw [World.cell?_setCell_other _ _ _ _ (fun e => h (by cases e; rfl))]; exact k
theorem Ent.store {w : World} {b : Nat} {n t : ByteArray} {y mo d h mi s : Int} (k : Ent w b n y mo d h mi s t) (n' : ByteArray) (y' mo' d' h' mi' s' : Int) (t' : ByteArray) :
    Ent ((((((((w.setCell ⟨b, 0, none⟩ (.string n')).setCell ⟨b, 1, none⟩ (.int .i64 y')).setCell ⟨b, 2, none⟩ (.int .i64 mo')).setCell ⟨b, 3, none⟩ (.int .i64 d')).setCell ⟨b, 4, none⟩ (.int .i64 h')).setCell ⟨b, 5, none⟩ (.int .i64 mi')).setCell ⟨b, 6, none⟩ (.int .i64 s')).setCell ⟨b, 7, none⟩ (.string t')) b n' y' mo' d' h' mi' s' t' := by
  obtain ⟨⟨c0, c1, c2, c3, c4, c5, c6, c7⟩, ⟨f0, f1, f2, f3, f4, f5, f6, f7⟩, hlt⟩ := k
  refine ⟨⟨?_, ?_, ?_, ?_, ?_, ?_, ?_, ?_⟩, ⟨?_, ?_, ?_, ?_, ?_, ?_, ?_, ?_⟩, by simpa using hlt⟩
  · exact setE_keep (setE_keep (setE_keep (setE_keep (setE_keep (setE_keep (setE_keep (World.cell?_setCell_same _ _ _ c0) (by decide)) (by decide)) (by decide)) (by decide)) (by decide)) (by decide)) (by decide)
  · exact setE_keep (setE_keep (setE_keep (setE_keep (setE_keep (setE_keep (World.cell?_setCell_same _ _ _ (setE_keep (c1) (by decide))) (by decide)) (by decide)) (by decide)) (by decide)) (by decide)) (by decide)
  · exact setE_keep (setE_keep (setE_keep (setE_keep (setE_keep (World.cell?_setCell_same _ _ _ (setE_keep (setE_keep (c2) (by decide)) (by decide))) (by decide)) (by decide)) (by decide)) (by decide)) (by decide)
  · exact setE_keep (setE_keep (setE_keep (setE_keep (World.cell?_setCell_same _ _ _ (setE_keep (setE_keep (setE_keep (c3) (by decide)) (by decide)) (by decide))) (by decide)) (by decide)) (by decide)) (by decide)
  · exact setE_keep (setE_keep (setE_keep (World.cell?_setCell_same _ _ _ (setE_keep (setE_keep (setE_keep (setE_keep (c4) (by decide)) (by decide)) (by decide)) (by decide))) (by decide)) (by decide)) (by decide)
  · exact setE_keep (setE_keep (World.cell?_setCell_same _ _ _ (setE_keep (setE_keep (setE_keep (setE_keep (setE_keep (c5) (by decide)) (by decide)) (by decide)) (by decide)) (by decide))) (by decide)) (by decide)
  · exact setE_keep (World.cell?_setCell_same _ _ _ (setE_keep (setE_keep (setE_keep (setE_keep (setE_keep (setE_keep (c6) (by decide)) (by decide)) (by decide)) (by decide)) (by decide)) (by decide))) (by decide)
  · exact World.cell?_setCell_same _ _ _ (setE_keep (setE_keep (setE_keep (setE_keep (setE_keep (setE_keep (setE_keep (c7) (by decide)) (by decide)) (by decide)) (by decide)) (by decide)) (by decide)) (by decide))
  · simpa using f0
  · simpa using f1
  · simpa using f2
  · simpa using f3
  · simpa using f4
  · simpa using f5
  · simpa using f6
  · simpa using f7
theorem Ent.set_other {w : World} {b c o : Nat} {n t : ByteArray} {y mo d h mi s : Int} (k : Ent w b n y mo d h mi s t) (v : Value) (hc : b ≠ c) : Ent (w.setCell ⟨c, o, none⟩ v) b n y mo d h mi s t := by
  have e : (w.setCell ⟨c, o, none⟩ v).heap[b]? = w.heap[b]? := Below.heap_setCell w ⟨c, o, none⟩ v b hc
  obtain ⟨⟨c0, c1, c2, c3, c4, c5, c6, c7⟩, ⟨f0, f1, f2, f3, f4, f5, f6, f7⟩, hlt⟩ := k
  refine ⟨⟨?_, ?_, ?_, ?_, ?_, ?_, ?_, ?_⟩, ⟨?_, ?_, ?_, ?_, ?_, ?_, ?_, ?_⟩, by simpa using hlt⟩
  · exact (World.cell?_of_block (w := w) e).trans c0
  · exact (World.cell?_of_block (w := w) e).trans c1
  · exact (World.cell?_of_block (w := w) e).trans c2
  · exact (World.cell?_of_block (w := w) e).trans c3
  · exact (World.cell?_of_block (w := w) e).trans c4
  · exact (World.cell?_of_block (w := w) e).trans c5
  · exact (World.cell?_of_block (w := w) e).trans c6
  · exact (World.cell?_of_block (w := w) e).trans c7
  · exact (World.frozen?_of_block (w := w) e).trans f0
  · exact (World.frozen?_of_block (w := w) e).trans f1
  · exact (World.frozen?_of_block (w := w) e).trans f2
  · exact (World.frozen?_of_block (w := w) e).trans f3
  · exact (World.frozen?_of_block (w := w) e).trans f4
  · exact (World.frozen?_of_block (w := w) e).trans f5
  · exact (World.frozen?_of_block (w := w) e).trans f6
  · exact (World.frozen?_of_block (w := w) e).trans f7
theorem ent_call {w w1 : World} {n t : ByteArray} {y mo d h mi s : Int} {u : TypeId} (hb : Below (w.alloc (.cells #[.string n, .int .i64 y, .int .i64 mo, .int .i64 d, .int .i64 h, .int .i64 mi, .int .i64 s, .string t] u)).heap.size (w.alloc (.cells #[.string n, .int .i64 y, .int .i64 mo, .int .i64 d, .int .i64 h, .int .i64 mi, .int .i64 s, .string t] u)) w1) : Ent w1 w.heap.size n y mo d h mi s t ∧ Below w.heap.size w w1 :=
  ⟨(ent_alloc w n y mo d h mi s t u).later hb (by simp), ((Below.refl _ _).alloc (Nat.le_refl _) _).trans (hb.mono (by simp))⟩

/-- A file is ok. -/
def entB (n : ByteArray) (y mo d h mi s : Int) (t : ByteArray) : Bool := nameB n.data.toList && (stOk y mo d h mi s && decide (t.size ≤ 300))

set_option maxHeartbeats 1600000 in
theorem specEntryOk_any (n : ByteArray) (y mo d h mi s : Int) (t : ByteArray) (w : World) (hs : n.size ≤ 1048576) (ht : (t.size : Int) ≤ 9223372036854775807) :
    Calls Tryd.prog 10 #[.agg #[.string n, .int .i64 y, .int .i64 mo, .int .i64 d, .int .i64 h, .int .i64 mi, .int .i64 s, .string t]] w fun e w' => e = .returned (.bool (entB n y mo d h mi s t)) ∧ Below w.heap.size w w' := by
  have HSZ := hide hs
  clear hs
  go_enter Tryd.func10, Tryd.ntmps10
  go_wp2_with fail
  refine (specNameOk_any n _ (unhide HSZ)).mono ?_
  rintro e w1 ⟨rfl, hb1⟩
  obtain ⟨X1, B1⟩ := ent_call hb1
  have HX := hide X1
  have HB1 := hide B1
  clear hb1 X1 B1
  obtain ⟨⟨c0, c1, c2, c3, c4, c5, c6, c7⟩, _, hlt⟩ := unhide HX
  cases hk : nameB n.data.toList
  · have HP : Hid (entB n y mo d h mi s t = false) := by simp [Hid, entB, hk]
    go_wp2
    go_ret
    exact ⟨ret_bool (unhide HP).symm, unhide HB1⟩
  · go_wp2_with fail
    refine (specStampOk_any y mo d h mi s _).mono ?_
    rintro e w2 ⟨rfl, hb2⟩
    have HX2 := hide ((unhide HX).later hb2 (unhide HX).2.2)
    have HB2 := hide (bnext (unhide HB1) hb2)
    clear hb2 HX HB1 c0 c1 c2 c3 c4 c5 c6 c7
    obtain ⟨⟨c0, c1, c2, c3, c4, c5, c6, c7⟩, _, _⟩ := unhide HX2
    cases ho : stOk y mo d h mi s
    · have HP : Hid (entB n y mo d h mi s t = false) := by simp [Hid, entB, hk, ho]
      go_wp2
      go_ret
      exact ⟨ret_bool (unhide HP).symm, unhide HB2⟩
    · have HP : Hid (entB n y mo d h mi s t = decide (t.size ≤ 300)) := by simp [Hid, entB, hk, ho]
      by_cases h3 : (t.size : Int) ≤ 300
      · go_wp2
        go_ret
        exact ⟨ret_bool (by rw [unhide HP]; simp; omega), unhide HB2⟩
      · go_wp2
        go_ret
        exact ⟨ret_bool (by rw [unhide HP]; simp; omega), unhide HB2⟩

set_option maxHeartbeats 1600000 in
theorem implEntryOk_any (n : ByteArray) (y mo d h mi s : Int) (t : ByteArray) (m : Int) (w : World) (hs : n.size ≤ 1048576) (ht : (t.size : Int) ≤ 9223372036854775807) (hm : w.cell? ⟨1, 0, none⟩ = some (.int .i64 m)) :
    Calls Tryd.prog 30 #[.agg #[.string n, .int .i64 y, .int .i64 mo, .int .i64 d, .int .i64 h, .int .i64 mi, .int .i64 s, .string t]] w fun e w' => e = .returned (.bool (entB n y mo d h mi s t)) ∧ Below w.heap.size w w' := by
  have HSZ := hide hs
  clear hs
  have HM : Hid ((w.alloc (.cells #[.string n, .int .i64 y, .int .i64 mo, .int .i64 d, .int .i64 h, .int .i64 mi, .int .i64 s, .string t] 37)).cell? ⟨1, 0, none⟩ = some (.int .i64 m)) := by
    show _ = _
    rw [World.cell?_alloc_past _ _ _ (World.block_lt_of_cell? _ _ hm)]; exact hm
  clear hm
  go_enter Tryd.func30, Tryd.ntmps30
  go_wp2_with fail
  refine (implNameOk_any n m _ (unhide HSZ) (unhide HM)).mono ?_
  rintro e w1 ⟨rfl, hb1⟩
  obtain ⟨X1, B1⟩ := ent_call hb1
  have HX := hide X1
  have HB1 := hide B1
  clear hb1 X1 B1
  obtain ⟨⟨c0, c1, c2, c3, c4, c5, c6, c7⟩, _, hlt⟩ := unhide HX
  cases hk : nameB n.data.toList
  · have HP : Hid (entB n y mo d h mi s t = false) := by simp [Hid, entB, hk]
    go_wp2
    go_ret
    exact ⟨ret_bool (unhide HP).symm, unhide HB1⟩
  · go_wp2_with fail
    refine (implStampOk_any y mo d h mi s _).mono ?_
    rintro e w2 ⟨rfl, hb2⟩
    have HX2 := hide ((unhide HX).later hb2 (unhide HX).2.2)
    have HB2 := hide (bnext (unhide HB1) hb2)
    clear hb2 HX HB1 c0 c1 c2 c3 c4 c5 c6 c7
    obtain ⟨⟨c0, c1, c2, c3, c4, c5, c6, c7⟩, _, _⟩ := unhide HX2
    cases ho : stOk y mo d h mi s
    · have HP : Hid (entB n y mo d h mi s t = false) := by simp [Hid, entB, hk, ho]
      go_wp2
      go_ret
      exact ⟨ret_bool (unhide HP).symm, unhide HB2⟩
    · have HP : Hid (entB n y mo d h mi s t = decide (t.size ≤ 300)) := by simp [Hid, entB, hk, ho]
      by_cases h3 : (t.size : Int) ≤ 300
      · go_wp2
        go_ret
        exact ⟨ret_bool (by rw [unhide HP]; simp; omega), unhide HB2⟩
      · go_wp2
        go_ret
        exact ⟨ret_bool (by rw [unhide HP]; simp; omega), unhide HB2⟩

end Go.Proofs.YthlmoakigdlboaaDoor
