/- What is wrong with one more file: the program's zipRoom. -/
import Derived.Test.YthlmoakigdlboaaDoorZk4
namespace Go.Proofs.YthlmoakigdlboaaDoor
open Go.RowKit

theorem roomOne_any (n : ByteArray) (y mo d h mi s : Int) (t : ByteArray) (b : Nat) (x : ByteArray) (w : World) (hb : w.cell? ⟨b, 0, none⟩ = some (.string x)) (hn : (n.size : Int) ≤ 1048576) (hx : (x.size : Int) ≤ 1048576) :
    Calls Tryd.prog 32 #[.agg #[.string n, .int .i64 y, .int .i64 mo, .int .i64 d, .int .i64 h, .int .i64 mi, .int .i64 s, .string t], .pointer (some ⟨b, 0, none⟩)] w fun e w' => e = .returned (.bool (clashL n.data.toList x.data.toList)) ∧ Below w.heap.size w w' := by
  have hlt : b < w.heap.size := World.block_lt_of_cell? _ _ hb
  have hne : ¬ b = w.heap.size := by omega
  have hcl : (w.alloc (.cells #[.string n, .int .i64 y, .int .i64 mo, .int .i64 d, .int .i64 h, .int .i64 mi, .int .i64 s, .string t] 37)).cell? ⟨b, 0, none⟩ = some (.string x) := by
    rw [World.cell?_alloc_past _ _ _ hlt]; exact hb
  have HC := hide (fun W => namesClash_any n x W hn hx)
  clear hb
  go_enter Tryd.func32, Tryd.ntmps32
  go_wp2_with fail
  refine (unhide HC _).mono ?_
  rintro e w1 ⟨rfl, hw⟩
  rw [hw]
  clear hw
  go_wp2
  go_ret
  exact ⟨rfl, (Below.refl _ _).alloc (Nat.le_refl _) _⟩

/-- Some file of a row clashes with a name. -/
def anyC (l : List En) (x : ByteArray) : Bool := l.any fun e => clashL e.n.data.toList x.data.toList
theorem anyC_hit {l : List En} {x : ByteArray} {k : Nat} (hk : k < l.length) (e : clashL (l.getD k default).n.data.toList x.data.toList = true) : anyC l x = true := by
  unfold anyC
  rw [List.any_eq_true]
  refine ⟨l.getD k default, ?_, e⟩
  simp [List.getD, hk]
theorem anyC_miss {l : List En} {x : ByteArray} (h : ∀ j, j < l.length → clashL (l.getD j default).n.data.toList x.data.toList = false) : anyC l x = false := by
  unfold anyC
  rw [List.any_eq_false]
  intro e he
  obtain ⟨j, hj, rfl⟩ := List.getElem_of_mem he
  have := h j hj
  simp only [List.getD, List.getElem?_eq_getElem hj, Option.getD_some] at this
  simp [this]
set_option maxHeartbeats 1600000 in
theorem indexRoom_any (a : Option Addr) (cap : Nat) (l : List En) (n : Nat) (hn : l.length = n) (b : Nat) (x : ByteArray) (w : World) (h : ERow w a l) (hl : (n : Int) ≤ 1048576) (hb : w.cell? ⟨b, 0, none⟩ = some (.string x)) (hx : (x.size : Int) ≤ 1048576)
    (hs : ∀ i, i < n → ((l.getD i default).n.size : Int) ≤ 1048576) :
    Calls Tryd.prog 39 #[.slice a n cap, .func (.func 32) #[] #[.pointer (some ⟨b, 0, none⟩)]] w fun e w' => (∃ r : Int, e = .returned (.int .i64 r) ∧ decide (0 ≤ r) = anyC l x ∧ r < 1048577) ∧ Below w.heap.size w w' := by
  have hlt : b < w.heap.size := World.block_lt_of_cell? _ _ hb
  have HS := hide hs
  have HR := hide h
  have HBc := hide hb
  have HLT := hide hlt
  have HH := hide (fun k (hk : k < l.length) => @anyC_hit l x k hk)
  have HM := hide (@anyC_miss l x)
  rw [hn] at HH HM
  have HN := hide hn
  clear h hs hn hb hlt
  go_enter Tryd.func39, Tryd.ntmps39
  go_wp2_with fail
  go_loopw [5, 8] (fun _ i wr => ∃ k : Nat, k ≤ n ∧ i = .int .i64 k ∧ (∀ j, j < k → clashL (l.getD j default).n.data.toList x.data.toList = false) ∧ Below w.heap.size w wr) (fun _ i _ => n - (intOf i).toNat)
  case atStart => exact ⟨0, Nat.zero_le _, rfl, fun j hj => absurd hj (by omega), Below.refl _ _⟩
  case round =>
    obtain ⟨k, hk, rfl, hall, hbel⟩ := hrel
    have HALL := hide hall
    have HBel := hide hbel
    clear hall hbel
    by_cases hkn : k < n
    · have hkI : (k : Int) < (n : Int) := by omega
      obtain ⟨g, o, rfl, hg, hc⟩ := (unhide HR).later (unhide HBel) (by have := unhide HN; omega)
      obtain ⟨c0, c1, c2, c3, c4, c5, c6, c7⟩ := hc k (by have := unhide HN; omega)
      have HKN := hide hkn
      have HHk := hide (unhide HH k hkn)
      have HC := hide (fun W (hW : Below w.heap.size w W) => roomOne_any (l.getD k default).n (l.getD k default).y (l.getD k default).mo (l.getD k default).d (l.getD k default).h (l.getD k default).mi (l.getD k default).s (l.getD k default).t b x W ((hW.cell (p := ⟨b, 0, none⟩) (unhide HLT)).trans (unhide HBc)) (unhide HS k hkn) hx)
      have HNX : Hid (clashL (l.getD k default).n.data.toList x.data.toList = false → ∀ j, j < k + 1 → clashL (l.getD j default).n.data.toList x.data.toList = false) := by
        intro e j hj
        by_cases hjk : j = k
        · rw [hjk]; exact e
        · exact unhide HALL j (by omega)
      clear hc hk HALL hkn
      generalize clashL (l.getD k default).n.data.toList x.data.toList = u at *
      go_wp2_with fail
      refine (unhide HC _ (unhide HBel)).mono ?_
      rintro e z1 ⟨rfl, hz1⟩
      have BZ := hide (bnext (unhide HBel) hz1)
      clear hz1 c0 c1 c2 c3 c4 c5 c6 c7
      cases u
      · have HX := hide (unhide HNX rfl)
        go_wp2
        go_roundw
        case rel => exact ⟨k + 1, by have := unhide HKN; omega, by go_num, unhide HX, unhide BZ⟩
        case measure => have := unhide HKN; simp [intOf]; omega
      · have HE := hide (unhide HHk rfl)
        go_wp2
        go_ret
        exact ⟨⟨(k : Int), rfl, by rw [unhide HE]; simp, by omega⟩, unhide BZ⟩
    · obtain rfl : k = n := by omega
      have HE := hide (unhide HM (unhide HALL))
      go_wp2
      go_ret
      exact ⟨⟨-1, rfl, by rw [unhide HE]; rfl, by omega⟩, unhide HBel⟩

end Go.Proofs.YthlmoakigdlboaaDoor
