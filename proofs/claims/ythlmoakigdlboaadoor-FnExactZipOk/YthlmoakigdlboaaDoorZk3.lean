/- Rows of files; the place of one: the model's l7At. -/
import Derived.Test.YthlmoakigdlboaaDoorZk2
namespace Go.Proofs.YthlmoakigdlboaaDoor
open Go.RowKit

/-- A file. -/
structure En where
  n : ByteArray
  y : Int
  mo : Int
  d : Int
  h : Int
  mi : Int
  s : Int
  t : ByteArray
instance : Inhabited En := ⟨⟨ByteArray.empty, 0, 0, 0, 0, 0, 0, ByteArray.empty⟩⟩
/-- The eight cells of a file. -/
def EnAt (w : World) (g o : Nat) (e : En) : Prop :=
  w.cell? ⟨g, o, none⟩ = some (.string e.n) ∧ w.cell? ⟨g, o + 1, none⟩ = some (.int .i64 e.y) ∧ w.cell? ⟨g, o + 2, none⟩ = some (.int .i64 e.mo) ∧ w.cell? ⟨g, o + 3, none⟩ = some (.int .i64 e.d) ∧
  w.cell? ⟨g, o + 4, none⟩ = some (.int .i64 e.h) ∧ w.cell? ⟨g, o + 5, none⟩ = some (.int .i64 e.mi) ∧ w.cell? ⟨g, o + 6, none⟩ = some (.int .i64 e.s) ∧ w.cell? ⟨g, o + 7, none⟩ = some (.string e.t)
/-- A row of files. -/
def ERow (w : World) (a : Option Addr) (l : List En) : Prop := 0 < l.length → ∃ g o, a = some ⟨g, o, none⟩ ∧ g < w.heap.size ∧ ∀ i, i < l.length → EnAt w g (o + i * 8) (l.getD i default)
theorem ERow.later {w w' : World} {a : Option Addr} {l : List En} (h : ERow w a l) (hb : Below w.heap.size w w') : ERow w' a l := by
  intro h0
  obtain ⟨g, o, e, hg, hc⟩ := h h0
  refine ⟨g, o, e, Nat.lt_of_lt_of_le hg hb.size, fun i hi => ?_⟩
  obtain ⟨c0, c1, c2, c3, c4, c5, c6, c7⟩ := hc i hi
  exact ⟨(hb.cell (p := ⟨g, o + i * 8, none⟩) hg).trans c0, (hb.cell (p := ⟨g, o + i * 8 + 1, none⟩) hg).trans c1, (hb.cell (p := ⟨g, o + i * 8 + 2, none⟩) hg).trans c2, (hb.cell (p := ⟨g, o + i * 8 + 3, none⟩) hg).trans c3,
    (hb.cell (p := ⟨g, o + i * 8 + 4, none⟩) hg).trans c4, (hb.cell (p := ⟨g, o + i * 8 + 5, none⟩) hg).trans c5, (hb.cell (p := ⟨g, o + i * 8 + 6, none⟩) hg).trans c6, (hb.cell (p := ⟨g, o + i * 8 + 7, none⟩) hg).trans c7⟩

/-- The place of a name; -1 if there is none. -/
def atN (l : List En) (x : ByteArray) : Int := match l.findIdx? (fun e => e.n.data.toList == x.data.toList) with
  | some i => (i : Int)
  | none => -1
theorem atN_hit {l : List En} {x : ByteArray} {k : Nat} (hk : k < l.length) (h : ∀ j, j < k → ¬ (l.getD j default).n.toList = x.toList) (e : (l.getD k default).n.toList = x.toList) : atN l x = (k : Int) := by
  have : l.findIdx? (fun e => e.n.data.toList == x.data.toList) = some k := by
    rw [List.findIdx?_eq_some_iff_getElem]
    refine ⟨hk, ?_, fun j hj => ?_⟩
    · have := list_of_ba.1 e
      simp only [List.getD, List.getElem?_eq_getElem hk, Option.getD_some] at this
      simpa using this
    · have hj' : j < l.length := by omega
      have := h j hj
      simp only [List.getD, List.getElem?_eq_getElem hj', Option.getD_some] at this
      simp only [beq_iff_eq]
      exact fun e => this (list_of_ba.2 e)
  unfold atN; rw [this]
theorem atN_miss {l : List En} {x : ByteArray} (h : ∀ j, j < l.length → ¬ (l.getD j default).n.toList = x.toList) : atN l x = -1 := by
  have : l.findIdx? (fun e => e.n.data.toList == x.data.toList) = none := by
    rw [List.findIdx?_eq_none_iff]
    intro e he
    obtain ⟨j, hj, rfl⟩ := List.getElem_of_mem he
    have := h j hj
    simp only [List.getD, List.getElem?_eq_getElem hj, Option.getD_some] at this
    simp only [beq_eq_false_iff_ne, ne_eq]
    exact fun e => this (list_of_ba.2 e)
  unfold atN; rw [this]

set_option maxHeartbeats 800000 in
theorem l7At_any (a : Option Addr) (cap : Nat) (l : List En) (n : Nat) (hn : l.length = n) (x : ByteArray) (w : World) (h : ERow w a l) (hl : (n : Int) ≤ 1048576) :
    Calls Tryd.prog 11 #[.slice a n cap, .string x] w fun e w' => e = .returned (.int .i64 (atN l x)) ∧ w' = w := by
  have HH := hide (fun k (hk : k < l.length) => @atN_hit l x k hk)
  have HM := hide (@atN_miss l x)
  have HR := hide h
  rw [hn] at HH HM
  have HN := hide hn
  clear h hn
  go_enter Tryd.func11, Tryd.ntmps11
  go_wp2_with fail
  go_loop [5] (fun i => ∃ k : Nat, k ≤ n ∧ i = .int .i64 k ∧ ∀ j, j < k → ¬ (l.getD j default).n.toList = x.toList) (fun i => n - (intOf i).toNat)
  case atStart => exact ⟨0, Nat.zero_le _, rfl, fun j hj => absurd hj (by omega)⟩
  case round =>
    obtain ⟨k, hk, rfl, hall⟩ := hrel
    have HALL := hide hall
    clear hall
    by_cases hkn : k < n
    · have hkI : (k : Int) < (n : Int) := by omega
      obtain ⟨g, o, rfl, hg, hc⟩ := unhide HR (by have := unhide HN; omega)
      obtain ⟨c0, _, _, _, _, _, _, _⟩ := hc k (by have := unhide HN; omega)
      have HHk := hide (unhide HH k hkn (unhide HALL))
      have HNX : Hid (¬ (l.getD k default).n.toList = x.toList → ∀ j, j < k + 1 → ¬ (l.getD j default).n.toList = x.toList) := by
        intro e j hj
        by_cases hjk : j = k
        · rw [hjk]; exact e
        · exact unhide HALL j (by omega)
      have HKN := hide hkn
      clear hc hk HALL HR
      generalize (l.getD k default).n = p at *
      by_cases e : p.toList = x.toList
      · have HE := hide (unhide HHk e)
        go_wp2
        go_ret
        exact ⟨ret_int (unhide HE).symm, rfl⟩
      · have HE := hide (unhide HNX e)
        have eB : (p.toList == x.toList) = false := by simp only [beq_eq_false_iff_ne, ne_eq]; exact e
        go_wp2
        go_round
        case rel => exact ⟨k + 1, by have := unhide HKN; omega, by go_num, unhide HE⟩
        case measure => have := unhide HKN; simp [intOf]; omega
    · obtain rfl : k = n := by omega
      have HE := hide (unhide HM (unhide HALL))
      go_wp2
      go_ret
      exact ⟨ret_int (unhide HE).symm, rfl⟩

end Go.Proofs.YthlmoakigdlboaaDoor
