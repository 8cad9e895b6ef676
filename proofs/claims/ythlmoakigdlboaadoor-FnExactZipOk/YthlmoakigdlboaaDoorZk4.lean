/- Whether files make an archive: the model's ZipOk. -/
import Derived.Test.YthlmoakigdlboaaDoorZk3
import Derived.Test.YthlmoakigdlboaaDoorEk1
namespace Go.Proofs.YthlmoakigdlboaaDoor
open Go.RowKit

def entE (e : En) : Bool := entB e.n e.y e.mo e.d e.h e.mi e.s e.t
/-- No name is within that of a place. -/
def freeB (l : List En) (i : Nat) : Bool := (List.range l.length).all fun k => !undL (l.getD i default).n.data.toList (l.getD k default).n.data.toList
def oneB (l : List En) (i : Nat) : Bool := entE (l.getD i default) && (decide (atN l (l.getD i default).n = (i : Int)) && freeB l i)
/-- Files make an archive. -/
def zipB (l : List En) : Bool := (List.range l.length).all (oneB l) && decide (l.length ≤ 6)
theorem zip_no {l : List En} {i : Nat} (hi : i < l.length) (h : oneB l i = false) : zipB l = false := by
  have : (List.range l.length).all (oneB l) = false := by
    rw [List.all_eq_false]
    exact ⟨i, List.mem_range.2 hi, by simp [h]⟩
  simp [zipB, this]
theorem zip_yes {l : List En} (h : ∀ i, i < l.length → oneB l i = true) : zipB l = decide (l.length ≤ 6) := by
  have : (List.range l.length).all (oneB l) = true := by
    rw [List.all_eq_true]
    exact fun i hi => h i (List.mem_range.1 hi)
  simp [zipB, this]
theorem free_no {l : List En} {i k : Nat} (hk : k < l.length) (h : undL (l.getD i default).n.data.toList (l.getD k default).n.data.toList = true) : freeB l i = false := by
  unfold freeB
  rw [List.all_eq_false]
  exact ⟨k, List.mem_range.2 hk, by rw [h]; decide⟩
theorem free_yes {l : List En} {i : Nat} (h : ∀ k, k < l.length → undL (l.getD i default).n.data.toList (l.getD k default).n.data.toList = false) : freeB l i = true := by
  unfold freeB
  rw [List.all_eq_true]
  exact fun k hk => by rw [h k (List.mem_range.1 hk)]; rfl

set_option maxHeartbeats 4000000 in
theorem specZipOk_any (a : Option Addr) (cap : Nat) (l : List En) (n : Nat) (hn : l.length = n) (w : World) (h : ERow w a l) (hl : (n : Int) ≤ 1048576)
    (hs : ∀ i, i < n → (l.getD i default).n.size ≤ 1048576 ∧ ((l.getD i default).t.size : Int) ≤ 9223372036854775807) :
    Calls Tryd.prog 5 #[.slice a n cap] w fun e w' => e = .returned (.bool (zipB l)) ∧ Below w.heap.size w w' := by
  have HS := hide hs
  have HR := hide h
  have HZN := hide (fun i (hi : i < l.length) => @zip_no l i hi)
  have HZY := hide (@zip_yes l)
  have HFN := hide (fun i k (hk : k < l.length) => @free_no l i k hk)
  have HFY := hide (fun i => @free_yes l i)
  rw [hn] at HZN HZY HFN HFY
  have HN := hide hn
  clear h hs hn
  go_enter Tryd.func5, Tryd.ntmps5
  go_wp2_with fail
  go_loopw [3, 4] (fun i _ wr => ∃ k : Nat, k ≤ n ∧ i = .int .i64 k ∧ (∀ j, j < k → oneB l j = true) ∧ Below w.heap.size w wr) (fun i _ _ => n - (intOf i).toNat)
  case atStart => exact ⟨0, Nat.zero_le _, rfl, fun j hj => absurd hj (by omega), Below.refl _ _⟩
  case round =>
    obtain ⟨k, hk, rfl, hall, hbel⟩ := hrel
    have HALL := hide hall
    have HBel := hide hbel
    clear hall hbel
    by_cases hkn : k < n
    · have hkI : (k : Int) < (n : Int) := by omega
      have RW := hide ((unhide HR).later (unhide HBel))
      obtain ⟨g, o, rfl, hg, hc⟩ := unhide RW (by have := unhide HN; omega)
      obtain ⟨c0, c1, c2, c3, c4, c5, c6, c7⟩ := hc k (by have := unhide HN; omega)
      have HKN := hide hkn
      have HSk := hide (unhide HS k hkn)
      have HZk := hide (unhide HZN k hkn)
      have HOne : Hid (oneB l k = (entE (l.getD k default) && (decide (atN l (l.getD k default).n = (k : Int)) && freeB l k))) := rfl
      have HNX : Hid (oneB l k = true → ∀ j, j < k + 1 → oneB l j = true) := by
        intro e j hj
        by_cases hjk : j = k
        · rw [hjk]; exact e
        · exact unhide HALL j (by omega)
      have HFNk := hide (unhide HFN k)
      have HFYk := hide (unhide HFY k)
      have hsz : ((l.getD k default).n.size : Int) ≤ 1048576 := by have := (unhide HSk).1; omega
      have HEnt := hide (fun W => specEntryOk_any (l.getD k default).n (l.getD k default).y (l.getD k default).mo (l.getD k default).d (l.getD k default).h (l.getD k default).mi (l.getD k default).s (l.getD k default).t W (unhide HSk).1 (unhide HSk).2)
      have HAt := hide (fun W hW => l7At_any (some ⟨g, o, none⟩) cap l n (unhide HN) (l.getD k default).n W hW hl)
      have HUn := hide (fun j (hj : j < n) W => l7Under_any (l.getD k default).n (l.getD j default).n W hsz (by have := (unhide HS j hj).1; omega))
      have HNm : Hid (∀ W, Below w.heap.size w W → ∀ j, j < n → W.cell? ⟨g, o + j * 8, none⟩ = some (.string (l.getD j default).n)) := by
        intro W hW j hj
        obtain ⟨g', o', e', _, hc'⟩ := (unhide HR).later hW (by have := unhide HN; omega)
        simp only [Option.some.injEq, Addr.mk.injEq, and_true] at e'
        obtain ⟨rfl, rfl⟩ := e'
        exact (hc' j (by have := unhide HN; omega)).1
      have HE0 : Hid (entE (l.getD k default) = entB (l.getD k default).n (l.getD k default).y (l.getD k default).mo (l.getD k default).d (l.getD k default).h (l.getD k default).mi (l.getD k default).s (l.getD k default).t) := rfl
      clear hc hk HALL hkn
      generalize entE (l.getD k default) = be at *
      go_wp2_with fail
      refine (unhide HEnt _).mono ?_
      rintro e z1 ⟨rfl, hz1⟩
      rw [← unhide HE0]
      have BZ1 := hide (bnext (unhide HBel) hz1)
      have hc0 := unhide HNm _ (unhide BZ1) k (unhide HKN)
      clear hz1 c0 c1 c2 c3 c4 c5 c6 c7 HE0 HEnt
      cases be
      · have HP := hide (unhide HZk (by rw [unhide HOne]; rfl))
        go_wp2
        go_ret
        exact ⟨ret_bool (unhide HP).symm, unhide BZ1⟩
      · go_wp2_with fail
        refine (unhide HAt _ ((unhide HR).later (unhide BZ1))).mono ?_
        rintro e z2 ⟨rfl, hz2⟩
        rw [hz2]
        clear hz2
        generalize atN l (l.getD k default).n = A at *
        by_cases hA : A = (k : Int)
        · subst hA
          go_wp2_with fail
          go_loopw [4] (fun q wr => ∃ m : Nat, m ≤ n ∧ q = .int .i64 m ∧ (∀ j, j < m → undL (l.getD k default).n.data.toList (l.getD j default).n.data.toList = false) ∧ Below w.heap.size w wr) (fun q _ => n - (intOf q).toNat)
          case atStart => exact ⟨0, Nat.zero_le _, rfl, fun j hj => absurd hj (by omega), unhide BZ1⟩
          case round =>
            obtain ⟨m, hm, rfl, hfr, hbel⟩ := hrel
            have HFR := hide hfr
            have HB2 := hide hbel
            clear hfr hbel hc0
            by_cases hmn : m < n
            · have hmI : (m : Int) < (n : Int) := by omega
              have d0 := unhide HNm _ (unhide HB2) k (unhide HKN)
              have d1 := unhide HNm _ (unhide HB2) m hmn
              have HU1 := hide (unhide HUn m hmn)
              have HFm := hide (unhide HFNk m hmn)
              have HMN := hide hmn
              have HFX : Hid (undL (l.getD k default).n.data.toList (l.getD m default).n.data.toList = false → ∀ j, j < m + 1 → undL (l.getD k default).n.data.toList (l.getD j default).n.data.toList = false) := by
                intro e j hj
                by_cases hjm : j = m
                · rw [hjm]; exact e
                · exact unhide HFR j (by omega)
              clear hm HFR
              generalize undL (l.getD k default).n.data.toList (l.getD m default).n.data.toList = u at *
              cases u
              · have HX := hide (unhide HFX rfl)
                go_wp2_with fail
                go_quiet ((go_at_call 12; exact Calls.quiet_of_same (unhide HU1 _)))
                go_wp2
                go_roundw
                case rel => exact ⟨m + 1, by have := unhide HMN; omega, by go_num, unhide HX, below_drewN (unhide HB2) _⟩
                case measure => have := unhide HMN; simp [intOf]; omega
              · have HP := hide (unhide HZk (by rw [unhide HOne, unhide HFm rfl]; simp))
                go_wp2_with fail
                go_quiet ((go_at_call 12; exact Calls.quiet_of_same (unhide HU1 _)))
                go_wp2
                go_ret
                exact ⟨ret_bool (unhide HP).symm, below_drewN (unhide HB2) _⟩
            · obtain rfl : m = n := by omega
              have HX := hide (unhide HNX (by rw [unhide HOne, unhide HFYk (unhide HFR)]; simp))
              go_wp2
              go_roundw
              case rel => exact ⟨k + 1, by have := unhide HKN; omega, by go_num, unhide HX, unhide HB2⟩
              case measure => have := unhide HKN; simp [intOf]; omega
        · have HP := hide (unhide HZk (by rw [unhide HOne]; simp [hA]))
          have hA' : (A == (k : Int)) = false := by simp [hA]
          go_wp2
          go_ret
          exact ⟨ret_bool (unhide HP).symm, unhide BZ1⟩
    · obtain rfl : k = n := by omega
      have HY := hide (unhide HZY (unhide HALL))
      by_cases h6 : k ≤ 6
      · have h6I : (k : Int) ≤ 6 := by omega
        go_wp2
        go_ret
        exact ⟨ret_bool (by rw [unhide HY]; simp [h6]), unhide HBel⟩
      · have h6I : ¬ (k : Int) ≤ 6 := by omega
        go_wp2
        go_ret
        exact ⟨ret_bool (by rw [unhide HY]; simp [h6]), unhide HBel⟩

end Go.Proofs.YthlmoakigdlboaaDoor
