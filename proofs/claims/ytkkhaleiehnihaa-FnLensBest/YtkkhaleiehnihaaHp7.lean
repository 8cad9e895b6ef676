/- The program's heap of groups: each symbol that comes is laid on it. -/
import Derived.Test.YtkkhaleiehnihaaHp6
namespace Go.Proofs.Ytkkhaleiehnihaa
open Go.RowKit Corb

theorem seed_lenle (l : List Int) (k : Nat) : (seed l k).length ≤ k := by
  induction k with
  | zero => simp [seed]
  | succ k ih =>
    simp only [seed]
    split
    · simp; omega
    · omega

set_option maxHeartbeats 1600000 in
theorem symHeapOf_any (a : Option Addr) (cap n : Nat) (l : List Int) (w : World) (hn : l.length = n) (h : IRow w a l) (hm : n ≤ 300) :
    Calls Try.prog 37 #[.slice a n cap] w fun e w' => e = .returned (.pointer (some ⟨w.heap.size, 0, none⟩)) ∧ ∃ (L : List Grp) (va : Option Addr) (vc : Nat), Heap w' w.heap.size (w.heap.size + 1) (.slice va L.length vc) L ∧ HP L ∧ (L.map bare).Perm (seed l n) ∧ Syms w' (w.heap.size + 1) L ∧ Below w.heap.size w w' := by
  have hmI : (n : Int) ≤ 300 := by omega
  have HN := hide (And.intro hn hm)
  have hB0 : Below w.heap.size w (w.alloc (.cells #[.slice none 0 0] 57)) := (Below.refl _ _).alloc (Nat.le_refl _) _
  have hH0 : Heap (w.alloc (.cells #[.slice none 0 0] 57)) w.heap.size (w.heap.size + 1) (.slice none 0 0) [] := ⟨heap_push _ _, World.ownsRow_nil _ _ _ _⟩
  clear hn hm
  go_enter Try.func37, Try.ntmps37
  go_wp2_with fail
  go_loopw [4, 5, 10] (fun _ _ i wr => ∃ (k : Nat) (L : List Grp) (va : Option Addr) (vc : Nat), k ≤ n ∧ i = .int .i64 k ∧ Heap wr w.heap.size (w.heap.size + 1) (.slice va L.length vc) L ∧ HP L ∧ (L.map bare).Perm (seed l k) ∧ Syms wr (w.heap.size + 1) L ∧ Below w.heap.size w wr) (fun _ _ i _ => n - (intOf i).toNat)
  case atStart => exact ⟨0, [], none, 0, Nat.zero_le _, rfl, hH0, fun i _ hi => by simp at hi, List.Perm.refl _, syms_nil _ _, hB0⟩
  case round =>
    obtain ⟨k, L, va, vc, hk, rfl, hh, hp, hL, hs, hbel⟩ := hrel
    clear hB0 hH0
    by_cases hlt : k < n
    · obtain ⟨g, o, rfl, hg, hcc⟩ := (h.later hbel) (by rw [(unhide HN).1]; omega)
      have c0 := hcc k (by rw [(unhide HN).1]; exact hlt)
      have hlen : L.length < 300 := by
        have h1 := hL.length_eq
        rw [List.length_map] at h1
        have h2 := seed_lenle l k
        have := (unhide HN).2
        omega
      have HQ := hide (And.intro hk (And.intro hh (And.intro hp (And.intro hL (And.intro hs hbel)))))
      clear hcc
      by_cases hy : 0 < l.getD k 0
      · have hst := hide (seed_yes hy)
        generalize l.getD k 0 = y at *
        have hB1 : Below wr.heap.size wr (wr.alloc (.cells #[.int .i64 (k : Int)] 3)) := (Below.refl _ _).alloc (Nat.le_refl _) _
        have hA : IOwn (wr.alloc (.cells #[.int .i64 (k : Int)] 3)) (w.heap.size + 1) (.slice (some ⟨wr.heap.size, 0, none⟩) 1 1) [(k : Int)] := IOwn.one wr _ hh.lt _
        have HLa := hide (lay_any w.heap.size L.length vc va L ⟨y, (k : Int), [(k : Int)], .slice (some ⟨wr.heap.size, 0, none⟩) 1 1⟩ _ ((KeepT.below hB1).syms hs) hA rfl hlen (hh.later hB1) hp)
        have HB1 := hide hB1
        have HA := hide hA
        clear hk hh hp hL hs hbel hA hB1 hlen
        go_wp2_with fail
        refine (unhide HLa).mono ?_
        rintro e x1 ⟨rfl, M, g', c', hM, hHP, hh1, hb1, hk1⟩
        go_wp2
        go_roundw
        case rel =>
          obtain ⟨hk, hh, hp, hL, hs, hbel⟩ := unhide HQ
          have hlM : M.length = L.length + 1 := by rw [hM.length_eq]; simp
          refine ⟨k + 1, M, some ⟨g', 0, none⟩, c', by omega, by go_num, by rw [hlM]; exact hh1, hHP, ?_, ?_, (hbel.trans ((unhide HB1).mono (Nat.le_of_lt hh.lt))).trans hb1⟩
          · rw [unhide hst]
            refine (hM.map bare).trans ?_
            rw [List.map_append]
            exact hL.append_right _
          · exact ((hk1.syms ((KeepT.below (unhide HB1)).syms hs)).snoc (hk1.ints (unhide HA))).perm hM
        case measure => simp [intOf]; omega
      · have hst := hide (seed_no hy)
        generalize l.getD k 0 = y at *
        clear hk hh hp hL hs hbel hlen
        go_wp2
        go_roundw
        case rel =>
          obtain ⟨hk, hh, hp, hL, hs, hbel⟩ := unhide HQ
          exact ⟨k + 1, L, va, vc, by omega, by go_num, hh, hp, by rw [unhide hst]; exact hL, hs, hbel⟩
        case measure => simp [intOf]; omega
    · obtain rfl : k = n := by omega
      clear h
      go_wp2
      go_ret
      exact ⟨rfl, L, va, vc, hh, hp, hL, hs, hbel⟩

end Go.Proofs.Ytkkhaleiehnihaa
