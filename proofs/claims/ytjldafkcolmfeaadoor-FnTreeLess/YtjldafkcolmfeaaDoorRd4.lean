/- Contracts of what draws an input out of a code: the texts themselves. -/
import Derived.Test.YtjldafkcolmfeaaDoorRd3
import Derived.Laws.IdiomStrings
import Derived.Laws.OwnMore
namespace Go.Proofs.YtjldafkcolmfeaaDoor
open Go.RowKit

def four (a b c d : ByteArray) : Nat → ByteArray
  | 0 => a | 1 => b | 2 => c | _ => d
def seven (a b c d e f g : ByteArray) : Nat → ByteArray
  | 0 => a | 1 => b | 2 => c | 3 => d | 4 => e | 5 => f | _ => g
theorem fourS_cells (w : World) (a b c d : ByteArray) (t : TypeId) : ∀ i, i < 4 → (w.alloc (.cells #[.string a, .string b, .string c, .string d] t)).cell? ⟨w.heap.size, 0 + i, none⟩ = some (.string (four a b c d i)) := by
  intro i hi
  match i, hi with
  | 0, _ => simp [four]
  | 1, _ => simp [four]
  | 2, _ => simp [four]
  | 3, _ => simp [four]
theorem seven_cells (w : World) (a b c d e f g : ByteArray) (t : TypeId) : ∀ i, i < 7 → (w.alloc (.cells #[.string a, .string b, .string c, .string d, .string e, .string f, .string g] t)).cell? ⟨w.heap.size, 0 + i, none⟩ = some (.string (seven a b c d e f g i)) := by
  intro i hi
  match i, hi with
  | 0, _ => simp [seven]
  | 1, _ => simp [seven]
  | 2, _ => simp [seven]
  | 3, _ => simp [seven]
  | 4, _ => simp [seven]
  | 5, _ => simp [seven]
  | 6, _ => simp [seven]

theorem four_size {a b c d : ByteArray} {n : Nat} (ha : a.size ≤ n) (hb : b.size ≤ n) (hc : c.size ≤ n) (hd : d.size ≤ n) (i : Nat) : (four a b c d i).size ≤ n := by
  match i with
  | 0 => exact ha
  | 1 => exact hb
  | 2 => exact hc
  | _ + 3 => exact hd
theorem seven_size {a b c d e f g : ByteArray} {n : Nat} (ha : a.size ≤ n) (hb : b.size ≤ n) (hc : c.size ≤ n) (hd : d.size ≤ n) (he : e.size ≤ n) (hf : f.size ≤ n) (hg : g.size ≤ n) (i : Nat) : (seven a b c d e f g i).size ≤ n := by
  match i with
  | 0 => exact ha
  | 1 => exact hb
  | 2 => exact hc
  | 3 => exact hd
  | 4 => exact he
  | 5 => exact hf
  | _ + 6 => exact hg

theorem of_le (B b m lb lo n cap M : Nat) (v : Nat → ByteArray) (w : World) (h : Rd w B b m) (hm : m ≤ 100000) (n1 : 0 < n) (n2 : n ≤ 70000) (hlb : lb ≠ b) (hc : ∀ i, i < n → w.cell? ⟨lb, lo + i, none⟩ = some (.string (v i))) (hv : ∀ i, (v i).size ≤ M) :
    Calls Tryd.prog 25 #[.pointer (some ⟨b, 0, none⟩), .slice (some ⟨lb, lo, none⟩) n cap] w fun e w' => ∃ t : ByteArray, t.size ≤ M ∧ e = .returned (.string t) ∧ Rd w' B b (m + 1) ∧ Only b w w' := by
  refine (of_any B b m lb lo n cap v w h hm n1 n2 hlb hc).mono ?_
  rintro e w' ⟨i, _, he, hr, ho⟩
  exact ⟨v i, hv i, he, hr, ho⟩

theorem bytes_back {w : World} {g cap : Nat} {l : List UInt8} {base : Nat} (h : w.ownsRow base 5 1 (.slice (some ⟨g, 0, none⟩) l.length cap) l.length (l.map fun x => Value.int .u8 (x.toNat : Int))) :
    (convert 22 9 (.slice (some ⟨g, 0, none⟩) l.length cap)).run Tryd.prog w = .ok (.string ⟨l.toArray⟩) w :=
  run_convert_bytes_back w _ _ _ ⟨g, 0, none⟩ cap l Tryd.underlying22 Tryd.underlying5 Tryd.underlying9 (fun j hj => by
    have := h.cells (g := g) rfl j (.int .u8 (l[j].toNat : Int)) (by simp [hj])
    exact this)

theorem Tryd.infoByte : (Tryd.prog.info? 5).map (fun i => (i.zero, i.size, i.bytes)) = some (some (.int .u8 0), 1, 1) := by kernel_rfl

/-- A byte of a number from 0 to 255. -/
theorem byte_of (r : Int) (h0 : 0 ≤ r) (h1 : r < 256) : ∃ x : UInt8, (x.toNat : Int) = r := by
  obtain ⟨k, rfl⟩ := Int.eq_ofNat_of_zero_le h0
  refine ⟨UInt8.ofNat k, ?_⟩
  have : k % 256 = k := Nat.mod_eq_of_lt (by omega)
  simp [this]

set_option maxRecDepth 100000 in
set_option maxHeartbeats 1600000 in
theorem l11Text_any (B b m : Nat) (w : World) (h : Rd w B b m) (hm : m ≤ 90000) :
    Calls Tryd.prog 24 #[.pointer (some ⟨b, 0, none⟩)] w fun e w' => (∃ s : ByteArray, e = .returned (.string s) ∧ s.size ≤ 300) ∧ Rd w' B b (m + 50) ∧ Below b w w' := by
  obtain ⟨i0, hi, hz0, hz1, hz2⟩ := info_parts Tryd.infoByte
  go_enter Tryd.func24, Tryd.ntmps24
  go_wp2_with fail
  refine (pick_any B b m _ _ h (by omega) (by omega) (by omega)).mono ?_
  rintro e w1 ⟨r, rfl, r0, r1, hrd1, hon1⟩
  have hlt1 := hrd1.lt
  by_cases h0 : r = 0
  · subst h0
    go_wp2
    go_ret
    exact ⟨⟨_, rfl, by decide⟩, hrd1.mono (by omega), hon1.1⟩
  have g0 : (r == 0) = false := by simpa using h0
  by_cases h1 : r = 1
  · subst h1
    clear h0 g0
    go_wp2_with fail
    refine (of_le B b (m + 1) w1.heap.size 0 4 4 6 _ _ (hrd1.alloc _) (by omega) (by omega) (by omega) (Nat.ne_of_gt hlt1) (fourS_cells w1 _ _ _ _ _) (four_size (by decide) (by decide) (by decide) (by decide))).mono ?_
    rintro e w2 ⟨t0, hsz, rfl, hrd2, hon2⟩
    go_wp2_with fail
    refine (pick_any B b (m + 2) _ _ hrd2 (by omega) (by omega) (by omega)).mono ?_
    rintro e w3 ⟨r', rfl, r0', r1', hrd3, hon3⟩
    go_wp2_with fail
    refine (l1Many_any _ _ _ (by omega) (by omega) (by omega)).mono ?_
    rintro e w4 ⟨⟨t, rfl, ht⟩, rfl⟩
    go_wp2
    go_ret
    refine ⟨⟨t, rfl, ?_⟩, hrd3.mono (by omega), ((hon1.1.alloc (Nat.le_of_lt hlt1) _).trans hon2.1).trans hon3.1⟩
    rw [ht]
    have := Nat.mul_le_mul hsz (show (1 + r').toNat ≤ 40 by omega)
    omega
  have g1 : (r == 1) = false := by simpa using h1
  by_cases h2 : r = 2
  · subst h2
    clear h0 h1 g0 g1
    go_wp2_with fail
    refine (pick_any B b (m + 1) _ _ (hrd1.alloc _) (by omega) (by omega) (by omega)).mono ?_
    rintro e w2 ⟨r', rfl, r0', r1', hrd2, hon2⟩
    obtain ⟨n0, rfl⟩ := Int.eq_ofNat_of_zero_le r0'
    have hown0 : w2.ownsRow (b + 1) 5 1 (.slice (some ⟨w1.heap.size, 0, none⟩) 0 0) 0 [] :=
      owns_only (World.ownsRow_lit w1 #[] 0 (by omega) (by unfold maxLen; omega) rfl) hon2 (by omega)
    have hbel2 := (hon1.1.alloc (Nat.le_of_lt hlt1) (.cells #[] 5)).trans hon2.1
    go_wp2_with fail
    go_loopw [3, 4] (fun o n wr => ∃ (l : List UInt8) (k : Nat), n = .int .i64 k ∧ k ≤ 39 ∧ l.length + k ≤ 39 ∧ o ≠ .slice none 0 0 ∧ wr.ownsRow (b + 1) 5 1 o l.length (l.map fun x => Value.int .u8 (x.toNat : Int)) ∧ Rd wr B b (m + 42 - k) ∧ Below b w wr) (fun _ n _ => (intOf n).toNat)
    case atStart => exact ⟨[], n0, rfl, by omega, by simp; omega, by simp, hown0, hrd2.mono (by omega), hbel2⟩
    case round =>
      obtain ⟨l, k, rfl, hk, hlk, hnn, hown, hrd, hbel⟩ := hrel
      have hltr := hrd.lt
      have hk' : (k : Int) ≤ 39 := by omega
      have HL := hide hlk
      clear hk hlk hrd1 hrd2 hon1 hon2 hbel2 hown0
      by_cases hp : (0 : Int) < (k : Int)
      · go_wp2_with fail
        refine (pick_any B b (m + 42 - k) _ _ hrd (by omega) (by omega) (by omega)).mono ?_
        rintro e w3 ⟨q, rfl, q0, q1, hrd3, hon3⟩
        obtain ⟨x, rfl⟩ := byte_of q q0 q1
        have hown3 := owns_only hown hon3 (by omega)
        have hblk : ∀ j, u3.ownBlock = some j → b < j := fun j hj => (hown3.lt j hj).1
        have hlt3 := hrd3.lt
        have hbel3 := hbel.trans hon3.1
        clear hown hrd hon3
        go_wp2_with (at_builtin; refine wpList_append_own _ rfl _ _ 22 rfl (b + 1) 5 i0 (.int .u8 0) 1 1 Tryd.underlying22 hi hz0 hz1 hz2 rfl (by decide) _ _ _ rfl (hown3.alloc _) ⟨w3.heap.size, 0, none⟩ 1 1 [.int .u8 (x.toNat : Int)] rfl rfl ?c1 ?c2 ?c3 ?c4 ?c5 ?_)
        case c1 =>
          intro j u hj
          match j, hj with
          | 0, hj => simp at hj; subst hj; simp [Addr.add]
        case c2 => intro u hu; simp at hu; subst hu; rfl
        case c3 => have := unhide HL; unfold maxLen; omega
        case c4 => have := unhide HL; omega
        case c5 => simp; omega
        intro v' w4 hown4 hgrow hnil
        have hb4 : Rd w4 B b (m + 42 - k + 1) := (hrd3.alloc _).grown hgrow hblk
        have hbel4 : Below b w w4 := (hbel3.alloc (Nat.le_of_lt hlt3) _).grown hgrow (by simp; omega) (fun j hj => Nat.le_of_lt (hblk j hj))
        have hnn4 : v' ≠ .slice none 0 0 := hnil
        have hown5 : w4.ownsRow (b + 1) 5 1 v' (l ++ [x]).length ((l ++ [x]).map fun x => Value.int .u8 (x.toNat : Int)) := by simpa using hown4
        clear hown4 hgrow hown3 hrd3 hbel3 hnil
        go_wp2
        go_roundw
        case rel => exact ⟨l ++ [x], k - 1, by go_num, by omega, by have := unhide HL; simp; omega, hnn4, hown5, hb4.mono (by omega), hbel4⟩
        case measure => simp [intOf]; omega
      · obtain ⟨g, cap, rfl⟩ : ∃ g cap, u3 = .slice (some ⟨g, 0, none⟩) l.length cap := by
          rcases hown.2 with ⟨e, _⟩ | ⟨g, cap, _, e, _⟩
          · exact absurd e hnn
          · exact ⟨g, cap, e⟩
        have hback := bytes_back hown
        go_wp2
        go_ret
        exact ⟨⟨_, rfl, by have := unhide HL; simp [ByteArray.size]; omega⟩, hrd.mono (by omega), hbel⟩
  have g2 : (r == 2) = false := by simpa using h2
  by_cases h3 : r = 3
  · subst h3
    clear h0 h1 h2 g0 g1 g2
    go_wp2_with (go_at_call 26; refine (l1Many_any _ _ _ (by omega) (by omega) (by decide)).mono ?_; rintro e w' ⟨⟨t, rfl, ht⟩, rfl⟩)
    go_ret
    exact ⟨⟨t, rfl, by rw [ht]; decide⟩, hrd1.mono (by omega), hon1.1⟩
  have g3 : (r == 3) = false := by simpa using h3
  clear h0 h1 h2 h3
  go_wp2_with fail
  refine (pick_any B b (m + 1) _ _ hrd1 (by omega) (by omega) (by omega)).mono ?_
  rintro e w2 ⟨r', rfl, r0', r1', hrd2, hon2⟩
  obtain ⟨n0, rfl⟩ := Int.eq_ofNat_of_zero_le r0'
  have hbel2 := hon1.1.trans hon2.1
  go_wp2_with fail
  go_loopw [5, 6] (fun o n wr => ∃ (s : ByteArray) (k : Nat), o = .string s ∧ n = .int .i64 k ∧ k ≤ 11 ∧ s.size + 6 * k ≤ 66 ∧ Rd wr B b (m + 20 - k) ∧ Below b w wr) (fun _ n _ => (intOf n).toNat)
  case atStart => exact ⟨ByteArray.empty, n0, rfl, rfl, by omega, by show 0 + 6 * n0 ≤ 66; omega, hrd2.mono (by omega), hbel2⟩
  case round =>
    obtain ⟨s, k, rfl, rfl, hk, hsz, hrd, hbel⟩ := hrel
    have hltr := hrd.lt
    have hk' : (k : Int) ≤ 11 := by omega
    have hsz' : (s.size : Int) + 6 * k ≤ 66 := by omega
    have HK := hide hk
    clear hk hsz hrd1 hrd2 hon1 hon2 hbel2 hi hz0 hz1 hz2
    by_cases hp : (0 : Int) < (k : Int)
    · go_wp2_with fail
      refine (of_le B b (m + 20 - k) wr.heap.size 0 7 7 6 _ _ (hrd.alloc _) (by omega) (by omega) (by omega) (Nat.ne_of_gt hltr) (seven_cells wr _ _ _ _ _ _ _ _) (seven_size (by decide) (by decide) (by decide) (by decide) (by decide) (by decide) (by decide))).mono ?_
      rintro e w3 ⟨t0, hsz0, rfl, hrd3, hon3⟩
      go_wp2
      go_roundw
      case rel => exact ⟨s ++ t0, k - 1, rfl, by go_num, by omega, by rw [ByteArray.size_append]; omega, hrd3.mono (by omega), (hbel.alloc (Nat.le_of_lt hltr) _).trans hon3.1⟩
      case measure => simp [intOf]; omega
    · go_wp2
      go_ret
      exact ⟨⟨s, rfl, by omega⟩, hrd.mono (by omega), hbel⟩

end Go.Proofs.YtjldafkcolmfeaaDoor
