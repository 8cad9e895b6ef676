/- Contracts of the draw of tokens, over this seat's program. -/
import Derived.Test.YtlncdcdblmpmgaaDt1
import Derived.Test.YtlncdcdblmpmgaaRdo
import Derived.Test.YtlncdcdblmpmgaaTo2
namespace Go.Proofs.Ytlncdcdblmpmgaa
open Go.RowKit

theorem kown_cap {w : World} {base n cap : Nat} {a : Option Addr} {l : List Tk} (hn : l.length = n) (h : KOwn w base (.slice a n cap) l) : n ≤ cap := by
  have h2 := h.own hn
  rcases h2.2 with ⟨e, _⟩ | ⟨g, c, cur, e, _, _, h3, _⟩
  · cases e; exact Nat.le_refl _
  · cases e; exact h3
theorem KRow.rest {w : World} {g o : Nat} {t : Tk} {l : List Tk} (h : KRow w (some ⟨g, o, none⟩) (t :: l)) : KRow w (some ⟨g, o + 3, none⟩) l := by
  intro h0
  obtain ⟨g', o', e, hlt, hc⟩ := h (by simp)
  cases e
  refine ⟨g, o + 3, rfl, hlt, fun i hi => ?_⟩
  have := hc (i + 1) (by simp; omega)
  rw [show o + (i + 1) * 3 = o + 3 + i * 3 by omega] at this
  exact this

set_option maxHeartbeats 3200000 in
theorem l11Tokens_any (B b m : Nat) (w : World) (h : Rd w B b m) (hm : m ≤ 70000) :
    Calls Try.prog 41 #[.pointer (some ⟨b, 0, none⟩)] w fun e w' => (∃ (ts : List Tk) (a : Option Addr) (n cap : Nat), e = .returned (.slice a n cap) ∧ ts.length = n ∧ n ≤ cap ∧ n ≤ 500 ∧ KRow w' a ts) ∧ Below b w w' := by
  obtain ⟨i0, hi, hz0, hz1, hz2⟩ := info_parts Try.infoTok
  go_enter Try.func41, Try.ntmps41
  go_wp2_with fail
  refine (l11Text_any B b m _ h (by omega)).mono ?_
  rintro e w1 ⟨⟨s, rfl, hs⟩, hrd1, hbel1⟩
  have hlt1 := hrd1.lt
  have HT := hide (l4Tokens_any s w1 (by omega))
  have hlen : Hid ((toksP s.data.toList 0).length ≤ 400) := by
    have h1 := toksP_len s.data.toList s.size 0 (by rw [str_len]; omega)
    rw [str_len] at h1
    show _ ≤ 400
    omega
  generalize toksP s.data.toList 0 = R at *
  go_wp2_with fail
  refine (unhide HT).mono ?_
  rintro e w2 ⟨v2, rfl, hk2', hb2⟩
  have hk2 := hk2'.mono (base' := b + 1) hlt1
  obtain ⟨n, hn⟩ : ∃ n, R.length = n := ⟨_, rfl⟩
  have HN := hide hn
  obtain ⟨ra, rc, rfl⟩ := hk2.formN hn
  have hnI : (n : Int) ≤ 400 := by have := unhide hlen; omega
  have hrd2 : Rd w2 B b (m + 50) := hrd1.kept (hb2.mono hlt1)
  have hbel2 : Below b w w2 := hbel1.trans (hb2.mono (Nat.le_of_lt hlt1))
  clear hk2' HT hn hbel1 hrd1 hb2 hs h
  go_wp2_with fail
  refine (pick_any B b _ _ _ hrd2 (by omega) (by omega) (by omega)).mono ?_
  rintro e w3 ⟨r, rfl, r0, r1, hrd3, hon3⟩
  have hk3 : KOwn w3 (b + 1) (.slice ra n rc) R := owns_only hk2 hon3 (by omega)
  have hbel3 := hbel2.trans hon3.1
  have hlt3 := hrd3.lt
  have hcap := kown_cap (unhide HN) hk3
  have bd : Hid (n + 1 ≤ maxLen ∧ (n + 1) * 24 ≤ 140737488355328) := by show _ ∧ _; unfold maxLen; omega
  clear hk2 hon3 hbel2 hrd2
  by_cases h0 : r = 0
  · subst h0
    go_wp2_with fail
    refine (one_only B b _ 5 [2, 3, 60, 61, 0] _ _ rfl hrd3 (by omega) (by omega) (by omega)).mono ?_
    rintro e w4 ⟨x, _, rfl, hrd4, hon4⟩
    have hk4 : KOwn w4 (b + 1) (.slice ra n rc) R := owns_only (World.ownsRow.alloc hk3 _) hon4 (by omega)
    have hbel4 := (hbel3.alloc (Nat.le_of_lt hlt3) _).trans hon4.1
    have hlt4 := hrd4.lt
    clear hk3 hon4
    go_wp2_with fail
    refine (one_only B b _ 5 [0, 1, 5, 250, 251] _ _ rfl hrd4 (by omega) (by omega) (by omega)).mono ?_
    rintro e w5 ⟨y, _, rfl, hrd5, hon5⟩
    have hk5 : KOwn w5 (b + 1) (.slice ra n rc) R := owns_only (World.ownsRow.alloc hk4 _) hon5 (by omega)
    have hbel5 := (hbel4.alloc (Nat.le_of_lt hlt4) _).trans hon5.1
    have hlt5 := hrd5.lt
    have hqo := hide (hk5.own (unhide HN))
    clear hk4 hon5
    go_wp2_with (at_builtin; refine wpList_append_own _ rfl _ _ 25 rfl (b + 1) 40 i0 (.agg #[.int .i64 0, .int .i64 0, .int .i64 0]) 3 24 Try.underlying25 hi hz0 hz1 hz2 rfl (by decide) _ _ _ rfl (World.ownsRow.alloc (unhide hqo) _) ⟨w5.heap.size, 0, none⟩ 1 1 [.int .i64 0, .int .i64 x, .int .i64 y] rfl rfl (k3_new _ _ _ _ _ _ rfl) (k3_one _ _ _) (unhide bd).1 (unhide bd).2 (size_alloc_le hlt5 _) ?_; intro v' w6 hown hgrow hnil; clear hnil)
    have hblk : ∀ j, (Value.slice ra n rc).ownBlock = some j → b < j := fun j hj => (World.ownsRow.lt hk5 j hj).1
    have hbel6 : Below b w w6 := (hbel5.alloc (Nat.le_of_lt hlt5) _).grown hgrow (by simp; omega) (fun j hj => Nat.le_of_lt (hblk j hj))
    have hk6 := kown_snoc (unhide HN) hown
    have hln : Hid ((R ++ [((0 : Int), x, y)]).length = n + 1) := by show _ = _; rw [List.length_append, unhide HN]; rfl
    clear hown hgrow
    obtain ⟨va, vc, rfl⟩ := hk6.formN (unhide hln)
    go_wp2
    go_ret
    exact ⟨⟨_, _, _, _, rfl, unhide hln, kown_cap (unhide hln) hk6, by omega, hk6.rowN (unhide hln)⟩, hbel6⟩
  · have g0 : (r == 0) = false := by simpa using h0
    by_cases h1 : r = 1
    · subst h1
      clear h0
      go_wp2_with fail
      refine (one_only B b _ 3 [-1, 256, 65] _ _ rfl hrd3 (by omega) (by omega) (by omega)).mono ?_
      rintro e w5 ⟨x, _, rfl, hrd5, hon5⟩
      have hk5 : KOwn w5 (b + 1) (.slice ra n rc) R := owns_only (World.ownsRow.alloc hk3 _) hon5 (by omega)
      have hbel5 := (hbel3.alloc (Nat.le_of_lt hlt3) _).trans hon5.1
      have hlt5 := hrd5.lt
      have hqo := hide (hk5.own (unhide HN))
      clear hk3 hon5
      go_wp2_with (at_builtin; refine wpList_append_own _ rfl _ _ 25 rfl (b + 1) 40 i0 (.agg #[.int .i64 0, .int .i64 0, .int .i64 0]) 3 24 Try.underlying25 hi hz0 hz1 hz2 rfl (by decide) _ _ _ rfl (World.ownsRow.alloc (unhide hqo) _) ⟨w5.heap.size, 0, none⟩ 1 1 [.int .i64 x, .int .i64 0, .int .i64 0] rfl rfl (k3_new _ _ _ _ _ _ rfl) (k3_one _ _ _) (unhide bd).1 (unhide bd).2 (size_alloc_le hlt5 _) ?_; intro v' w6 hown hgrow hnil; clear hnil)
      have hblk : ∀ j, (Value.slice ra n rc).ownBlock = some j → b < j := fun j hj => (World.ownsRow.lt hk5 j hj).1
      have hbel6 : Below b w w6 := (hbel5.alloc (Nat.le_of_lt hlt5) _).grown hgrow (by simp; omega) (fun j hj => Nat.le_of_lt (hblk j hj))
      have hk6 := kown_snoc (unhide HN) hown
      have hln : Hid ((R ++ [(x, (0 : Int), (0 : Int))]).length = n + 1) := by show _ = _; rw [List.length_append, unhide HN]; rfl
      clear hown hgrow
      obtain ⟨va, vc, rfl⟩ := hk6.formN (unhide hln)
      go_wp2
      go_ret
      exact ⟨⟨_, _, _, _, rfl, unhide hln, kown_cap (unhide hln) hk6, by omega, hk6.rowN (unhide hln)⟩, hbel6⟩
    · have g1 : (r == 1) = false := by simpa using h1
      by_cases h2 : r = 2
      · subst h2
        clear h0 h1
        by_cases hz : n = 0
        · subst hz
          go_wp2
          go_ret
          exact ⟨⟨_, _, _, _, rfl, unhide HN, hcap, by omega, hk3.rowN (unhide HN)⟩, hbel3⟩
        · obtain ⟨g, rfl⟩ := hk3.somes (by rw [unhide HN]; omega)
          have hn1 : (1 : Int) ≤ (n : Int) := by omega
          have hcI : (n : Int) ≤ (rc : Int) := by omega
          have hn0 : decide ((0 : Int) < (n : Int)) = true := decide_eq_true (by omega)
          have hrow : Hid (KRow w3 (some ⟨g, 0 + 3, none⟩) R.tail ∧ R.tail.length = n - 1) := by
            show _ ∧ _
            have hR := unhide HN
            have h3 := hk3.rowN (unhide HN)
            cases R with
            | nil => simp at hR; omega
            | cons t l => exact ⟨h3.rest, by rw [← hR]; rfl⟩
          have HZ := hide hz
          clear hk3 hz
          go_wp2
          · go_ret
            exact ⟨⟨R.tail, _, _, _, rfl, (unhide hrow).2, by omega, by omega, fun h9 => by have := (unhide hrow).2; omega⟩, hbel3⟩
          · go_ret
            exact ⟨⟨R.tail, _, _, _, rfl, (unhide hrow).2, by omega, by omega, (unhide hrow).1⟩, hbel3⟩
      · have g2 : (r == 2) = false := by simpa using h2
        clear h0 h1 h2
        go_wp2
        go_ret
        exact ⟨⟨_, _, _, _, rfl, unhide HN, hcap, by omega, hk3.rowN (unhide HN)⟩, hbel3⟩

theorem drawTokensText_any (a : Option Addr) (len cap : Nat) (z : Nat → Int) (w : World) (h : Src w a len z) (hc : len ≤ cap) (hm : len ≤ maxLen) :
    Calls Try.prog 30 #[.slice a len cap] w fun e w' => (∃ (ts : List Tk) (a : Option Addr) (n cap : Nat), e = .returned (.slice a n cap) ∧ ts.length = n ∧ n ≤ cap ∧ n ≤ 500 ∧ KRow w' a ts) ∧ Below w.heap.size w w' := by
  go_enter Try.func30, Try.ntmps30
  go_wp2_with fail
  refine (l1Open_any a len cap z _ h hc hm).mono ?_
  rintro e w1 ⟨rfl, hrd, hbel, hsz⟩
  go_wp2_with fail
  refine (l11Tokens_any _ _ 0 _ hrd (by omega)).mono ?_
  rintro e w2 ⟨⟨ts, pa, n, pc, rfl, h1, h2, h3, h4⟩, hbel2⟩
  go_wp2
  go_ret
  exact ⟨⟨ts, pa, n, pc, rfl, h1, h2, h3, h4⟩, hbel.trans hbel2⟩

end Go.Proofs.Ytlncdcdblmpmgaa
