/- The walk of the statement: a text is read back from its bytes, one by one. -/
import Derived.Test.YtlncdcdblmpmgaaTw1
namespace Go.Proofs.Ytlncdcdblmpmgaa
open Go.RowKit

theorem specText_yes (a : Option Addr) (cap n : Nat) (ts : List Tk) (s : ByteArray) (w : World) (hn : ts.length = n) (h : KRow w a ts) (hm : n ≤ 1048576) (ht : textT ts = some s.data.toList) :
    Calls Try.prog 20 #[.slice a n cap] w fun e w' => e = .returned (.tuple #[.string s, .bool true]) ∧ Below w.heap.size w w' := by
  refine (specTokensText_any a cap n ts w hn h hm).mono ?_
  obtain ⟨h1, h2, _⟩ := textAll ht
  rintro e w' ⟨rfl, hb⟩
  rw [h1, h2, str_back]
  exact ⟨rfl, hb⟩
theorem specText_no (a : Option Addr) (cap n : Nat) (ts : List Tk) (w : World) (hn : ts.length = n) (h : KRow w a ts) (hm : n ≤ 1048576) (ht : textT ts = none) :
    Calls Try.prog 20 #[.slice a n cap] w fun e w' => e = .returned (.tuple #[.string ⟨#[]⟩, .bool false]) ∧ Below w.heap.size w w' := by
  refine (specTokensText_any a cap n ts w hn h hm).mono ?_
  obtain ⟨h1, h2, _⟩ := textNone ht
  rintro e w' ⟨rfl, hb⟩
  rw [h1, h2]
  exact ⟨rfl, hb⟩
theorem bytes_step (s : ByteArray) (k : Nat) (h : k < s.size) : (s.data.toList.take k).map byteK ++ [((s[k].toNat : Int), 0, 0)] = (s.data.toList.take (k + 1)).map byteK := by
  have e := str_at s k h
  have hl := str_len s
  have e2 : s.data.toList.take (k + 1) = s.data.toList.take k ++ [s[k]] := by
    rw [List.take_add_one, ← e, List.getD_eq_getElem?_getD, List.getElem?_eq_getElem (by omega)]
    rfl
  rw [e2, List.map_append]
  rfl

set_option maxHeartbeats 3200000 in
theorem fnTokensByte_walk (a : Option Addr) (len cap : Nat) (zs : List Int) (w : World) (w0 : IsRow .u8 w a len cap zs) :
    Calls Try.prog 10 #[.slice a len cap] w fun e w' => e = .returned (.bool true) ∧ Below w.heap.size w w' := by
  obtain ⟨⟨z, hsrc⟩, hc, hm⟩ := src_of w0
  obtain ⟨i0, hi, hz0, hz1, hz2⟩ := info_parts Try.infoTok
  have hm' := hide hm
  unfold maxLen at hm
  clear w0
  by_cases hl : (len : Int) ≤ 1048576
  · go_enter Try.func10, Try.ntmps10
    go_wp2_with fail
    refine (drawTokensOf_any a len cap z _ hsrc hc (unhide hm')).mono ?_
    rintro e w1 ⟨⟨s, rfl, hs⟩, hb1⟩
    have HB1 := hide hb1
    have hsI : (s.size : Int) ≤ 400 := by omega
    have HS := hide hs
    have hL := hide (str_len s)
    have hq0 : Hid (KOwn (w1.alloc (.cells #[] 40)) w1.heap.size (.slice (some ⟨w1.heap.size, 0, none⟩) 0 0) []) := KOwn.lit _ _ (Nat.le_refl _)
    have hb0 : Hid (Below w1.heap.size w1 (w1.alloc (.cells #[] 40))) := (Below.refl _ _).alloc (Nat.le_refl _) _
    have htx := hide (bytes_from (D := []) (s := []) rfl s.data.toList)
    clear hs hb1 hsrc hc hm
    go_wp2_with fail
    go_loopw [4, 5] (fun v i wr => ∃ k : Nat, k ≤ s.size ∧ i = .int .i64 k ∧ KOwn wr w1.heap.size v ((s.data.toList.take k).map byteK) ∧ Below w1.heap.size w1 wr) (fun _ i _ => s.size - (intOf i).toNat)
    case atStart => exact ⟨0, Nat.zero_le _, rfl, unhide hq0, unhide hb0⟩
    case round =>
      obtain ⟨k, hk, rfl, hq, hbel⟩ := hrel
      have hlen : Hid (((s.data.toList.take k).map byteK).length = k) := by show _ = _; rw [List.length_map, List.length_take, unhide hL]; omega
      obtain ⟨va, vc, rfl⟩ := hq.formN (unhide hlen)
      by_cases hlt : k < s.size
      · have hltI : (k : Int) < (s.size : Int) := by omega
        have hx256 : (s[k].toNat : Int) < 256 := by have := UInt8.toNat_lt s[k]; omega
        have hst := hide (bytes_step s k hlt)
        have bd : Hid (k + 1 ≤ maxLen ∧ (k + 1) * 24 ≤ 140737488355328) := by show _ ∧ _; unfold maxLen; omega
        have hqo := hide (hq.own (unhide hlen))
        have hbs := hbel.size
        have HBel := hide hbel
        clear hq hbel
        go_wp2_with (at_builtin; refine wpList_append_own _ rfl _ _ 25 rfl w1.heap.size 40 i0 (.agg #[.int .i64 0, .int .i64 0, .int .i64 0]) 3 24 Try.underlying25 hi hz0 hz1 hz2 rfl (by decide) _ _ _ rfl (World.ownsRow.alloc (unhide hqo) _) ⟨wr.heap.size, 0, none⟩ 1 1 [.int .i64 (s[k].toNat : Int), .int .i64 0, .int .i64 0] rfl rfl (k3_new _ _ _ _ _ _ rfl) (k3_one _ _ _) (unhide bd).1 (unhide bd).2 (size_alloc_le hbs _) ?_; intro v' x2 hown hgrow hnil; clear hnil)
        have hb2 := grown_step (v := .slice va k vc) hgrow (unhide hqo) (Nat.le_refl _) hbs (unhide HBel)
        have hq2 := kown_snoc (unhide hlen) hown
        rw [unhide hst] at hq2
        clear hown hgrow
        go_wp2
        go_roundw
        case rel => exact ⟨k + 1, by omega, by go_num, hq2, hb2⟩
        case measure => simp [intOf]; omega
      · obtain rfl : k = s.size := by omega
        have hall : Hid ((s.data.toList.take s.size).map byteK = s.data.toList.map byteK) := by show _ = _; rw [List.take_of_length_le (by rw [unhide hL]; exact Nat.le_refl _)]
        rw [unhide hall] at hq
        have hlen2 : Hid ((s.data.toList.map byteK).length = s.size) := by show _ = _; rw [List.length_map, unhide hL]
        have htx2 : Hid (textT (s.data.toList.map byteK) = if s.size ≤ 300 then some s.data.toList else none) := by
          have := unhide htx
          simp only [List.nil_append, List.length_nil, Nat.zero_add] at this
          rw [unhide hL] at this
          exact this
        generalize s.data.toList.map byteK = T at *
        have h0 := bnext (unhide HB1) hbel
        clear hbel hlen hall htx hk
        by_cases h3 : (s.size : Int) ≤ 300
        · have hd3 : decide ((s.size : Int) ≤ 300) = true := decide_eq_true h3
          have hT : Hid (textT T = some s.data.toList) := by show _ = _; rw [unhide htx2, if_pos (by omega)]
          clear hlt
          go_wp2_with fail
          refine (implText_yes _ _ s.size T s _ (unhide hlen2) (hq.rowN (unhide hlen2)) (by omega) (unhide hT)).mono ?_
          rintro e x4 ⟨rfl, hb4⟩
          have hq4 := hq.later hb4 (Nat.le_refl _)
          have h4 := bnext h0 hb4
          clear hq hb4 h0
          go_wp2_with fail
          refine (specText_yes _ _ s.size T s _ (unhide hlen2) (hq4.rowN (unhide hlen2)) (by omega) (unhide hT)).mono ?_
          rintro e x5 ⟨rfl, hb5⟩
          have hq5 := hq4.later hb5 (Nat.le_refl _)
          have h5 := bnext h4 hb5
          clear hq4 hb5 h4
          go_wp2_with fail
          refine (implLong_yes _ _ s.size s.size T _ _ (unhide hlen2) (hq5.rowN (unhide hlen2)) (by omega) (unhide hT) (unhide hL)).mono ?_
          rintro e x6 ⟨rfl, hb6⟩
          go_wp2
          go_ret
          exact ⟨rfl, bnext h5 hb6⟩
        · have hd3 : decide ((s.size : Int) ≤ 300) = false := decide_eq_false h3
          have hT : Hid (textT T = none) := by show _ = _; rw [unhide htx2, if_neg (by omega)]
          clear hlt
          go_wp2_with fail
          refine (implText_no _ _ s.size T _ (unhide hlen2) (hq.rowN (unhide hlen2)) (by omega) (unhide hT)).mono ?_
          rintro e x4 ⟨rfl, hb4⟩
          have hq4 := hq.later hb4 (Nat.le_refl _)
          have h4 := bnext h0 hb4
          clear hq hb4 h0
          go_wp2_with fail
          refine (specText_no _ _ s.size T _ (unhide hlen2) (hq4.rowN (unhide hlen2)) (by omega) (unhide hT)).mono ?_
          rintro e x5 ⟨rfl, hb5⟩
          go_wp2
          go_ret
          exact ⟨rfl, bnext h4 hb5⟩
  · clear hsrc
    go_enter Try.func10, Try.ntmps10
    go_wp2
    go_ret
    exact ⟨rfl, Below.refl _ _⟩

end Go.Proofs.Ytlncdcdblmpmgaa
