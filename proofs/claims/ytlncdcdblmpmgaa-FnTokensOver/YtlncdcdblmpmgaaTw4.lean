/- The walk of the statement: tokens that make more than may be make nothing. -/
import Derived.Test.YtlncdcdblmpmgaaTw1
namespace Go.Proofs.Ytlncdcdblmpmgaa
open Go.RowKit

theorem KRow.front {w : World} {a : Option Addr} {l r : List Tk} (h : KRow w a (l ++ r)) : KRow w a l := by
  intro h0
  obtain ⟨g, o, e, hlt, hc⟩ := h (by rw [List.length_append]; omega)
  refine ⟨g, o, e, hlt, fun i hi => ?_⟩
  have := hc i (by rw [List.length_append]; omega)
  have e2 : (l ++ r).getD i k0 = l.getD i k0 := by
    simp only [List.getD_eq_getElem?_getD]
    rw [List.getElem?_append_left hi]
  rw [e2] at this
  exact this
theorem kown_cap {w : World} {base n cap : Nat} {a : Option Addr} {l : List Tk} (hn : l.length = n) (h : KOwn w base (.slice a n cap) l) : n ≤ cap := by
  have h2 := h.own hn
  rcases h2.2 with ⟨e, _⟩ | ⟨g, c, cur, e, _, _, h3, _⟩
  · cases e; exact Nat.le_refl _
  · cases e; exact h3
theorem over_text {L : List UInt8} (h : L.length ≤ 300) (k : Nat) : textT (toksOf L ++ List.replicate k (byteK 65)) = if L.length + k ≤ 300 then some (L ++ List.replicate k 65) else none := by
  have := bytes_from (toksOf_text h) (List.replicate k 65)
  rw [List.map_replicate, List.length_replicate] at this
  exact this
theorem toksOf_nil {L : List UInt8} (h : ¬ L.length ≤ 300) : toksOf L = [] := by unfold toksOf; rw [if_neg h]

set_option maxHeartbeats 3200000 in
theorem fnTokensOver_walk (a : Option Addr) (len cap : Nat) (zs : List Int) (w : World) (w0 : IsRow .u8 w a len cap zs) :
    Calls Try.prog 14 #[.slice a len cap] w fun e w' => e = .returned (.bool true) ∧ Below w.heap.size w w' := by
  obtain ⟨⟨z, hsrc⟩, hc, hm⟩ := src_of w0
  obtain ⟨i0, hi, hz0, hz1, hz2⟩ := info_parts Try.infoTok
  have hm' := hide hm
  unfold maxLen at hm
  clear w0
  by_cases hl : (len : Int) ≤ 1048576
  · go_enter Try.func14, Try.ntmps14
    go_wp2_with fail
    refine (drawTokensOf_any a len cap z _ hsrc hc (unhide hm')).mono ?_
    rintro e w1 ⟨⟨s, rfl, hs⟩, hb1⟩
    have HB1 := hide hb1
    have hsI : (s.size : Int) ≤ 400 := by omega
    have HS := hide hs
    have hspec := hide (fun W => specTokensOf_any s W (by omega))
    have himpl := hide (fun W => implTokensOf_any s W (by omega))
    have hlen := toksOf_less s.data.toList
    rw [str_len] at hlen
    have hov : Hid (s.size ≤ 300 → ∀ k, textT (toksOf s.data.toList ++ List.replicate k (byteK 65)) = if s.size + k ≤ 300 then some (s.data.toList ++ List.replicate k 65) else none) := fun h k => by
      have := over_text (L := s.data.toList) (by rw [str_len]; exact h) k
      rw [str_len] at this
      exact this
    have hnil : Hid (¬ s.size ≤ 300 → toksOf s.data.toList = []) := fun h => toksOf_nil (by rw [str_len]; exact h)
    generalize toksOf s.data.toList = R at *
    obtain ⟨m, hRm⟩ : ∃ m, R.length = m := ⟨_, rfl⟩
    have HR := hide hRm
    have hmI : (m : Int) ≤ (s.size : Int) := by omega
    have HM : Hid (m ≤ 100000) := by show m ≤ 100000; omega
    clear hs hlen hRm hb1 hsrc hc hm
    go_wp2_with fail
    refine (unhide himpl _).mono ?_
    rintro e x1 ⟨v1, rfl, hg1, hb1⟩
    obtain ⟨ga, gc, rfl⟩ := hg1.formN (unhide HR)
    go_wp2_with fail
    refine (unhide hspec _).mono ?_
    rintro e x2 ⟨v2, rfl, hw2, hb2⟩
    obtain ⟨wa, wc, rfl⟩ := hw2.formN (unhide HR)
    have hg2 := hg1.later hb2 (Nat.le_refl _)
    have h12 := bnext hb1 hb2
    clear hb1 hb2 hg1
    go_wp2_with fail
    refine (cbTokens_same _ _ _ _ m R _ (unhide HR) (hg2.rowN (unhide HR)) (hw2.rowN (unhide HR)) (by have := unhide HM; omega)).mono ?_
    rintro e x3 ⟨rfl, hb3⟩
    have hg3 := hg2.later hb3 (Nat.le_refl _)
    have h13 := bnext h12 hb3
    clear hg2 hw2 hb3 h12
    by_cases h0 : m = 0
    · have h0I : (m : Int) = 0 := by omega
      subst h0
      go_wp2_with fail
      refine (unhide hspec _).mono ?_
      rintro e x4 ⟨v4, rfl, hw4, hb4⟩
      obtain ⟨wa', wc', rfl⟩ := hw4.formN (unhide HR)
      have hg4 := hg3.later hb4 (Nat.le_refl _)
      have h04 := bnext (unhide HB1) (bnext h13 hb4)
      clear hb4 hg3 h13
      go_wp2_with fail
      refine (cbTokens_same _ _ _ _ 0 R _ (unhide HR) (hg4.rowN (unhide HR)) (hw4.rowN (unhide HR)) (by omega)).mono ?_
      rintro e x5 ⟨rfl, hb5⟩
      go_wp2
      go_ret
      exact ⟨rfl, bnext h04 hb5⟩
    · have h0I : ((m : Int) == 0) = false := by simp; omega
      have h3I : (s.size : Int) ≤ 300 := by
        by_cases h : s.size ≤ 300
        · omega
        · have := unhide hnil h
          have e := unhide HR
          rw [this] at e
          exact absurd e.symm h0
      have hov' := hide (unhide hov (by omega))
      have Hg := hide (And.intro hg3 h13)
      have H0 := hide h0
      clear hov hnil hg3 h13 h0
      go_wp2_with fail
      go_loopw [4, 5] (fun v i wr => ∃ k N : Nat, s.size + k = N ∧ N ≤ 301 ∧ i = .int .i64 N ∧ KOwn wr w1.heap.size v (R ++ List.replicate k (byteK 65)) ∧ Below w1.heap.size w1 wr) (fun _ i _ => 302 - (intOf i).toNat)
      case atStart => exact ⟨0, s.size, by omega, by omega, by go_num, by simpa using (unhide Hg).1, (unhide Hg).2⟩
      case round =>
        obtain ⟨k, N, hN, hk, rfl, hq, hbel⟩ := hrel
        have hlen : Hid ((R ++ List.replicate k (byteK 65)).length = m + k) := by show _ = _; rw [List.length_append, unhide HR, List.length_replicate]
        obtain ⟨va, vc, rfl⟩ := hq.formN (unhide hlen)
        have HN := hide hN
        by_cases hlt : (N : Int) ≤ 300
        · have hst : Hid (R ++ List.replicate k (byteK 65) ++ [((65 : Int), 0, 0)] = R ++ List.replicate (k + 1) (byteK 65)) := by show _ = _; rw [List.append_assoc, List.replicate_succ']; rfl
          have bd : Hid (m + k + 1 ≤ maxLen ∧ (m + k + 1) * 24 ≤ 140737488355328) := by show _ ∧ _; have := unhide HM; unfold maxLen; omega
          have hqo := hide (hq.own (unhide hlen))
          have hbs := hbel.size
          have HBel := hide hbel
          clear hq hbel
          go_wp2_with (at_builtin; refine wpList_append_own _ rfl _ _ 25 rfl w1.heap.size 40 i0 (.agg #[.int .i64 0, .int .i64 0, .int .i64 0]) 3 24 Try.underlying25 hi hz0 hz1 hz2 rfl (by decide) _ _ _ rfl (World.ownsRow.alloc (unhide hqo) _) ⟨wr.heap.size, 0, none⟩ 1 1 [.int .i64 65, .int .i64 0, .int .i64 0] rfl rfl (k3_new _ _ _ _ _ _ rfl) (k3_one _ _ _) (unhide bd).1 (unhide bd).2 (size_alloc_le hbs _) ?_; intro v' x2 hown hgrow hnil; clear hnil)
          have hb2 := grown_step (v := .slice va (m + k) vc) hgrow (unhide hqo) (Nat.le_refl _) hbs (unhide HBel)
          have hq2 := kown_snoc (unhide hlen) hown
          rw [unhide hst] at hq2
          clear hown hgrow
          go_wp2
          go_roundw
          case rel => exact ⟨k + 1, N + 1, by have := unhide HN; omega, by omega, by go_num, hq2, hb2⟩
          case measure => simp [intOf]; omega
        · obtain ⟨q, rfl⟩ : ∃ q, k = q + 1 := ⟨k - 1, by omega⟩
          have hT : Hid (textT (R ++ List.replicate (q + 1) (byteK 65)) = none) := by show _ = _; rw [unhide hov', if_neg (by omega)]
          have hU : Hid (textT (R ++ List.replicate q (byteK 65)) = some (⟨(s.data.toList ++ List.replicate q 65).toArray⟩ : ByteArray).data.toList) := by show _ = _; rw [unhide hov', if_pos (by omega)]
          have hst : Hid (R ++ List.replicate (q + 1) (byteK 65) = (R ++ List.replicate q (byteK 65)) ++ [byteK 65]) := by show _ = _; rw [List.append_assoc, List.replicate_succ']
          have hlenU : Hid ((R ++ List.replicate q (byteK 65)).length = m + q) := by show _ = _; rw [List.length_append, unhide HR, List.length_replicate]
          have hcap := kown_cap (unhide hlen) hq
          obtain ⟨M, hM⟩ : ∃ M : Nat, m + q = M := ⟨_, rfl⟩
          have e1 : m + (q + 1) = M + 1 := by omega
          rw [e1] at hlen hq hcap ⊢
          rw [hM] at hlenU
          generalize (⟨(s.data.toList ++ List.replicate q 65).toArray⟩ : ByteArray) = X at *
          generalize R ++ List.replicate q (byteK 65) = U at *
          generalize R ++ List.replicate (q + 1) (byteK 65) = T at *
          have hcapI : (M : Int) + 1 ≤ (vc : Int) := by omega
          have hMI : (M : Int) ≤ 1000 := by have := unhide HM; omega
          have h0 := bnext (unhide HB1) hbel
          have HMM := hide (show M + 1 ≤ 1048576 by omega)
          clear hbel hk hov' hM e1 hN
          have hrow : Hid (∀ W, KRow W va T → KRow W va U) := fun W h => by rw [unhide hst] at h; exact h.front
          go_wp2_with fail
          refine (implText_no _ _ (M + 1) T _ (unhide hlen) (hq.rowN (unhide hlen)) (unhide HMM) (unhide hT)).mono ?_
          rintro e x4 ⟨rfl, hb4⟩
          have hq4 := hq.later hb4 (Nat.le_refl _)
          have h4 := bnext h0 hb4
          clear hq hb4 h0
          go_wp2_with fail
          refine (implText_yes _ _ M U X _ (unhide hlenU) (unhide hrow _ (hq4.rowN (unhide hlen))) (by have := unhide HMM; omega) (unhide hU)).mono ?_
          rintro e x5 ⟨rfl, hb5⟩
          have hq5 := hq4.later hb5 (Nat.le_refl _)
          have h5 := bnext h4 hb5
          clear hq4 hb5 h4
          go_wp2_with fail
          refine (implLong_no _ _ (M + 1) T _ (unhide hlen) (hq5.rowN (unhide hlen)) (unhide HMM) (unhide hT)).mono ?_
          rintro e x6 ⟨rfl, hb6⟩
          go_wp2
          go_ret
          exact ⟨rfl, bnext h5 hb6⟩
  · clear hsrc
    go_enter Try.func14, Try.ntmps14
    go_wp2
    go_ret
    exact ⟨rfl, Below.refl _ _⟩

end Go.Proofs.Ytlncdcdblmpmgaa
