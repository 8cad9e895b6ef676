/- Walks of the statements: what is unpacked ends where it ends; what is packed in no way that there is; how it begins. -/
import Derived.Test.YtpmidjddjdejmaaGreatDoorM23
import Derived.Test.YtpmidjddjdejmaaGreatDoorM21
namespace Go.Proofs.YtpmidjddjdejmaaGreatDoor
open Go.RowKit Corb
set_option maxRecDepth 100000
theorem kind_three {s : ByteArray} {T : List UInt8} {q : Nat} (h : flateG s = some (T, q)) : numB s / 2 ^ (0 + 1) % 2 ^ 2 ≤ 2 := by
  unfold flateG at h
  split at h
  · unfold wholeG at h
    rcases h1 : partsG (numB s) (8 * s.size) 0 [] with _ | ⟨T1, q1⟩
    · rw [h1] at h; cases h
    rw [partsG_step] at h1
    rcases h2 : rdN (numB s) (8 * s.size) 0 1 with _ | ⟨a, p1⟩
    · rw [h2] at h1; cases h1
    rw [h2] at h1
    simp only [Option.bind_some] at h1
    have b2 := rdN_bd h2
    rcases h3 : rdN (numB s) (8 * s.size) p1 2 with _ | ⟨k, p2⟩
    · rw [h3] at h1; cases h1
    rw [h3] at h1
    simp only [Option.bind_some] at h1
    have b3 := rdN_bd h3
    rcases h4 : kindG (numB s) (8 * s.size) k p2 [] with _ | r
    · rw [h4] at h1; cases h1
    rw [← b2.2.1, ← b3.2.2.1]
    unfold kindG at h4
    split at h4
    · omega
    · split at h4
      · omega
      · split at h4
        · omega
        · cases h4
  · cases h
theorem first_kind (x : ByteArray) : numB x / 2 ^ (0 + 1) % 2 ^ 2 = (x.data.toList.getD 0 0).toNat / 2 % 4 := by
  have h1 := valB_get x.data.toList 0
  rw [Nat.mul_zero, Nat.pow_zero, Nat.div_one] at h1
  rw [← h1]
  unfold numB
  omega
theorem kind_two (s : ByteArray) : -1 ≤ kindV s ∧ kindV s ≤ 2 := by
  unfold kindV
  rcases h : flateG s with _ | ⟨T, q⟩
  · exact ⟨by simp, by simp⟩
  · have h1 := kind_three h
    rw [first_kind] at h1
    simp only
    omega
theorem bad_first (b : UInt8) (s : ByteArray) (h : b.toNat / 2 % 4 = 3) : flateG (⟨#[b]⟩ ++ s) = none := by
  rcases h1 : flateG (⟨#[b]⟩ ++ s) with _ | ⟨T, q⟩
  · exact h1
  · have h2 := kind_three h1
    rw [first_kind, cat_list] at h2
    have e : (⟨#[b]⟩ : ByteArray).data.toList ++ s.data.toList = b :: s.data.toList := rfl
    rw [e, List.getD_cons_zero, h] at h2
    omega
theorem empty_none : flateG ⟨#[]⟩ = none := by
  rcases h : flateG ⟨#[]⟩ with _ | ⟨T, q⟩
  · rfl
  · have h2 := flateG_pos h
    exact absurd h2 (by decide)
theorem implGet_none (x : ByteArray) (w : World) (hx : x.size ≤ 100000) (h : flateG x = none) (hO : OrdC w) :
    Calls Tryz.prog 14 #[.string x] w fun e w' => e = .returned (.tuple #[.string ⟨#[]⟩, .int .i64 0, .bool false]) ∧ Below w.heap.size w w' := by
  refine (implFlateGet_any x w (by omega) hO).mono ?_
  rintro e w' ⟨rfl, hb⟩
  rw [h]
  exact ⟨rfl, hb⟩
theorem implGet_some (x : ByteArray) (T : List UInt8) (q : Nat) (w : World) (hx : x.size ≤ 100000) (h : flateG x = some (T, q)) (hO : OrdC w) :
    Calls Tryz.prog 14 #[.string x] w fun e w' => e = .returned (.tuple #[.string ⟨T.toArray⟩, .int .i64 ((q / 8 : Nat) : Int), .bool true]) ∧ Below w.heap.size w w' := by
  refine (implFlateGet_any x w (by omega) hO).mono ?_
  rintro e w' ⟨rfl, hb⟩
  rw [h]
  exact ⟨rfl, hb⟩
set_option maxHeartbeats 3200000 in
theorem fnFlateBad_walk (a : Option Addr) (len cap : Nat) (zs : List Int) (w : World) (w0 : IsRow .u8 w a len cap zs) (hO : OrdC w) :
    Calls Tryz.prog 7 #[.slice a len cap] w fun e w' => e = .returned (.bool true) ∧ Below w.heap.size w w' := by
  obtain ⟨⟨z, hsrc⟩, hc, hm⟩ := src_of w0
  have HDr := hide (drawFlateKind_any a len cap z w hsrc hc hm)
  unfold maxLen at hm
  have HO := hide hO
  clear w0 hsrc hc hO
  by_cases hl : (len : Int) ≤ 1048576
  · go_enter Tryz.func7, Tryz.ntmps7
    go_wp2_with fail
    refine (unhide HDr).mono ?_
    rintro e w1 ⟨⟨s, rfl, hs⟩, hb1⟩
    have HB1 := hide hb1
    have HO1 := hide ((unhide HO).later hb1)
    have hsI : (s.size : Int) ≤ 9100 := by omega
    clear hb1 HDr HO
    have K1 := hide (fun W (h : OrdC W) => implFlateKind_any s W (by omega) h)
    have K2 := hide (fun W => specFlateKind_any s W (by omega))
    obtain ⟨b1, b2⟩ := kind_two s
    have hz : ∀ b : UInt8, ((⟨#[b]⟩ : ByteArray) ++ s).size ≤ 100000 := fun b => by
      rw [cat_size]
      have : (⟨#[b]⟩ : ByteArray).size = 1 := rfl
      omega
    have G7 := hide (fun W (h : OrdC W) => implGet_none _ W (hz 7) (bad_first 7 s (by decide)) h)
    have G6 := hide (fun W (h : OrdC W) => implGet_none _ W (hz 6) (bad_first 6 s (by decide)) h)
    have G0 := hide (fun W (h : OrdC W) => implGet_none ⟨#[]⟩ W (by decide) empty_none h)
    generalize kindV s = d at *
    clear hz
    have HC1 := hide (unhide K1 w1 (unhide HO1))
    go_wp2_with fail
    refine (unhide HC1).mono ?_
    rintro e w2 ⟨rfl, hb2⟩
    have HB2 := hide (bnext (unhide HB1) hb2)
    have HO2 := hide ((unhide HO1).later hb2)
    clear hb2 HC1 HB1 HO1
    have HC2 := hide (unhide K2 w2)
    go_wp2_with fail
    refine (unhide HC2).mono ?_
    rintro e w3 ⟨rfl, hb3⟩
    have HB3 := hide (bnext (unhide HB2) hb3)
    have HO3 := hide ((unhide HO2).later hb3)
    clear hb3 HC2 HB2 HO2
    have HC3 := hide (unhide G7 w3 (unhide HO3))
    go_wp2_with fail
    refine (unhide HC3).mono ?_
    rintro e w4 ⟨rfl, hb4⟩
    have HB4 := hide (bnext (unhide HB3) hb4)
    have HO4 := hide ((unhide HO3).later hb4)
    clear hb4 HC3 HB3 HO3
    have HC4 := hide (unhide G6 w4 (unhide HO4))
    go_wp2_with fail
    refine (unhide HC4).mono ?_
    rintro e w5 ⟨rfl, hb5⟩
    have HB5 := hide (bnext (unhide HB4) hb5)
    have HO5 := hide ((unhide HO4).later hb5)
    clear hb5 HC4 HB4 HO4
    have HC5 := hide (unhide G0 w5 (unhide HO5))
    go_wp2_with fail
    refine (unhide HC5).mono ?_
    rintro e w6 ⟨rfl, hb6⟩
    have HB6 := hide (bnext (unhide HB5) hb6)
    have HO6 := hide ((unhide HO5).later hb6)
    clear hb6 HC5 HB5 HO5
    go_wp2
    all_goals
      go_ret
      exact ⟨rfl, unhide HB6⟩
  · go_enter Tryz.func7, Tryz.ntmps7
    go_wp2
    go_ret
    exact ⟨rfl, Below.refl _ _⟩
set_option maxHeartbeats 3200000 in
theorem fnFlateKinds_walk (a : Option Addr) (len cap : Nat) (zs : List Int) (w : World) (w0 : IsRow .u8 w a len cap zs) (hO : OrdC w) :
    Calls Tryz.prog 8 #[.slice a len cap] w fun e w' => e = .returned (.bool true) ∧ Below w.heap.size w w' := by
  obtain ⟨⟨z, hsrc⟩, hc, hm⟩ := src_of w0
  have HDr := hide (drawFlateKind_any a len cap z w hsrc hc hm)
  unfold maxLen at hm
  have HO := hide hO
  clear w0 hsrc hc hO
  by_cases hl : (len : Int) ≤ 1048576
  · go_enter Tryz.func8, Tryz.ntmps8
    go_wp2_with fail
    refine (unhide HDr).mono ?_
    rintro e w1 ⟨⟨s, rfl, hs⟩, hb1⟩
    have HB1 := hide hb1
    have HO1 := hide ((unhide HO).later hb1)
    have hsI : (s.size : Int) ≤ 9100 := by omega
    clear hb1 HDr HO
    have K1 := hide (fun W (h : OrdC W) => implFlateKind_any s W (by omega) h)
    have K2 := hide (fun W => specFlateKind_any s W (by omega))
    rcases hG : flateG s with _ | ⟨T, q⟩
    · have hk : kindV s = -1 := by unfold kindV; rw [hG]
      have G1 := hide (fun W (h : OrdC W) => implGet_none s W (by omega) hG h)
      rw [hk] at K1 K2
      clear hk hG
      have HC1 := hide (unhide K1 w1 (unhide HO1))
      go_wp2_with fail
      refine (unhide HC1).mono ?_
      rintro e w2 ⟨rfl, hb2⟩
      have HB2 := hide (bnext (unhide HB1) hb2)
      have HO2 := hide ((unhide HO1).later hb2)
      clear hb2 HC1 HB1 HO1
      have HC2 := hide (unhide G1 w2 (unhide HO2))
      go_wp2_with fail
      refine (unhide HC2).mono ?_
      rintro e w3 ⟨rfl, hb3⟩
      have HB3 := hide (bnext (unhide HB2) hb3)
      have HO3 := hide ((unhide HO2).later hb3)
      clear hb3 HC2 HB2 HO2
      have HC3 := hide (unhide K2 w3)
      go_wp2_with fail
      refine (unhide HC3).mono ?_
      rintro e w4 ⟨rfl, hb4⟩
      have HB4 := hide (bnext (unhide HB3) hb4)
      have HO4 := hide ((unhide HO3).later hb4)
      clear hb4 HC3 HB3 HO3
      have HC4 := hide (unhide K2 w4)
      go_wp2_with fail
      refine (unhide HC4).mono ?_
      rintro e w5 ⟨rfl, hb5⟩
      have HB5 := hide (bnext (unhide HB4) hb5)
      have HO5 := hide ((unhide HO4).later hb5)
      clear hb5 HC4 HB4 HO4
      go_wp2
      all_goals
        go_ret
        exact ⟨rfl, unhide HB5⟩
    · have h0 := flateG_pos hG
      have h0I : (0 : Int) < (s.size : Int) := by omega
      have hk : kindV s = (((s.data.toList.getD 0 0).toNat / 2 % 4 : Nat) : Int) := by unfold kindV; rw [hG]
      have hr : Int.tmod (wrap64 ((wrap64 (s[0].toNat : Int)).tdiv 2)) 4 = kindV s := by rw [hk]; exact kind_rem s h0
      have hk0 : 0 ≤ kindV s := by rw [hk]; omega
      have G1 := hide (fun W (h : OrdC W) => implGet_some s T q W (by omega) hG h)
      generalize kindV s = d at *
      generalize (⟨T.toArray⟩ : ByteArray) = R at *
      have HR := hide hr
      clear hk hG hr
      have HC1 := hide (unhide K1 w1 (unhide HO1))
      go_wp2_with fail
      refine (unhide HC1).mono ?_
      rintro e w2 ⟨rfl, hb2⟩
      have HB2 := hide (bnext (unhide HB1) hb2)
      have HO2 := hide ((unhide HO1).later hb2)
      clear hb2 HC1 HB1 HO1
      have HC2 := hide (unhide G1 w2 (unhide HO2))
      go_wp2_with fail
      refine (unhide HC2).mono ?_
      rintro e w3 ⟨rfl, hb3⟩
      have HB3 := hide (bnext (unhide HB2) hb3)
      have HO3 := hide ((unhide HO2).later hb3)
      clear hb3 HC2 HB2 HO2
      have HC3 := hide (unhide K2 w3)
      go_wp2_with fail
      refine (unhide HC3).mono ?_
      rintro e w4 ⟨rfl, hb4⟩
      have HB4 := hide (bnext (unhide HB3) hb4)
      have HO4 := hide ((unhide HO3).later hb4)
      clear hb4 HC3 HB3 HO3
      have hr := unhide HR
      go_wp2_with fail
      all_goals
        go_ret
        exact ⟨by simp, unhide HB4⟩
  · go_enter Tryz.func8, Tryz.ntmps8
    go_wp2
    go_ret
    exact ⟨rfl, Below.refl _ _⟩
set_option maxHeartbeats 3200000 in
theorem fnFlateGet_walk (a : Option Addr) (len cap : Nat) (zs : List Int) (w : World) (w0 : IsRow .u8 w a len cap zs) (hO : OrdC w) :
    Calls Tryz.prog 5 #[.slice a len cap] w fun e w' => e = .returned (.bool true) ∧ Below w.heap.size w w' := by
  obtain ⟨⟨z, hsrc⟩, hc, hm⟩ := src_of w0
  have HDr := hide (drawFlateGet_any a len cap z w hsrc hc hm)
  unfold maxLen at hm
  have HO := hide hO
  clear w0 hsrc hc hO
  by_cases hl : (len : Int) ≤ 1048576
  · go_enter Tryz.func5, Tryz.ntmps5
    go_wp2_with fail
    refine (unhide HDr).mono ?_
    rintro e w1 ⟨⟨s, rfl, hs⟩, hb1⟩
    have HB1 := hide hb1
    have HO1 := hide ((unhide HO).later hb1)
    have hsI : (s.size : Int) ≤ 9100 := by omega
    clear hb1 HDr HO
    rcases hG : flateG s with _ | ⟨T, q⟩
    · have G1 := hide (fun W (h : OrdC W) => implGet_none s W (by omega) hG h)
      have G2 := hide (fun W => specFlateGet_any s W (by omega))
      rw [hG] at G2
      unfold getV at G2
      simp only at G2
      clear hG
      have HC1 := hide (unhide G1 w1 (unhide HO1))
      go_wp2_with fail
      refine (unhide HC1).mono ?_
      rintro e w2 ⟨rfl, hb2⟩
      have HB2 := hide (bnext (unhide HB1) hb2)
      have HO2 := hide ((unhide HO1).later hb2)
      clear hb2 HC1 HB1 HO1
      have HC2 := hide (unhide G2 w2)
      go_wp2_with fail
      refine (unhide HC2).mono ?_
      rintro e w3 ⟨rfl, hb3⟩
      have HB3 := hide (bnext (unhide HB2) hb3)
      have HO3 := hide ((unhide HO2).later hb3)
      clear hb3 HC2 HB2 HO2
      go_wp2
      all_goals
        go_ret
        exact ⟨rfl, unhide HB3⟩
    · have h0 := flateG_pos hG
      have G1 := hide (fun W (h : OrdC W) => implGet_some s T q W (by omega) hG h)
      have G2 := hide (fun W => specFlateGet_any s W (by omega))
      rw [hG] at G2
      unfold getV at G2
      simp only at G2
      have hw : wholeG (numB s) (8 * s.size) 0 [] = some (T, q) := by
        unfold flateG at hG
        split at hG
        · exact hG
        · cases hG
      obtain ⟨q1, q2, q3, q4⟩ := wholeG_bd hw (by omega)
      have hT : T.length ≤ 300 := q4 (by simp)
      obtain ⟨n, hn⟩ : ∃ n, q / 8 = n := ⟨_, rfl⟩
      have n1 : 1 ≤ n := by omega
      have n2 : n ≤ s.size := by omega
      have ls := len_list s
      by_cases h7 : s.size < 700
      · have h7I : (s.size : Int) < 700 := by omega
        have E1 : Hid (∀ W, OrdC W → Calls Tryz.prog 14 #[.string (s.extract 0 n)] W fun e w' => e = .returned (.tuple #[.string ⟨T.toArray⟩, .int .i64 ((q / 8 : Nat) : Int), .bool true]) ∧ Below W.heap.size W w') := fun W h => implGet_some _ T q W (by rw [ByteArray.size_extract]; omega) (flate_ends hG (r := []) (by rw [ext_list, List.drop_zero, Nat.sub_zero, List.append_nil, hn]) (by rw [ByteArray.size_extract]; omega)) h
        have E2 : Hid (∀ W, OrdC W → Calls Tryz.prog 14 #[.string (s.extract 0 n ++ ⟨#[120]⟩)] W fun e w' => e = .returned (.tuple #[.string ⟨T.toArray⟩, .int .i64 ((q / 8 : Nat) : Int), .bool true]) ∧ Below W.heap.size W w') := fun W h => by
          have hz : (s.extract 0 n ++ (⟨#[120]⟩ : ByteArray)).size ≤ 700 := by
            rw [cat_size, ByteArray.size_extract]
            have : (⟨#[120]⟩ : ByteArray).size = 1 := rfl
            omega
          exact implGet_some _ T q W (by omega) (flate_ends hG (r := [120]) (by rw [cat_list, ext_list, List.drop_zero, Nat.sub_zero, hn]) hz) h
        have E3 : Hid (∀ W, OrdC W → Calls Tryz.prog 14 #[.string (s.extract 0 (n - 1))] W fun e w' => e = .returned (.tuple #[.string ⟨#[]⟩, .int .i64 0, .bool false]) ∧ Below W.heap.size W w') := fun W h => implGet_none _ W (by rw [ByteArray.size_extract]; omega) (flate_less hG (by rw [ext_list, List.drop_zero, Nat.sub_zero, hn])) h
        rw [hn] at G1 G2 E1 E2
        have hR : (⟨T.toArray⟩ : ByteArray).size ≤ 300 := by simp [ByteArray.size]; exact hT
        generalize (⟨T.toArray⟩ : ByteArray) = R at *
        have hRI : (R.size : Int) ≤ 300 := by omega
        have n1I : (1 : Int) ≤ (n : Int) := by omega
        have n2I : (n : Int) ≤ (s.size : Int) := by omega
        have n3I : (n : Int) - 1 = ((n - 1 : Nat) : Int) := by omega
        have n4I : ((n - 1 : Nat) : Int) ≤ (s.size : Int) := by omega
        clear hG hw q1 q2 q3 q4 hT hn ls hR
        have HC1 := hide (unhide G1 w1 (unhide HO1))
        go_wp2_with fail
        refine (unhide HC1).mono ?_
        rintro e w2 ⟨rfl, hb2⟩
        have HB2 := hide (bnext (unhide HB1) hb2)
        have HO2 := hide ((unhide HO1).later hb2)
        clear hb2 HC1 HB1 HO1
        have HC2 := hide (unhide G2 w2)
        go_wp2_with fail
        refine (unhide HC2).mono ?_
        rintro e w3 ⟨rfl, hb3⟩
        have HB3 := hide (bnext (unhide HB2) hb3)
        have HO3 := hide ((unhide HO2).later hb3)
        clear hb3 HC2 HB2 HO2
        have HC3 := hide (unhide E1 w3 (unhide HO3))
        go_wp2_with fail
        refine (unhide HC3).mono ?_
        rintro e w4 ⟨rfl, hb4⟩
        have HB4 := hide (bnext (unhide HB3) hb4)
        have HO4 := hide ((unhide HO3).later hb4)
        clear hb4 HC3 HB3 HO3
        have HC4 := hide (unhide E2 w4 (unhide HO4))
        go_wp2_with fail
        refine (unhide HC4).mono ?_
        rintro e w5 ⟨rfl, hb5⟩
        have HB5 := hide (bnext (unhide HB4) hb5)
        have HO5 := hide ((unhide HO4).later hb5)
        clear hb5 HC4 HB4 HO4
        have HC5 := hide (unhide E3 w5 (unhide HO5))
        go_wp2_with fail
        refine (unhide HC5).mono ?_
        rintro e w6 ⟨rfl, hb6⟩
        have HB6 := hide (bnext (unhide HB5) hb6)
        have HO6 := hide ((unhide HO5).later hb6)
        clear hb6 HC5 HB5 HO5
        go_wp2
        all_goals
          go_ret
          exact ⟨rfl, unhide HB6⟩
      · have h7I : ¬ (s.size : Int) < 700 := by omega
        rw [hn] at G1 G2
        generalize (⟨T.toArray⟩ : ByteArray) = R at *
        clear hG hw q1 q2 q3 q4 hT hn ls
        have HC1 := hide (unhide G1 w1 (unhide HO1))
        go_wp2_with fail
        refine (unhide HC1).mono ?_
        rintro e w2 ⟨rfl, hb2⟩
        have HB2 := hide (bnext (unhide HB1) hb2)
        have HO2 := hide ((unhide HO1).later hb2)
        clear hb2 HC1 HB1 HO1
        have HC2 := hide (unhide G2 w2)
        go_wp2_with fail
        refine (unhide HC2).mono ?_
        rintro e w3 ⟨rfl, hb3⟩
        have HB3 := hide (bnext (unhide HB2) hb3)
        have HO3 := hide ((unhide HO2).later hb3)
        clear hb3 HC2 HB2 HO2
        go_wp2
        all_goals
          go_ret
          exact ⟨rfl, unhide HB3⟩
  · go_enter Tryz.func5, Tryz.ntmps5
    go_wp2
    go_ret
    exact ⟨rfl, Below.refl _ _⟩
end Go.Proofs.YtpmidjddjdejmaaGreatDoor