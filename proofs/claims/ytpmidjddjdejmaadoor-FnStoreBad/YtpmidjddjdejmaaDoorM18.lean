/- Of what the proof is made: 7 texts, one behind the other. -/
import Derived.Test.YtpmidjddjdejmaaDoorRt1
import Derived.Test.YtpmidjddjdejmaaDoorM15
import Derived.Test.YtpmidjddjdejmaaDoorM12
import Derived.Test.YtpmidjddjdejmaaDoorGq3
import Derived.Test.YtpmidjddjdejmaaDoorM17
import Derived.Test.YtpmidjddjdejmaaDoorM5
import Derived.Deep.RegionHeld3
import Derived.Deep.DrawnRows
import Derived.Test.YtpmidjddjdejmaaDoorWk1
/- Plain mathematics: what was packed is unpacked. -/
namespace Go.Proofs.YtpmidjddjdejmaaDoor
open Go.RowKit Corb

theorem arr_size (l : List UInt8) : (⟨l.toArray⟩ : ByteArray).size = l.length := by simp [ByteArray.size]
theorem bytes_std {V sz : Nat} {l : List (Int × Int)} : ∀ (L : List UInt8) (p : Nat) (R : List UInt8), Std V p (bytesP L ++ l) → p + 8 * L.length ≤ sz → R.length + L.length ≤ 300 → bytesG V sz L.length p R = some (R ++ L, p + 8 * L.length) := by
  intro L
  induction L with
  | nil => intro p R _ _ _; simp [bytesG]
  | cons b L ih =>
    intro p R h hs hR
    rw [List.length_cons] at hs hR ⊢
    have e : bytesP (b :: L) ++ l = (((b.toNat : Nat) : Int), (8 : Int)) :: (bytesP L ++ l) := rfl
    rw [e] at h
    have h1 := rd_std (sz := sz) h (by show p + 8 ≤ sz; omega)
    simp only [Int.toNat_natCast] at h1
    have h1' : rdN V sz p 8 = some (b.toNat, p + 8) := h1
    have hb := b.toNat_lt
    simp only [bytesG]
    rw [h1']
    simp only [Option.bind_some]
    rw [byte_addL R b.toNat hb, if_pos (by omega)]
    simp only [Option.bind_some]
    rw [byteT_of, ih (p + 8) (R ++ [b]) h.2 (by omega) (by rw [List.length_append, List.length_singleton]; omega)]
    simp only [List.append_assoc, List.singleton_append, Option.some.injEq, Prod.mk.injEq, true_and]
    omega
theorem store_std {V sz p c : Nat} {L R : List UInt8} {l : List (Int × Int)} (hc : (8 - p % 8) % 8 = c) (h : Std V p (((0 : Int), (c : Int)) :: ((L.length : Int), (16 : Int)) :: (((65535 - L.length : Nat) : Int), (16 : Int)) :: (bytesP L ++ l))) (hs : p + c + 32 + 8 * L.length ≤ sz) (hR : R.length + L.length ≤ 300) :
    storeG V sz p R = some (R ++ L, p + c + 32 + 8 * L.length) := by
  have h0 := h.1
  have h1 := h.2
  have h2 := h1.2
  have h3 := h2.2
  simp only [Int.toNat_natCast, Int.toNat_zero] at h0 h1 h2 h3
  unfold storeG restG
  rw [hc, if_pos h0]
  simp only [Option.bind_some]
  have r1 : rdN V sz (p + c) 16 = some (L.length, p + c + 16) := rd_std (sz := sz) h1 (by show p + c + 16 ≤ sz; omega)
  have r2 : rdN V sz (p + c + 16) 16 = some (65535 - L.length, p + c + 16 + 16) := rd_std (sz := sz) h2 (by show p + c + 16 + 16 ≤ sz; omega)
  rw [r1]
  simp only [Option.bind_some]
  rw [r2]
  simp only [Option.bind_some, if_true]
  have h3' : Std V (p + c + 16 + 16) (bytesP L ++ l) := h3
  rw [bytes_std L _ R h3' (by omega) hR]
theorem parts_last {V sz p k : Nat} {T : List UInt8} {r : List UInt8 × Nat} {l : List (Int × Int)} (h : Std V p (((1 : Int), (1 : Int)) :: ((k : Int), (2 : Int)) :: l)) (hs : p + 1 + 2 ≤ sz) (hk : kindG V sz k (p + 1 + 2) T = some r) : partsG V sz p T = some r := by
  have r1 : rdN V sz p 1 = some (1, p + 1) := rd_std (sz := sz) h (by show p + 1 ≤ sz; omega)
  have h2 := h.2
  have r2 : rdN V sz (p + 1) 2 = some (k, p + 1 + 2) := by
    have := rd_std (sz := sz) h2 (by show p + 1 + 2 ≤ sz; omega)
    simpa using this
  rw [partsG_step, r1]
  simp only [Option.bind_some]
  rw [r2]
  simp only [Option.bind_some]
  rw [hk]
  rfl
theorem parts_more {V sz p k : Nat} {T : List UInt8} {r : List UInt8 × Nat} {l : List (Int × Int)} (h : Std V p (((0 : Int), (1 : Int)) :: ((k : Int), (2 : Int)) :: l)) (hs : p + 1 + 2 ≤ sz) (hk : kindG V sz k (p + 1 + 2) T = some r) : partsG V sz p T = partsG V sz r.2 r.1 := by
  have r1 : rdN V sz p 1 = some (0, p + 1) := rd_std (sz := sz) h (by show p + 1 ≤ sz; omega)
  have h2 := h.2
  have r2 : rdN V sz (p + 1) 2 = some (k, p + 1 + 2) := by
    have := rd_std (sz := sz) h2 (by show p + 1 + 2 ≤ sz; omega)
    simpa using this
  rw [partsG_step, r1]
  simp only [Option.bind_some]
  rw [r2]
  simp only [Option.bind_some]
  rw [hk]
  rfl
theorem rest_std {V M : Nat} (h : V < 2 ^ M) : restG V M = some (M + (8 - M % 8) % 8) := by
  unfold restG
  rw [Nat.div_eq_of_lt h, Nat.zero_mod, if_pos rfl]
/-- Pieces, as a text that is unpacked. -/
theorem flate_of {P : List (Int × Int)} {T : List UInt8} (hP : lOk P = true) (hs : (textP P).length ≤ 700) (hp : partsG (valP P).1 (8 * (textP P).length) 0 [] = some (T, (valP P).2)) : flateG ⟨(textP P).toArray⟩ = some (T, 8 * (textP P).length) := by
  have hl : (textP P).length = ((valP P).2 + 7) / 8 := by unfold textP; exact leS_len _ _
  have hv := valB_put hP
  rw [putS_yes hP] at hv
  have hlt : (valP P).1 < 2 ^ (valP P).2 := valP_lt P (by unfold lOk at hP; simp only [Bool.and_eq_true] at hP; exact hP.1)
  unfold flateG wholeG
  rw [if_pos (by rw [arr_size]; exact hs)]
  have e1 : numB ⟨(textP P).toArray⟩ = (valP P).1 := by unfold numB; simpa using hv
  have e2 : (⟨(textP P).toArray⟩ : ByteArray).size = (textP P).length := arr_size _
  rw [e1, e2, hp]
  simp only [Option.bind_some]
  rw [rest_std hlt]
  simp only [Option.bind_some, Option.some.injEq, Prod.mk.injEq, true_and]
  rw [hl]
  omega
theorem bits_of {P : List (Int × Int)} (hP : lOk P = true) : bN P = (valP P).2 ∧ bN P ≤ 8 * (textP P).length ∧ Std (valP P).1 0 P := by
  have h : allOk P = true := by unfold lOk at hP; simp only [Bool.and_eq_true] at hP; exact hP.1
  have h1 := sumN_bits h
  have hl : (textP P).length = ((valP P).2 + 7) / 8 := by unfold textP; exact leS_len _ _
  have h2 := std_put 0 h
  rw [Nat.zero_mul, Nat.add_zero] at h2
  refine ⟨h1, ?_, h2⟩
  unfold bN
  rw [h1, hl]
  omega

end Go.Proofs.YtpmidjddjdejmaaDoor
/- Plain mathematics: a text is read back as it was packed, in each of the three ways. -/
namespace Go.Proofs.YtpmidjddjdejmaaDoor
open Go.RowKit Corb

theorem bN_bytes (L : List UInt8) : bN (bytesP L) = 8 * L.length := by
  induction L with
  | nil => rfl
  | cons b L ih =>
    have e : bytesP (b :: L) = (((b.toNat : Nat) : Int), (8 : Int)) :: bytesP L := rfl
    rw [e, bN_cons, ih, List.length_cons]
    simp only [Int.reduceToNat]
    omega
theorem storeP_ok (L : List UInt8) (h : L.length ≤ 300) : lOk (headP L.length ++ bytesP L) = true := by
  have h1 := headP_ok L.length (by omega)
  have h2 := bytesP_lOk L (by omega)
  unfold lOk at h1 h2 ⊢
  simp only [Bool.and_eq_true, decide_eq_true_eq] at h1 h2 ⊢
  rw [allOk_append, h1.1, h2.1, List.length_append, bytesP_len]
  refine ⟨rfl, ?_⟩
  have : (headP L.length).length = 5 := rfl
  omega
theorem storeL_text (L : List UInt8) (h : L.length ≤ 300) : textP (headP L.length ++ bytesP L) = storeL L := by
  rw [← putS_yes (storeP_ok L h), store_put L h]
  unfold storeL
  rw [if_pos h]
theorem storeL_len (L : List UInt8) (h : L.length ≤ 300) : (storeL L).length = L.length + 5 := by
  unfold storeL
  rw [if_pos h, List.length_append, leS_len]
  omega
/-- A text that is packed as it is is read back. -/
theorem flate_store (L : List UInt8) (h : L.length ≤ 300) : flateG ⟨(storeL L).toArray⟩ = some (L, 8 * (L.length + 5)) := by
  have hP := storeP_ok L h
  obtain ⟨b1, b2, b3⟩ := bits_of hP
  have hl := storeL_len L h
  rw [← storeL_text L h] at hl ⊢
  rw [hl] at b2
  have hb : bN (headP L.length ++ bytesP L) = 40 + 8 * L.length := by
    rw [bN_append, bN_bytes]
    rfl
  have := flate_of (T := L) hP (by omega) (by
    rw [hl, ← b1, hb]
    refine parts_last (k := 0) b3 (by omega) ?_
    unfold kindG
    rw [if_pos rfl]
    have h3 := store_std (R := []) (V := (valP (headP L.length ++ bytesP L)).1) (sz := 8 * (L.length + 5)) (p := 0 + 1 + 2) (c := 5) (L := L) (l := []) (by decide) (by rw [List.append_nil]; exact b3.2.2) (by omega) (by simpa using h)
    rw [h3]
    simp only [List.nil_append])
  rw [this, hl]
theorem fix_pos : (List.range 288).all (fun i => decide (0 < (fixL 288).getD i 0) && decide ((fixL 288).getD i 0 ≤ 9)) = true := by decide +kernel
theorem five_pos : (List.range 32).all (fun i => decide (knowD.getD i 0 = 5)) = true := by decide +kernel
theorem fix_at {i : Nat} (h : i < 288) : 0 < (fixL 288).getD i 0 ∧ (fixL 288).getD i 0 ≤ 9 := by
  have := List.all_eq_true.1 fix_pos i (List.mem_range.2 h)
  simpa using this
theorem five_at {i : Nat} (h : i < 32) : knowD.getD i 0 = 5 := by
  have := List.all_eq_true.1 five_pos i (List.mem_range.2 h)
  simpa using this
theorem know_has {t : Tk} (ht : okT t = true) : hasT (fixL 288) knowD t := by
  have := know_fits ht
  unfold fitsT at this
  unfold hasT
  split
  · rename_i hB
    rw [if_pos hB] at this
    exact (fix_at (by have : (fixL 288).length = 288 := by decide +kernel
                      omega)).1
  · rename_i hB
    rw [if_neg hB] at this
    have l1 : (fixL 288).length = 288 := by decide +kernel
    have l2 : knowD.length = 32 := by decide +kernel
    refine ⟨(fix_at (by omega)).1, ?_⟩
    rw [five_at (by omega)]
    omega
/-- How many bits a token takes. -/
theorem fix_long : (List.range 61).all (fun y => decide (y < 3) || decide (((fixL 288).getD (257 + fnd 3 4 y 27) 0).toNat + (stF 3 4 (fnd 3 4 y 27)).2 + 11 ≤ 9 * y)) = true := by decide +kernel
theorem fix_back : (List.range 251).all (fun y => decide (y < 1) || decide ((stF 1 2 (fnd 1 2 y 29)).2 ≤ 6)) = true := by decide +kernel
theorem fix_bits {t : Tk} (ht : okT t = true) : bN (pcTM (fixL 288) knowD t) ≤ 9 * (if isB t then 1 else t.2.1.toNat) := by
  obtain ⟨y, lo, ba⟩ := t
  unfold pcTM
  by_cases hB : isB (y, lo, ba) = true
  · rw [if_pos hB, if_pos hB, bN_cons, bN_nil, bN_pcM]
    have hb : 0 ≤ y ∧ y ≤ 255 := by unfold isB inB at hB; simp only [Bool.and_eq_true, decide_eq_true_eq] at hB; omega
    have := fix_at (i := y.toNat) (by omega)
    show ((fixL 288).getD y.toNat 0).toNat + 0 ≤ 9 * 1
    omega
  · rw [if_neg hB, if_neg hB]
    have hK : isK (y, lo, ba) = true := by unfold okT at ht; simpa [hB] using ht
    have hb : y = 0 ∧ 3 ≤ lo ∧ lo ≤ 60 ∧ 1 ≤ ba ∧ ba ≤ 250 := by unfold isK inB at hK; simp only [Bool.and_eq_true, decide_eq_true_eq] at hK; omega
    obtain ⟨rfl, b1, b2, b3, b4⟩ := hb
    obtain ⟨x, rfl⟩ := Int.eq_ofNat_of_zero_le (show 0 ≤ lo by omega)
    obtain ⟨z, rfl⟩ := Int.eq_ofNat_of_zero_le (show 0 ≤ ba by omega)
    have f1 := List.all_eq_true.1 fix_long x (List.mem_range.2 (by omega))
    have f2 := List.all_eq_true.1 fix_back z (List.mem_range.2 (by omega))
    simp only [Bool.or_eq_true, decide_eq_true_eq] at f1 f2
    have g := five_at (i := fnd 1 2 z 29) (by have := fnd_le 1 2 z 29; omega)
    simp only [bN_cons, bN_nil, bN_pcM, Int.toNat_natCast]
    rw [g]
    omega
theorem fix_sum {L : List UInt8} : ∀ (n p : Nat), L.length - p ≤ n → bN ((toksP L p).flatMap (pcTM (fixL 288) knowD)) ≤ 9 * (L.length - p) := by
  intro n
  induction n with
  | zero =>
    intro p h
    rw [toksP_end (by omega)]
    exact Nat.zero_le _
  | succ n ih =>
    intro p h
    by_cases hp : p < L.length
    · have hok := toksP_okT L L.length p (by omega)
      rw [toksP_step hp] at hok ⊢
      have h1 := fix_bits (hok (tokP L p) (by simp))
      have h3 := sizP_pos L p
      have h4 := sizP_in hp
      have h5 := ih (p + sizP L p) (by omega)
      have h6 : (if isB (tokP L p) then 1 else (tokP L p).2.1.toNat) = sizP L p := by
        unfold tokP sizP
        by_cases hc : (bestF L p (min p 250)).1 < 3
        · have hB : isB ((((L.getD p 0).toNat : Nat) : Int), 0, 0) = true := by
            have := (L.getD p 0).toNat_lt
            generalize (L.getD p 0).toNat = y at *
            unfold isB inB
            simp
            omega
          rw [if_pos hc, if_pos hc, hB]
          rfl
        · have hB : isB (0, ((bestF L p (min p 250)).1 : Int), ((bestF L p (min p 250)).2 : Int)) = false := by
            unfold isB
            simp
            omega
          rw [if_neg hc, if_neg hc, hB]
          simp
      rw [h6] at h1
      rw [List.flatMap_cons, bN_append]
      omega
    · rw [toksP_end hp]
      exact Nat.zero_le _
theorem fixP_bits (s : ByteArray) : bN (fixP s) = 1 + 2 + bN ((toksP s.data.toList 0).flatMap (pcTM (fixL 288) knowD)) + 7 := by
  unfold fixP
  rw [bN_append, bN_append]
  have e1 : bN [((1 : Int), (1 : Int)), ((1 : Int), (2 : Int))] = 3 := rfl
  have e2 : bN [pcM (fixL 288) 256] = 7 := by
    rw [bN_cons, bN_nil, bN_pcM]
    decide +kernel
  rw [e1, e2]
  omega
theorem knownL_len (s : ByteArray) (h : s.size ≤ 300) : (knownL s).length ≤ 340 ∧ 2 ≤ (knownL s).length := by
  have hP := fixP_ok s h
  obtain ⟨b1, b2, b3⟩ := bits_of hP
  have e := fixP_bits s
  have e2 := fix_sum (L := s.data.toList) s.data.toList.length 0 (by omega)
  have e3 : s.data.toList.length = s.size := by simp
  have hl : (knownL s).length = ((valP (fixP s)).2 + 7) / 8 := by unfold knownL textP; exact leS_len _ _
  rw [hl, ← b1, e]
  omega
/-- A text that is packed by the codes that all know is read back. -/
theorem flate_known (s : ByteArray) (h : s.size ≤ 300) : flateG ⟨(knownL s).toArray⟩ = some (s.data.toList, 8 * (knownL s).length) := by
  have hP := fixP_ok s h
  obtain ⟨b1, b2, b3⟩ := bits_of hP
  have hl := (knownL_len s h).1
  have e := fixP_bits s
  have e3 : s.data.toList.length = s.size := by simp
  have hE : (fixL 288).getD 256 0 = 7 := by decide +kernel
  refine flate_of hP (show (knownL s).length ≤ 700 by omega) ?_
  have b2' : bN (fixP s) ≤ 8 * (knownL s).length := b2
  show partsG (valP (fixP s)).1 (8 * (knownL s).length) 0 [] = some (s.data.toList, (valP (fixP s)).2)
  refine parts_last (k := 1) b3 (by omega) ?_
  unfold kindG fixG
  rw [if_neg (by decide), if_pos rfl]
  have ht := tok_std (L := fixL 288) (D := knowD) know_okL know_okD (V := (valP (fixP s)).1) (sz := 8 * (knownL s).length) (by rw [hE]; omega) (l := []) (toksP s.data.toList 0) (0 + 1 + 2) [] s.data.toList (fun t ht => ⟨toks_ok s t ht, know_has (toks_ok s t ht)⟩) b3.2.2 (by rw [hE]; simp only [Int.reduceToNat]; omega) (toks_fold0 (by omega))
  rw [hE] at ht
  simp only [Int.reduceToNat] at ht
  have ht' : tokG (valP (fixP s)).1 (8 * (knownL s).length) (fixL 288) (List.replicate 32 5) (0 + 1 + 2) [] = _ := ht
  rw [ht', ← b1, e]

end Go.Proofs.YtpmidjddjdejmaaDoor
/- Plain mathematics: a packed text is unpacked, and how it begins. -/
namespace Go.Proofs.YtpmidjddjdejmaaDoor
open Go.RowKit Corb

theorem str_is (s : ByteArray) : (⟨s.data.toList.toArray⟩ : ByteArray) = s := by cases s; simp
theorem byS_is (s : ByteArray) (h : s.size ≤ 300) : flateG (byS s) = some (s.data.toList, 8 * (byS s).size) ∧ (byS s).size = s.size + 5 := by
  have hl : s.data.toList.length = s.size := str_len s
  have h1 := flate_store s.data.toList (by omega)
  have h2 := storeL_len s.data.toList (by omega)
  unfold byS
  rw [arr_size, h1, h2, hl]
  exact ⟨rfl, rfl⟩
theorem byF_is (s : ByteArray) (h : s.size ≤ 300) : flateG (byF s) = some (s.data.toList, 8 * (byF s).size) ∧ 2 ≤ (byF s).size ∧ (byF s).size ≤ 340 := by
  have h1 := flate_known s h
  have h2 := knownL_len s h
  unfold byF fixedL
  rw [if_pos h, arr_size, h1]
  exact ⟨rfl, h2.2, h2.1⟩
/-- A text's kind stands in its first byte. -/
theorem kind_first {x : ByteArray} {T : List UInt8} {q k : Nat} (h : flateG x = some (T, q)) (hk : numB x / 2 ^ (0 + 1) % 2 ^ 2 = k) : kindV x = (k : Int) := by
  unfold kindV
  rw [h]
  simp only
  have h1 := valB_get x.data.toList 0
  rw [Nat.mul_zero, Nat.pow_zero, Nat.div_one] at h1
  rw [← h1, ← hk]
  unfold numB
  congr 1
  omega
theorem kind_std {P : List (Int × Int)} {T : List UInt8} {q k : Nat} {l : List (Int × Int)} (hP : lOk P = true) (h : flateG ⟨(textP P).toArray⟩ = some (T, q)) (e : P = ((1 : Int), (1 : Int)) :: ((k : Int), (2 : Int)) :: l) : kindV ⟨(textP P).toArray⟩ = (k : Int) := by
  obtain ⟨_, _, b3⟩ := bits_of hP
  rw [e] at b3
  have hv := valB_put hP
  rw [putS_yes hP] at hv
  refine kind_first h ?_
  have e1 : numB ⟨(textP P).toArray⟩ = (valP P).1 := by unfold numB; simpa using hv
  rw [e1]
  have := b3.2.1
  simp only [Int.toNat_natCast, Int.reduceToNat] at this
  rw [e]
  exact this
theorem byS_kind (s : ByteArray) (h : s.size ≤ 300) : kindV (byS s) = 0 := by
  have hl : s.data.toList.length = s.size := str_len s
  have h1 := byS_is s h
  unfold byS at h1 ⊢
  rw [← storeL_text s.data.toList (by omega)] at h1 ⊢
  exact kind_std (k := 0) (storeP_ok s.data.toList (by omega)) h1.1 rfl
theorem byF_kind (s : ByteArray) (h : s.size ≤ 300) : kindV (byF s) = 1 := by
  have h1 := byF_is s h
  unfold byF fixedL at h1 ⊢
  rw [if_pos h] at h1 ⊢
  exact kind_std (k := 1) (fixP_ok s h) h1.1 rfl
theorem getV_is {x s : ByteArray} {n : Nat} (h : flateG x = some (s.data.toList, 8 * n)) : getV (flateG x) = .tuple #[.string s, .int .i64 (n : Nat), .bool true] := by
  rw [h]
  unfold getV
  simp only
  rw [str_is, show 8 * n / 8 = n by omega]
theorem kind_bd (x : ByteArray) : -1 ≤ kindV x ∧ kindV x ≤ 3 := by
  unfold kindV
  split <;> omega

theorem byS_small (s : ByteArray) : ((byS s).size : Int) ≤ 100000 := by
  by_cases h : s.size ≤ 300
  · have := (byS_is s h).2; omega
  · rw [byS_long s h]; decide
theorem byF_small (s : ByteArray) : ((byF s).size : Int) ≤ 100000 := by
  by_cases h : s.size ≤ 300
  · have := (byF_is s h).2.2; omega
  · rw [byF_long s h]; decide

end Go.Proofs.YtpmidjddjdejmaaDoor
/- Walks of the statements: a text is read back as it was packed; the shortest; how long. -/
namespace Go.Proofs.YtpmidjddjdejmaaDoor
open Go.RowKit Corb

/-- A call that ends in what is above a block. -/
theorem then_below {B : Nat} {w x y : World} (h : Below B w x) (hk : Below x.heap.size x y) (hB : B ≤ x.heap.size) : Below B w y := h.trans (hk.mono hB)
theorem fixed_is (s : ByteArray) : (⟨(fixedL s).toArray⟩ : ByteArray) = byF s := rfl
theorem stored_is (s : ByteArray) : (⟨(storeL s.data.toList).toArray⟩ : ByteArray) = byS s := rfl
theorem implGet_yes (x s : ByteArray) (n : Nat) (w : World) (hx : x.size ≤ 100000) (h : flateG x = some (s.data.toList, 8 * n)) (hO : OrdC w) :
    Calls Tryd.prog 10 #[.string x] w fun e w' => e = .returned (.tuple #[.string s, .int .i64 (n : Nat), .bool true]) ∧ Below w.heap.size w w' := by
  refine (implFlateGet_any x w (by omega) hO).mono ?_
  rintro e w' ⟨rfl, hb⟩
  rw [getV_is h]
  exact ⟨rfl, hb⟩
set_option maxRecDepth 100000 in
set_option maxHeartbeats 3200000 in
theorem fnStore_walk (a : Option Addr) (len cap : Nat) (zs : List Int) (w : World) (w0 : IsRow .u8 w a len cap zs) (hO : OrdC w) :
    Calls Tryd.prog 3 #[.slice a len cap] w fun e w' => e = .returned (.bool true) ∧ Below w.heap.size w w' := by
  obtain ⟨⟨z, hsrc⟩, hc, hm⟩ := src_of w0
  have HDr := hide (drawStorePut_any a len cap z w hsrc hc hm)
  unfold maxLen at hm
  have HO := hide hO
  clear w0 hsrc hc hO
  by_cases hl : (len : Int) ≤ 1048576
  · go_enter Tryd.func3, Tryd.ntmps3
    go_wp2_with fail
    refine (unhide HDr).mono ?_
    rintro e w1 ⟨⟨s, rfl, hs⟩, hb1⟩
    have HB1 := hide hb1
    have HO1 := hide ((unhide HO).later hb1)
    have hsI : (s.size : Int) ≤ 400 := by omega
    clear hb1 HDr HO
    have Hby : Hid (⟨(storeL s.data.toList).toArray⟩ = byS s) := rfl
    have C1 := hide (fun W => implStorePut_any s W (by omega))
    have C2 := hide (fun W => specStorePut_any s W (by omega))
    rw [unhide Hby] at C1 C2
    have hbI : ((byS s).size : Int) ≤ 100000 := byS_small s
    by_cases h3 : s.size ≤ 300
    · have h3I : ¬ (300 : Int) < (s.size : Int) := by omega
      have HR := hide (byS_is s h3)
      have HKd := hide (byS_kind s h3)
      clear Hby
      generalize byS s = x at *
      have HC1 := hide (unhide C1 w1)
      go_wp2_with fail
      refine (unhide HC1).mono ?_
      rintro e w2 ⟨rfl, hb2⟩
      have HB2 := hide (bnext (unhide HB1) hb2)
      have HO2 := hide ((unhide HO1).later hb2)
      clear hb2 HC1 HB1 HO1
      have HC2 := hide (unhide C2 w2)
      go_wp2_with fail
      refine (unhide HC2).mono ?_
      rintro e w3 ⟨rfl, hb3⟩
      have HB3 := hide (bnext (unhide HB2) hb3)
      have HO3 := hide ((unhide HO2).later hb3)
      clear hb3 HC2 HB2 HO2
      have HG : Hid (flateG x = some (s.data.toList, 8 * x.size)) := (unhide HR).1
      have hxI : (x.size : Int) = (s.size : Int) + 5 := by have := (unhide HR).2; omega
      have HC3 := hide (implGet_yes x s x.size w3 (by omega) (unhide HG) (unhide HO3))
      go_wp2_with fail
      refine (unhide HC3).mono ?_
      rintro e w4 ⟨rfl, hb4⟩
      have HB4 := hide (bnext (unhide HB3) hb4)
      have HO4 := hide ((unhide HO3).later hb4)
      clear hb4 HC3 HB3 HO3
      have hk4 := implFlateKind_any x w4 (by omega) (unhide HO4)
      rw [unhide HKd] at hk4
      have HK4 := hide hk4
      clear hk4
      have HC4 := hide (unhide HK4)
      go_wp2_with fail
      refine (unhide HC4).mono ?_
      rintro e w5 ⟨rfl, hb5⟩
      have HB5 := hide (bnext (unhide HB4) hb5)
      have HO5 := hide ((unhide HO4).later hb5)
      clear hb5 HC4 HB4 HO4
      go_wp2
      go_ret
      exact ⟨rfl, unhide HB5⟩
    · have h3I : (300 : Int) < (s.size : Int) := by omega
      clear Hby
      generalize byS s = x at *
      have HC1 := hide (unhide C1 w1)
      go_wp2_with fail
      refine (unhide HC1).mono ?_
      rintro e w2 ⟨rfl, hb2⟩
      have HB2 := hide (bnext (unhide HB1) hb2)
      have HO2 := hide ((unhide HO1).later hb2)
      clear hb2 HC1 HB1 HO1
      have HC2 := hide (unhide C2 w2)
      go_wp2_with fail
      refine (unhide HC2).mono ?_
      rintro e w3 ⟨rfl, hb3⟩
      have HB3 := hide (bnext (unhide HB2) hb3)
      have HO3 := hide ((unhide HO2).later hb3)
      clear hb3 HC2 HB2 HO2
      have HC3 := hide (unhide C2 w3)
      go_wp2_with fail
      refine (unhide HC3).mono ?_
      rintro e w4 ⟨rfl, hb4⟩
      have HB4 := hide (bnext (unhide HB3) hb4)
      have HO4 := hide ((unhide HO3).later hb4)
      clear hb4 HC3 HB3 HO3
      go_wp2
      go_ret
      exact ⟨rfl, unhide HB4⟩
  · go_enter Tryd.func3, Tryd.ntmps3
    go_wp2
    go_ret
    exact ⟨rfl, Below.refl _ _⟩
set_option maxRecDepth 100000 in
set_option maxHeartbeats 3200000 in
theorem fnFixed_walk (a : Option Addr) (len cap : Nat) (zs : List Int) (w : World) (w0 : IsRow .u8 w a len cap zs) (hO : OrdC w) :
    Calls Tryd.prog 4 #[.slice a len cap] w fun e w' => e = .returned (.bool true) ∧ Below w.heap.size w w' := by
  obtain ⟨⟨z, hsrc⟩, hc, hm⟩ := src_of w0
  have HDr := hide (drawFixedPut_any a len cap z w hsrc hc hm)
  unfold maxLen at hm
  have HO := hide hO
  clear w0 hsrc hc hO
  by_cases hl : (len : Int) ≤ 1048576
  · go_enter Tryd.func4, Tryd.ntmps4
    go_wp2_with fail
    refine (unhide HDr).mono ?_
    rintro e w1 ⟨⟨s, rfl, hs⟩, hb1⟩
    have HB1 := hide hb1
    have HO1 := hide ((unhide HO).later hb1)
    have hsI : (s.size : Int) ≤ 400 := by omega
    clear hb1 HDr HO
    have Hby : Hid (⟨(fixedL s).toArray⟩ = byF s) := rfl
    have C1 := hide (fun W => implFixedPut_any s W (by omega))
    have C2 := hide (fun W => specFixedPut_any s W (by omega))
    rw [unhide Hby] at C1 C2
    have hbI : ((byF s).size : Int) ≤ 100000 := byF_small s
    by_cases h3 : s.size ≤ 300
    · have h3I : ¬ (300 : Int) < (s.size : Int) := by omega
      have HR := hide (byF_is s h3)
      have HKd := hide (byF_kind s h3)
      clear Hby
      generalize byF s = x at *
      have HC1 := hide (unhide C1 w1)
      go_wp2_with fail
      refine (unhide HC1).mono ?_
      rintro e w2 ⟨rfl, hb2⟩
      have HB2 := hide (bnext (unhide HB1) hb2)
      have HO2 := hide ((unhide HO1).later hb2)
      clear hb2 HC1 HB1 HO1
      have HC2 := hide (unhide C2 w2)
      go_wp2_with fail
      refine (unhide HC2).mono ?_
      rintro e w3 ⟨rfl, hb3⟩
      have HB3 := hide (bnext (unhide HB2) hb3)
      have HO3 := hide ((unhide HO2).later hb3)
      clear hb3 HC2 HB2 HO2
      have HG : Hid (flateG x = some (s.data.toList, 8 * x.size)) := (unhide HR).1
      have HC3 := hide (implGet_yes x s x.size w3 (by omega) (unhide HG) (unhide HO3))
      go_wp2_with fail
      refine (unhide HC3).mono ?_
      rintro e w4 ⟨rfl, hb4⟩
      have HB4 := hide (bnext (unhide HB3) hb4)
      have HO4 := hide ((unhide HO3).later hb4)
      clear hb4 HC3 HB3 HO3
      have hk4 := implFlateKind_any x w4 (by omega) (unhide HO4)
      rw [unhide HKd] at hk4
      have HK4 := hide hk4
      clear hk4
      have HC4 := hide (unhide HK4)
      go_wp2_with fail
      refine (unhide HC4).mono ?_
      rintro e w5 ⟨rfl, hb5⟩
      have HB5 := hide (bnext (unhide HB4) hb5)
      have HO5 := hide ((unhide HO4).later hb5)
      clear hb5 HC4 HB4 HO4
      go_wp2
      go_ret
      exact ⟨rfl, unhide HB5⟩
    · have h3I : (300 : Int) < (s.size : Int) := by omega
      clear Hby
      generalize byF s = x at *
      have HC1 := hide (unhide C1 w1)
      go_wp2_with fail
      refine (unhide HC1).mono ?_
      rintro e w2 ⟨rfl, hb2⟩
      have HB2 := hide (bnext (unhide HB1) hb2)
      have HO2 := hide ((unhide HO1).later hb2)
      clear hb2 HC1 HB1 HO1
      have HC2 := hide (unhide C2 w2)
      go_wp2_with fail
      refine (unhide HC2).mono ?_
      rintro e w3 ⟨rfl, hb3⟩
      have HB3 := hide (bnext (unhide HB2) hb3)
      have HO3 := hide ((unhide HO2).later hb3)
      clear hb3 HC2 HB2 HO2
      have HC3 := hide (unhide C2 w3)
      go_wp2_with fail
      refine (unhide HC3).mono ?_
      rintro e w4 ⟨rfl, hb4⟩
      have HB4 := hide (bnext (unhide HB3) hb4)
      have HO4 := hide ((unhide HO3).later hb4)
      clear hb4 HC3 HB3 HO3
      go_wp2
      go_ret
      exact ⟨rfl, unhide HB4⟩
  · go_enter Tryd.func4, Tryd.ntmps4
    go_wp2
    go_ret
    exact ⟨rfl, Below.refl _ _⟩

end Go.Proofs.YtpmidjddjdejmaaDoor
/- Plain mathematics: two parts one behind the other; a length that is not told rightly. -/
namespace Go.Proofs.YtpmidjddjdejmaaDoor
open Go.RowKit Corb

theorem rep_pre (s u : List UInt8) (back : Nat) (h : back ≤ u.length) : ∀ n, rep (s ++ u) back n = s ++ rep u back n := by
  intro n
  induction n with
  | zero => rfl
  | succ n ih =>
    simp only [rep]
    rw [ih, List.append_assoc]
    congr 3
    have hl := rep_len u back n
    rw [List.length_append, List.getD_eq_getElem?_getD, List.getD_eq_getElem?_getD, List.getElem?_append_right (by omega), show s.length + (rep u back n).length - back - s.length = (rep u back n).length - back by omega]
theorem addT_pre {s u v : List UInt8} {t : Tk} (h : addT u t = some v) : addT (s ++ u) t = some (s ++ v) := by
  unfold addT at h ⊢
  split at h
  · rename_i hB
    rw [if_pos hB]
    simp only [Option.some.injEq] at h ⊢
    rw [← h, List.append_assoc]
  · rename_i hB
    rw [if_neg hB]
    split at h
    · rename_i hK
      simp only [Bool.and_eq_true, decide_eq_true_eq] at hK
      have hb : 1 ≤ t.2.2 := by have := hK.1; unfold isK inB at this; simp only [Bool.and_eq_true, decide_eq_true_eq] at this; omega
      rw [if_pos (by simp only [Bool.and_eq_true, decide_eq_true_eq, List.length_append]; exact ⟨hK.1, by omega⟩)]
      simp only [Option.some.injEq] at h ⊢
      rw [← h, rep_pre s u _ (by omega)]
    · cases h
theorem addL_pre {s u v : List UInt8} {t : Tk} (h : addL u t = some v) : addL (s ++ u) t = if s.length + v.length ≤ 300 then some (s ++ v) else none := by
  unfold addL at h ⊢
  rcases h1 : addT u t with _ | x
  · rw [h1] at h; cases h
  rw [h1] at h
  simp only [Option.bind_some] at h
  split at h
  · simp only [Option.some.injEq] at h
    subst h
    rw [addT_pre h1]
    simp only [Option.bind_some, List.length_append]
  · cases h
theorem fold_pre {s L : List UInt8} (hl : L.length ≤ 300) : ∀ (n p : Nat), L.length - p ≤ n → p ≤ L.length → s.length + p ≤ 300 → foldT (s ++ L.take p) (toksP L p) = if s.length + L.length ≤ 300 then some (s ++ L) else none := by
  intro n
  induction n with
  | zero =>
    intro p h1 h2 h3
    have e : p = L.length := by omega
    subst e
    rw [toksP_end (Nat.lt_irrefl _), if_pos h3]
    simp only [foldT, List.take_length]
  | succ n ih =>
    intro p h1 h2 h3
    by_cases hp : p < L.length
    · have h4 := sizP_pos L p
      have h5 := sizP_in hp
      rw [toksP_step hp]
      simp only [foldT]
      rw [addL_pre (addL_tokP hp hl)]
      have h6 : (L.take (p + sizP L p)).length = p + sizP L p := by rw [List.length_take]; omega
      rw [h6]
      by_cases hc : s.length + (p + sizP L p) ≤ 300
      · rw [if_pos hc]
        simp only [Option.bind_some]
        exact ih _ (by omega) h5 hc
      · rw [if_neg hc, if_neg (by omega)]
        rfl
    · have e : p = L.length := by omega
      subst e
      rw [toksP_end (Nat.lt_irrefl _), if_pos h3]
      simp only [foldT, List.take_length]
theorem tok_no {L D : List Int} (okL : lensOk L = true) (okD : lensOk D = true) {V sz : Nat} {l : List (Int × Int)} : ∀ (T : List Tk) (p : Nat) (R : List UInt8), (∀ t ∈ T, okT t = true ∧ hasT L D t) → Std V p (T.flatMap (pcTM L D) ++ l) → p + bN (T.flatMap (pcTM L D)) ≤ sz → foldT R T = none → tokG V sz L D p R = none := by
  intro T
  induction T with
  | nil => intro p R _ _ _ hf; simp [foldT] at hf
  | cons t T ih =>
    intro p R hT h hs hf
    simp only [List.flatMap_cons, List.append_assoc, bN_append] at h hs
    obtain ⟨h1, h2⟩ := hT t (by simp)
    obtain ⟨i, q, d1, d2, d3⟩ := one_std (sz := sz) okL okD h1 h2 h (by omega)
    rw [tokG_step d1 d2, d3]
    simp only [Option.bind_some]
    simp only [foldT] at hf
    rcases ha : addL R t with _ | x
    · rfl
    · rw [ha] at hf
      simp only [Option.bind_some] at hf ⊢
      exact ih (p + bN (pcTM L D t)) x (fun t' ht' => hT t' (by simp [ht'])) (std_append.1 h).2 (by omega) hf
theorem parts_none {V sz p k : Nat} {T : List UInt8} {x : Int} {l : List (Int × Int)} (h : Std V p ((x, (1 : Int)) :: ((k : Int), (2 : Int)) :: l)) (hs : p + 1 + 2 ≤ sz) (hk : kindG V sz k (p + 1 + 2) T = none) : partsG V sz p T = none := by
  have r1 : rdN V sz p 1 = some (x.toNat, p + 1) := rd_std (sz := sz) h (by show p + 1 ≤ sz; omega)
  have h2 := h.2
  have r2 : rdN V sz (p + 1) 2 = some (k, p + 1 + 2) := by
    have := rd_std (sz := sz) h2 (by show p + 1 + 2 ≤ sz; omega)
    simpa using this
  rw [partsG_step, r1]
  simp only [Option.bind_some]
  rw [r2]
  simp only [Option.bind_some]
  rw [hk]
  rfl
/-- A text as it is, and behind it another by the codes that all know. -/
theorem two_flate (s t Z : ByteArray) (hs : s.size ≤ 300) (ht : t.size ≤ 300) (hZ : Z.data.toList = 0 :: ((storeL s.data.toList).drop 1 ++ knownL t)) (hz : Z.size ≤ 700) :
    flateG Z = if s.size + t.size ≤ 300 then some (s.data.toList ++ t.data.toList, 8 * Z.size) else none := by
  have ls : s.data.toList.length = s.size := len_list s
  have lt : t.data.toList.length = t.size := len_list t
  have hP := storeP_ok s.data.toList (by omega)
  obtain ⟨b1, b2, b3⟩ := bits_of hP
  have hv := valB_put hP
  rw [putS_yes hP, storeL_text _ (by omega)] at hv
  have hSl := storeL_len s.data.toList (by omega)
  have hb : bN (headP s.data.toList.length ++ bytesP s.data.toList) = 40 + 8 * s.size := by
    rw [bN_append, bN_bytes, ls]
    rfl
  have hF := fixP_ok t ht
  obtain ⟨f1, f2, f3⟩ := bits_of hF
  have fv := valB_put hF
  rw [putS_yes hF] at fv
  have flt : (valP (fixP t)).1 < 2 ^ (valP (fixP t)).2 := valP_lt _ (by unfold lOk at hF; simp only [Bool.and_eq_true] at hF; exact hF.1)
  have fl : (knownL t).length = ((valP (fixP t)).2 + 7) / 8 := by unfold knownL textP; exact leS_len _ _
  have fb := fixP_bits t
  have Zl : Z.size = s.size + 5 + (knownL t).length := by
    rw [← len_list Z, hZ, List.length_cons, List.length_append, List.length_drop, hSl]
    omega
  -- the first byte of the stored text is one
  obtain ⟨r, hr⟩ : ∃ r, storeL s.data.toList = 1 :: r := by
    have h1 := valB_get (storeL s.data.toList) 0
    rw [Nat.mul_zero, Nat.pow_zero, Nat.div_one, hv] at h1
    have h2 : (valP (headP s.data.toList.length ++ bytesP s.data.toList)).1 % 256 = 1 := by
      have a1 := b3.1
      have a2 := b3.2.1
      have a3 := b3.2.2.1
      simp only [Int.reduceToNat] at a1 a2 a3
      omega
    rw [h2] at h1
    rcases e : storeL s.data.toList with _ | ⟨x, r⟩
    · rw [e] at hSl; simp at hSl
    · rw [e] at h1
      simp only [List.getD_cons_zero] at h1
      refine ⟨r, ?_⟩
      congr 1
      exact UInt8.toNat_inj.1 (by rw [← h1]; rfl)
  rw [hr, List.drop_one, List.tail_cons] at hZ
  have hV : valB (storeL s.data.toList ++ knownL t) = (valP (headP s.data.toList.length ++ bytesP s.data.toList)).1 + valB (knownL t) * 2 ^ (valP (headP s.data.toList.length ++ bytesP s.data.toList)).2 := by
    rw [valB_append, hv, hSl, ← b1, hb, ls, Nat.mul_comm]
    congr 3
    omega
  have hU : valB (storeL s.data.toList ++ knownL t) = 1 + 256 * valB (r ++ knownL t) := by rw [hr]; rfl
  have hN : numB Z = 256 * valB (r ++ knownL t) := by
    unfold numB
    rw [hZ]
    show (0 : UInt8).toNat + 256 * _ = _
    simp
  have S0 := std_put (valB (knownL t)) (show allOk (headP s.data.toList.length ++ bytesP s.data.toList) = true by unfold lOk at hP; simp only [Bool.and_eq_true] at hP; exact hP.1)
  rw [← hV, hU] at S0
  have hK : valB (knownL t) = (valP (fixP t)).1 := fv
  have Plt : (valP (headP s.data.toList.length ++ bytesP s.data.toList)).1 < 2 ^ (40 + 8 * s.size) := by
    have := valP_lt (headP s.data.toList.length ++ bytesP s.data.toList) (show allOk _ = true by unfold lOk at hP; simp only [Bool.and_eq_true] at hP; exact hP.1)
    rw [← b1, hb] at this
    exact this
  have hD : numB Z / 2 ^ (40 + 8 * s.size) = valB (knownL t) := by
    have e1 : (1 + 256 * valB (r ++ knownL t)) / 2 ^ (40 + 8 * s.size) = valB (knownL t) := by
      rw [← hU, hV, ← b1, hb, Nat.add_mul_div_right _ _ (Nat.two_pow_pos _), Nat.div_eq_of_lt Plt, Nat.zero_add]
    rw [← e1, hN, show 40 + 8 * s.size = 8 + (32 + 8 * s.size) by omega, Nat.pow_add, ← Nat.div_div_eq_div_mul, ← Nat.div_div_eq_div_mul]
    congr 1
    omega
  generalize valB (r ++ knownL t) = U at *
  generalize hW : numB Z = W at *
  have S8 : Std W 8 ((((s.data.toList.length : Nat) : Int), (16 : Int)) :: (((65535 - s.data.toList.length : Nat) : Int), (16 : Int)) :: bytesP s.data.toList) := by
    have h1 : Std (1 + 256 * U) 8 ((((s.data.toList.length : Nat) : Int), (16 : Int)) :: (((65535 - s.data.toList.length : Nat) : Int), (16 : Int)) :: bytesP s.data.toList) := S0.2.2.2
    have h2 := (std_shift (k := 8) (p := 0)).1 h1
    refine (std_shift (k := 8) (p := 0)).2 ?_
    have e : (1 + 256 * U) / 2 ^ 8 = W / 2 ^ 8 := by rw [hN]; omega
    rw [← e]
    exact h2
  have SZ : Std W 0 (((0 : Int), (1 : Int)) :: (((0 : Nat) : Int), (2 : Int)) :: ((0 : Int), ((5 : Nat) : Int)) :: (((s.data.toList.length : Nat) : Int), (16 : Int)) :: (((65535 - s.data.toList.length : Nat) : Int), (16 : Int)) :: (bytesP s.data.toList ++ [])) := by
    rw [List.append_nil]
    refine ⟨?_, ?_, ?_, S8⟩
    · show W / 2 ^ 0 % 2 ^ 1 = 0; rw [hN]; omega
    · show W / 2 ^ 1 % 2 ^ 2 = 0; rw [hN]; omega
    · show W / 2 ^ 3 % 2 ^ 5 = 0; rw [hN]; omega
  have SF : Std W (40 + 8 * s.size) (fixP t) := by
    refine (std_shift (k := 40 + 8 * s.size) (p := 0)).2 ?_
    rw [hD, hK]
    exact f3
  unfold flateG wholeG
  rw [if_pos hz, hW]
  have h3 := store_std (R := []) (V := W) (sz := 8 * Z.size) (p := 0 + 1 + 2) (c := 5) (L := s.data.toList) (l := []) (by decide) SZ.2.2 (by omega) (by simpa using hs)
  have hk0 : kindG W (8 * Z.size) 0 (0 + 1 + 2) [] = some (s.data.toList, 40 + 8 * s.size) := by
    unfold kindG
    rw [if_pos rfl, h3]
    simp only [List.nil_append, Option.some.injEq, Prod.mk.injEq, true_and]
    omega
  rw [parts_more (k := 0) SZ (by omega) hk0]
  simp only
  have hE : (fixL 288).getD 256 0 = 7 := by decide +kernel
  have hfold := fold_pre (s := s.data.toList) (L := t.data.toList) (by omega) t.data.toList.length 0 (by omega) (Nat.zero_le _) (by omega)
  rw [List.take_zero, List.append_nil, ls, lt] at hfold
  have SF2 : Std W (40 + 8 * s.size + 1 + 2) ((toksP t.data.toList 0).flatMap (pcTM (fixL 288) knowD) ++ (pcM (fixL 288) 256 :: [])) := SF.2.2
  by_cases hc : s.size + t.size ≤ 300
  · rw [if_pos hc] at hfold ⊢
    have ht := tok_std (L := fixL 288) (D := knowD) know_okL know_okD (V := W) (sz := 8 * Z.size) (by rw [hE]; omega) (l := []) (toksP t.data.toList 0) (40 + 8 * s.size + 1 + 2) s.data.toList (s.data.toList ++ t.data.toList) (fun x hx => ⟨toks_ok t x hx, know_has (toks_ok t x hx)⟩) SF2 (by rw [hE]; simp only [Int.reduceToNat]; omega) hfold
    rw [hE] at ht
    simp only [Int.reduceToNat] at ht
    have hk1 : kindG W (8 * Z.size) 1 (40 + 8 * s.size + 1 + 2) s.data.toList = some (s.data.toList ++ t.data.toList, 40 + 8 * s.size + bN (fixP t)) := by
      unfold kindG fixG
      rw [if_neg (by decide), if_pos rfl]
      have ht' : tokG W (8 * Z.size) (fixL 288) (List.replicate 32 5) (40 + 8 * s.size + 1 + 2) s.data.toList = _ := ht
      rw [ht', fb]
      simp only [Option.some.injEq, Prod.mk.injEq, true_and]
      omega
    rw [parts_last (k := 1) SF (by omega) hk1]
    simp only [Option.bind_some]
    have hrest : restG W (40 + 8 * s.size + bN (fixP t)) = some (8 * Z.size) := by
      unfold restG
      rw [Nat.pow_add, ← Nat.div_div_eq_div_mul, hD, hK, f1, Nat.div_eq_of_lt flt, Nat.zero_mod, if_pos rfl, ← f1]
      simp only [Option.some.injEq]
      omega
    rw [hrest]
    rfl
  · rw [if_neg hc] at hfold ⊢
    have ht := tok_no (L := fixL 288) (D := knowD) know_okL know_okD (V := W) (sz := 8 * Z.size) (l := pcM (fixL 288) 256 :: []) (toksP t.data.toList 0) (40 + 8 * s.size + 1 + 2) s.data.toList (fun x hx => ⟨toks_ok t x hx, know_has (toks_ok t x hx)⟩) SF2 (by omega) hfold
    have hk1 : kindG W (8 * Z.size) 1 (40 + 8 * s.size + 1 + 2) s.data.toList = none := by
      unfold kindG fixG
      rw [if_neg (by decide), if_pos rfl]
      exact ht
    rw [parts_none (k := 1) SF (by omega) hk1]
    rfl
/-- A length that is not told rightly. -/
theorem bad_flate {Z : ByteArray} {b1 b2 b3 b4 : UInt8} {r : List UInt8} (hZ : Z.data.toList = 1 :: b1 :: b2 :: b3 :: b4 :: r) (h : b1.toNat + 256 * b2.toNat + (b3.toNat + 256 * b4.toNat) ≠ 65535) : flateG Z = none := by
  unfold flateG
  split
  · have hl : Z.size = r.length + 5 := by rw [← len_list Z, hZ]; simp
    have hV : numB Z = 1 + 256 * (b1.toNat + 256 * (b2.toNat + 256 * (b3.toNat + 256 * (b4.toNat + 256 * valB r)))) := by
      unfold numB
      rw [hZ]
      rfl
    have l1 := b1.toNat_lt
    have l2 := b2.toNat_lt
    have l3 := b3.toNat_lt
    have l4 := b4.toNat_lt
    unfold wholeG
    generalize valB r = U at *
    generalize numB Z = V at *
    have r1 : rdN V (8 * Z.size) 0 1 = some (1, 1) := by
      rw [rdN_yes (by omega)]
      exact congrArg some (Prod.ext (show V / 2 ^ 0 % 2 ^ 1 = 1 by omega) rfl)
    have r2 : rdN V (8 * Z.size) 1 2 = some (0, 3) := by
      rw [rdN_yes (by omega)]
      exact congrArg some (Prod.ext (show V / 2 ^ 1 % 2 ^ 2 = 0 by omega) rfl)
    have r3 : restG V 3 = some 8 := by
      unfold restG
      have e : V / 2 ^ 3 % 2 ^ ((8 - 3 % 8) % 8) = 0 := by
        show V / 2 ^ 3 % 2 ^ 5 = 0
        omega
      rw [if_pos e]
    have r4 : rdN V (8 * Z.size) 8 16 = some (b1.toNat + 256 * b2.toNat, 24) := by
      rw [rdN_yes (by omega)]
      exact congrArg some (Prod.ext (show V / 2 ^ 8 % 2 ^ 16 = b1.toNat + 256 * b2.toNat by omega) rfl)
    have r5 : rdN V (8 * Z.size) 24 16 = some (b3.toNat + 256 * b4.toNat, 40) := by
      rw [rdN_yes (by omega)]
      exact congrArg some (Prod.ext (show V / 2 ^ 24 % 2 ^ 16 = b3.toNat + 256 * b4.toNat by omega) rfl)
    have hk : kindG V (8 * Z.size) 0 3 [] = none := by
      unfold kindG storeG
      rw [if_pos rfl, r3]
      simp only [Option.bind_some]
      rw [r4]
      simp only [Option.bind_some]
      rw [r5]
      simp only [Option.bind_some]
      rw [if_neg (by omega)]
    rw [partsG_step, r1]
    simp only [Option.bind_some]
    rw [r2]
    simp only [Option.bind_some]
    rw [hk]
    rfl
  · rfl
theorem head_sum : (List.range 301).all (fun n => decide (headV n / 256 % 256 % 256 + 256 * (headV n / 65536 % 256 % 256) + (headV n / 16777216 % 256 % 256 + 256 * (headV n / 4294967296 % 256 % 256)) = 65535)) = true := by decide +kernel
theorem storeL_head (L : List UInt8) (h : L.length ≤ 300) : ∃ b1 b2 b3 b4 : UInt8, storeL L = 1 :: b1 :: b2 :: b3 :: b4 :: L ∧ b1.toNat + 256 * b2.toNat + (b3.toNat + 256 * b4.toNat) = 65535 := by
  unfold storeL
  rw [if_pos h]
  have e : leS 5 (headV L.length) = [UInt8.ofNat (headV L.length / 2 ^ (8 * 0) % 256), UInt8.ofNat (headV L.length / 2 ^ (8 * 1) % 256), UInt8.ofNat (headV L.length / 2 ^ (8 * 2) % 256), UInt8.ofNat (headV L.length / 2 ^ (8 * 3) % 256), UInt8.ofNat (headV L.length / 2 ^ (8 * 4) % 256)] := rfl
  rw [e]
  have h0 : headV L.length / 2 ^ (8 * 0) % 256 = 1 := by simp only [Nat.reduceMul, Nat.reducePow]; unfold headV; omega
  rw [h0]
  refine ⟨_, _, _, _, rfl, ?_⟩
  simp only [UInt8.toNat_ofNat', Nat.reduceMul, Nat.reducePow]
  have := List.all_eq_true.1 head_sum L.length (List.mem_range.2 (by omega))
  simpa using this
/-- One byte of what tells the length is another one. -/
theorem store_bent {s Z : ByteArray} {k : Nat} {y : UInt8} (hs : s.size ≤ 300) (hk1 : 1 ≤ k) (hk4 : k ≤ 4) (hy : y ≠ (storeL s.data.toList).getD k 0) (hZ : Z.data.toList = (storeL s.data.toList).take k ++ ([y] ++ (storeL s.data.toList).drop (k + 1))) : flateG Z = none := by
  obtain ⟨b1, b2, b3, b4, e, hsum⟩ := storeL_head s.data.toList (by rw [len_list]; exact hs)
  rw [e] at hy hZ
  have hc : k = 1 ∨ k = 2 ∨ k = 3 ∨ k = 4 := by omega
  rcases hc with rfl | rfl | rfl | rfl
  · have hn : y.toNat ≠ b1.toNat := fun h => hy (UInt8.toNat_inj.1 h)
    exact bad_flate (b1 := y) (b2 := b2) (b3 := b3) (b4 := b4) (r := s.data.toList) (by rw [hZ]; rfl) (by omega)
  · have hn : y.toNat ≠ b2.toNat := fun h => hy (UInt8.toNat_inj.1 h)
    exact bad_flate (b1 := b1) (b2 := y) (b3 := b3) (b4 := b4) (r := s.data.toList) (by rw [hZ]; rfl) (by omega)
  · have hn : y.toNat ≠ b3.toNat := fun h => hy (UInt8.toNat_inj.1 h)
    exact bad_flate (b1 := b1) (b2 := b2) (b3 := y) (b4 := b4) (r := s.data.toList) (by rw [hZ]; rfl) (by omega)
  · have hn : y.toNat ≠ b4.toNat := fun h => hy (UInt8.toNat_inj.1 h)
    exact bad_flate (b1 := b1) (b2 := b2) (b3 := b3) (b4 := y) (r := s.data.toList) (by rw [hZ]; rfl) (by omega)

end Go.Proofs.YtpmidjddjdejmaaDoor
/- Walks of the statements: parts of a packed text are one behind the other; a length that is not told rightly. -/
namespace Go.Proofs.YtpmidjddjdejmaaDoor
open Go.RowKit Corb
attribute [local go_sem ↓] Go.wp_at_zero Go.wp_at_succ

theorem empty_list {s : ByteArray} (h : s = ⟨#[]⟩) : s.toList.isEmpty = true := by
  have : s = ByteArray.empty := h
  subst this
  unfold ByteArray.toList ByteArray.toList.loop
  rfl
theorem ext_bytes {s t : ByteArray} (h : s.data.toList = t.data.toList) : s = t := by
  cases s; cases t
  simp only [ByteArray.mk.injEq]
  exact Array.toList_inj.1 h
theorem implGet_no (x : ByteArray) (w : World) (hx : x.size ≤ 100000) (h : flateG x = none) (hO : OrdC w) :
    Calls Tryd.prog 10 #[.string x] w fun e w' => e = .returned (.tuple #[.string ⟨#[]⟩, .int .i64 0, .bool false]) ∧ Below w.heap.size w w' := by
  refine (implFlateGet_any x w (by omega) hO).mono ?_
  rintro e w' ⟨rfl, hb⟩
  rw [h]
  exact ⟨rfl, hb⟩
set_option maxRecDepth 100000 in
set_option maxHeartbeats 3200000 in
theorem fnStoreTwo_walk (a : Option Addr) (len cap : Nat) (zs : List Int) (a1 : Option Addr) (len1 cap1 : Nat) (zs1 : List Int) (w : World) (w0 : IsRow .u8 w a len cap zs) (v0 : IsRow .u8 w a1 len1 cap1 zs1) (hO : OrdC w) :
    Calls Tryd.prog 5 #[.slice a len cap, .slice a1 len1 cap1] w fun e w' => e = .returned (.bool true) ∧ Below w.heap.size w w' := by
  obtain ⟨⟨z, hsrc⟩, hc, hm⟩ := src_of w0
  obtain ⟨⟨z1, hsrc1⟩, hc1, hm1⟩ := src_of v0
  have HD1 := hide (drawStorePut_any a len cap z w hsrc hc hm)
  have HD2 := hide (fun W (hW : Below w.heap.size w W) => drawStorePut_any a1 len1 cap1 z1 W (hsrc1.later hW) hc1 hm1)
  unfold maxLen at hm hm1
  have HO := hide hO
  clear w0 v0 hsrc hsrc1 hc hc1 hO
  by_cases hl : (len : Int) ≤ 1048576
  · by_cases hl1 : (len1 : Int) ≤ 1048576
    · go_enter Tryd.func5, Tryd.ntmps5
      go_wp2_with fail
      refine (unhide HD1).mono ?_
      rintro e w1 ⟨⟨s, rfl, hs⟩, hb1⟩
      have HB1 := hide hb1
      clear hb1 HD1
      go_wp2_with fail
      refine (unhide HD2 w1 (unhide HB1)).mono ?_
      rintro e w2 ⟨⟨t, rfl, ht⟩, hb2⟩
      have HB2 := hide (bnext (unhide HB1) hb2)
      have HO2 := hide ((unhide HO).later (unhide HB2))
      clear hb2 HD2 HB1 HO
      have hsI : (s.size : Int) ≤ 400 := by omega
      have htI : (t.size : Int) ≤ 400 := by omega
      have C1 : Hid (∀ W, Calls Tryd.prog 8 #[.string s] W fun e w' => e = .returned (.string (byS s)) ∧ Below W.heap.size W w') := fun W => implStorePut_any s W (by omega)
      have C2 : Hid (∀ W, Calls Tryd.prog 13 #[.string t] W fun e w' => e = .returned (.string (byF t)) ∧ Below W.heap.size W w') := fun W => implFixedPut_any t W (by omega)
      have C3 : Hid (∀ W, Calls Tryd.prog 9 #[.string s] W fun e w' => e = .returned (.string (byS s)) ∧ Below W.heap.size W w') := fun W => specStorePut_any s W (by omega)
      have hAI := byS_small s
      have hBI := byF_small t
      have HA : Hid (¬ (byS s).toList.isEmpty = true → s.size ≤ 300) := fun h => by
        by_cases h3 : s.size ≤ 300
        · exact h3
        · exact absurd (empty_list (byS_long s h3)) h
      have HB' : Hid (¬ (byF t).toList.isEmpty = true → t.size ≤ 300) := fun h => by
        by_cases h3 : t.size ≤ 300
        · exact h3
        · exact absurd (empty_list (byF_long t h3)) h
      have HZ : Hid (s.size ≤ 300 → t.size ≤ 300 → (byS s).size + (byF t).size ≤ 700 → flateG ((⟨#[0]⟩ : ByteArray) ++ (byS s).extract 1 (byS s).size ++ byF t) = (if s.size + t.size ≤ 300 then some ((s ++ t).data.toList, 8 * ((byS s).size + (byF t).size)) else none) ∧ ((⟨#[0]⟩ : ByteArray) ++ (byS s).extract 1 (byS s).size ++ byF t).size = (byS s).size + (byF t).size ∧ 1 ≤ (byS s).size) := fun h3 h4 h7 => by
        have hA5 := (byS_is s h3).2
        have hsz : ((⟨#[0]⟩ : ByteArray) ++ (byS s).extract 1 (byS s).size ++ byF t).size = (byS s).size + (byF t).size := by
          rw [cat_size, cat_size, ByteArray.size_extract]
          have : (⟨#[0]⟩ : ByteArray).size = 1 := rfl
          omega
        refine ⟨?_, hsz, by omega⟩
        rw [two_flate s t _ h3 h4 ?_ (by omega), hsz, cat_list]
        rw [cat_list, cat_list, ext_list]
        have e1 : (byS s).data.toList = storeL s.data.toList := by unfold byS; simp
        have e2 : (byF t).data.toList = knownL t := by unfold byF fixedL; rw [if_pos h4]
        have e3 : (⟨#[0]⟩ : ByteArray).data.toList = [0] := rfl
        rw [e3, e2, List.take_of_length_le (by rw [List.length_drop, len_list]; exact Nat.le_refl _), e1]
        rfl
      generalize byS s = A at *
      generalize byF t = B at *
      by_cases hE1 : A.toList.isEmpty = true
      · clear HA HB' HZ
        have HC2 := hide (unhide C1 w2)
        go_wp2_with fail
        refine (unhide HC2).mono ?_
        rintro e w3 ⟨rfl, hb3⟩
        have HB3 := hide (bnext (unhide HB2) hb3)
        have HO3 := hide ((unhide HO2).later hb3)
        clear hb3 HC2 HB2 HO2
        have HC3 := hide (unhide C2 w3)
        go_wp2_with fail
        refine (unhide HC3).mono ?_
        rintro e w4 ⟨rfl, hb4⟩
        have HB4 := hide (bnext (unhide HB3) hb4)
        have HO4 := hide ((unhide HO3).later hb4)
        clear hb4 HC3 HB3 HO3
        have HC4 := hide (unhide C3 w4)
        go_wp2_with fail
        refine (unhide HC4).mono ?_
        rintro e w5 ⟨rfl, hb5⟩
        have HB5 := hide (bnext (unhide HB4) hb5)
        have HO5 := hide ((unhide HO4).later hb5)
        clear hb5 HC4 HB4 HO4
        have HC5 := hide (unhide C3 w5)
        go_wp2_with fail
        refine (unhide HC5).mono ?_
        rintro e w6 ⟨rfl, hb6⟩
        have HB6 := hide (bnext (unhide HB5) hb6)
        have HO6 := hide ((unhide HO5).later hb6)
        clear hb6 HC5 HB5 HO5
        go_wp2
        go_ret
        exact ⟨rfl, unhide HB6⟩
      · have h3 := unhide HA hE1
        have hE1' : A.toList.isEmpty = false := by simpa using hE1
        by_cases hE2 : B.toList.isEmpty = true
        · clear HA HB' HZ
          have HC2 := hide (unhide C1 w2)
          go_wp2_with fail
          refine (unhide HC2).mono ?_
          rintro e w3 ⟨rfl, hb3⟩
          have HB3 := hide (bnext (unhide HB2) hb3)
          have HO3 := hide ((unhide HO2).later hb3)
          clear hb3 HC2 HB2 HO2
          have HC3 := hide (unhide C2 w3)
          go_wp2_with fail
          refine (unhide HC3).mono ?_
          rintro e w4 ⟨rfl, hb4⟩
          have HB4 := hide (bnext (unhide HB3) hb4)
          have HO4 := hide ((unhide HO3).later hb4)
          clear hb4 HC3 HB3 HO3
          have HC4 := hide (unhide C3 w4)
          go_wp2_with fail
          refine (unhide HC4).mono ?_
          rintro e w5 ⟨rfl, hb5⟩
          have HB5 := hide (bnext (unhide HB4) hb5)
          have HO5 := hide ((unhide HO4).later hb5)
          clear hb5 HC4 HB4 HO4
          have HC5 := hide (unhide C3 w5)
          go_wp2_with fail
          refine (unhide HC5).mono ?_
          rintro e w6 ⟨rfl, hb6⟩
          have HB6 := hide (bnext (unhide HB5) hb6)
          have HO6 := hide ((unhide HO5).later hb6)
          clear hb6 HC5 HB5 HO5
          go_wp2
          go_ret
          exact ⟨rfl, unhide HB6⟩
        · have h4 := unhide HB' hE2
          have hE2' : B.toList.isEmpty = false := by simpa using hE2
          by_cases h7 : A.size + B.size ≤ 700
          · have h7I : ¬ (700 : Int) < (A.size : Int) + (B.size : Int) := by omega
            obtain ⟨hG, hsz, hA1⟩ := unhide HZ h3 h4 h7
            have hA1I : (1 : Int) ≤ (A.size : Int) := by omega
            clear HZ HA HB' hE1 hE2
            by_cases hc : s.size + t.size ≤ 300
            · have hcI : ¬ (300 : Int) < (s.size : Int) + (t.size : Int) := by omega
              rw [if_pos hc] at hG
              have HGt := hide (fun W (h : OrdC W) => implGet_yes _ (s ++ t) (A.size + B.size) W (by omega) hG h)
              clear hG hsz hc
              have HC2 := hide (unhide C1 w2)
              go_wp2_with fail
              refine (unhide HC2).mono ?_
              rintro e w3 ⟨rfl, hb3⟩
              have HB3 := hide (bnext (unhide HB2) hb3)
              have HO3 := hide ((unhide HO2).later hb3)
              clear hb3 HC2 HB2 HO2
              have HC3 := hide (unhide C2 w3)
              go_wp2_with fail
              refine (unhide HC3).mono ?_
              rintro e w4 ⟨rfl, hb4⟩
              have HB4 := hide (bnext (unhide HB3) hb4)
              have HO4 := hide ((unhide HO3).later hb4)
              clear hb4 HC3 HB3 HO3
              have HC4 := hide (unhide C3 w4)
              go_wp2_with fail
              refine (unhide HC4).mono ?_
              rintro e w5 ⟨rfl, hb5⟩
              have HB5 := hide (bnext (unhide HB4) hb5)
              have HO5 := hide ((unhide HO4).later hb5)
              clear hb5 HC4 HB4 HO4
              have HC5 := hide (unhide HGt w5 (unhide HO5))
              go_wp2_with fail
              refine (unhide HC5).mono ?_
              rintro e w6 ⟨rfl, hb6⟩
              have HB6 := hide (bnext (unhide HB5) hb6)
              have HO6 := hide ((unhide HO5).later hb6)
              clear hb6 HC5 HB5 HO5
              go_wp2
              go_ret
              exact ⟨rfl, unhide HB6⟩
            · have hcI : (300 : Int) < (s.size : Int) + (t.size : Int) := by omega
              rw [if_neg hc] at hG
              have HGt := hide (fun W (h : OrdC W) => implGet_no _ W (by omega) hG h)
              clear hG hsz hc
              have HC2 := hide (unhide C1 w2)
              go_wp2_with fail
              refine (unhide HC2).mono ?_
              rintro e w3 ⟨rfl, hb3⟩
              have HB3 := hide (bnext (unhide HB2) hb3)
              have HO3 := hide ((unhide HO2).later hb3)
              clear hb3 HC2 HB2 HO2
              have HC3 := hide (unhide C2 w3)
              go_wp2_with fail
              refine (unhide HC3).mono ?_
              rintro e w4 ⟨rfl, hb4⟩
              have HB4 := hide (bnext (unhide HB3) hb4)
              have HO4 := hide ((unhide HO3).later hb4)
              clear hb4 HC3 HB3 HO3
              have HC4 := hide (unhide C3 w4)
              go_wp2_with fail
              refine (unhide HC4).mono ?_
              rintro e w5 ⟨rfl, hb5⟩
              have HB5 := hide (bnext (unhide HB4) hb5)
              have HO5 := hide ((unhide HO4).later hb5)
              clear hb5 HC4 HB4 HO4
              have HC5 := hide (unhide HGt w5 (unhide HO5))
              go_wp2_with fail
              refine (unhide HC5).mono ?_
              rintro e w6 ⟨rfl, hb6⟩
              have HB6 := hide (bnext (unhide HB5) hb6)
              have HO6 := hide ((unhide HO5).later hb6)
              clear hb6 HC5 HB5 HO5
              go_wp2
              go_ret
              exact ⟨rfl, unhide HB6⟩
          · have h7I : (700 : Int) < (A.size : Int) + (B.size : Int) := by omega
            clear HZ HA HB'
            have HC2 := hide (unhide C1 w2)
            go_wp2_with fail
            refine (unhide HC2).mono ?_
            rintro e w3 ⟨rfl, hb3⟩
            have HB3 := hide (bnext (unhide HB2) hb3)
            have HO3 := hide ((unhide HO2).later hb3)
            clear hb3 HC2 HB2 HO2
            have HC3 := hide (unhide C2 w3)
            go_wp2_with fail
            refine (unhide HC3).mono ?_
            rintro e w4 ⟨rfl, hb4⟩
            have HB4 := hide (bnext (unhide HB3) hb4)
            have HO4 := hide ((unhide HO3).later hb4)
            clear hb4 HC3 HB3 HO3
            have HC4 := hide (unhide C3 w4)
            go_wp2_with fail
            refine (unhide HC4).mono ?_
            rintro e w5 ⟨rfl, hb5⟩
            have HB5 := hide (bnext (unhide HB4) hb5)
            have HO5 := hide ((unhide HO4).later hb5)
            clear hb5 HC4 HB4 HO4
            have HC5 := hide (unhide C3 w5)
            go_wp2_with fail
            refine (unhide HC5).mono ?_
            rintro e w6 ⟨rfl, hb6⟩
            have HB6 := hide (bnext (unhide HB5) hb6)
            have HO6 := hide ((unhide HO5).later hb6)
            clear hb6 HC5 HB5 HO5
            go_wp2
            go_ret
            exact ⟨rfl, unhide HB6⟩
    · go_enter Tryd.func5, Tryd.ntmps5
      go_wp2
      go_ret
      exact ⟨rfl, Below.refl _ _⟩
  · go_enter Tryd.func5, Tryd.ntmps5
    go_wp2
    go_ret
    exact ⟨rfl, Below.refl _ _⟩

end Go.Proofs.YtpmidjddjdejmaaDoor
/- Walk of the statement: a packed text whose length is not told rightly is not unpacked. -/
namespace Go.Proofs.YtpmidjddjdejmaaDoor
open Go.RowKit Corb
attribute [local go_sem ↓] Go.wp_at_zero Go.wp_at_succ

theorem xor_all : (List.range 256).all (fun n => decide (bits .xor .u8 (n : Int) 4 = ((n ^^^ 4 : Nat) : Int)) && (decide (n ^^^ 4 ≠ n) && decide (n ^^^ 4 < 256))) = true := by decide +kernel
theorem xor_at (b : UInt8) : bits .xor .u8 (b.toNat : Int) 4 = ((b.toNat ^^^ 4 : Nat) : Int) ∧ b.toNat ^^^ 4 ≠ b.toNat ∧ b.toNat ^^^ 4 < 256 := by
  have := List.all_eq_true.1 xor_all b.toNat (List.mem_range.2 b.toNat_lt)
  simp only [Bool.and_eq_true, decide_eq_true_eq] at this
  exact this
def bentB (b : UInt8) : UInt8 := UInt8.ofNat (b.toNat ^^^ 4)
theorem bentB_ne (b : UInt8) : bentB b ≠ b := by
  intro h
  have h1 := congrArg UInt8.toNat h
  obtain ⟨_, h2, h3⟩ := xor_at b
  unfold bentB at h1
  rw [UInt8.toNat_ofNat', Nat.mod_eq_of_lt h3] at h1
  exact h2 h1
theorem xor_back (x : World) (b : UInt8) :
    (convert 22 9 (.slice (some ⟨x.heap.size, 0, none⟩) 1 1)).run Tryd.prog (x.alloc (.cells #[.int .u8 (bits .xor .u8 (b.toNat : Int) 4)] 5)) =
      .ok (.string ⟨[bentB b].toArray⟩) (x.alloc (.cells #[.int .u8 (bits .xor .u8 (b.toNat : Int) 4)] 5)) := by
  rw [(xor_at b).1]
  exact byte_back0 x _ (xor_at b).2.2
set_option maxRecDepth 100000 in
set_option maxHeartbeats 3200000 in
theorem fnStoreBad_walk (a : Option Addr) (len cap : Nat) (zs : List Int) (a1 : Option Addr) (len1 cap1 : Nat) (zs1 : List Int) (w : World) (w0 : IsRow .u8 w a len cap zs) (v0 : IsRow .u8 w a1 len1 cap1 zs1) (hO : OrdC w) :
    Calls Tryd.prog 6 #[.slice a len cap, .slice a1 len1 cap1] w fun e w' => e = .returned (.bool true) ∧ Below w.heap.size w w' := by
  obtain ⟨⟨z, hsrc⟩, hc, hm⟩ := src_of w0
  obtain ⟨⟨z1, hsrc1⟩, hc1, hm1⟩ := src_of v0
  have HDr := hide (drawStorePut_any a len cap z w hsrc hc hm)
  unfold maxLen at hm hm1
  have HO := hide hO
  clear w0 v0 hsrc hsrc1 hc hc1 hO
  by_cases hl : (len : Int) ≤ 1048576
  · by_cases hl1 : (len1 : Int) ≤ 1048576
    · go_enter Tryd.func6, Tryd.ntmps6
      go_wp2_with fail
      refine (unhide HDr).mono ?_
      rintro e w1 ⟨⟨s, rfl, hs⟩, hb1⟩
      have HB1 := hide hb1
      have HO1 := hide ((unhide HO).later hb1)
      clear hb1 HDr HO
      have hsI : (s.size : Int) ≤ 400 := by omega
      have C1 : Hid (∀ W, Calls Tryd.prog 8 #[.string s] W fun e w' => e = .returned (.string (byS s)) ∧ Below W.heap.size W w') := fun W => implStorePut_any s W (by omega)
      have C3 : Hid (∀ W, Calls Tryd.prog 9 #[.string s] W fun e w' => e = .returned (.string (byS s)) ∧ Below W.heap.size W w') := fun W => specStorePut_any s W (by omega)
      have hAI := byS_small s
      have HA : Hid (¬ (byS s).toList.isEmpty = true → s.size ≤ 300) := fun h => by
        by_cases h3 : s.size ≤ 300
        · exact h3
        · exact absurd (empty_list (byS_long s h3)) h
      have HZ : Hid (s.size ≤ 300 → ∀ k (hk : k < (byS s).size), 1 ≤ k → k ≤ 4 → ∀ y : UInt8, y ≠ (byS s)[k] → flateG ((byS s).extract 0 k ++ (⟨[y].toArray⟩ : ByteArray) ++ (byS s).extract (k + 1) (byS s).size) = none) := fun h3 k hk hk1 hk4 y hy => by
        have e1 : (byS s).data.toList = storeL s.data.toList := by unfold byS; simp
        refine store_bent (s := s) (k := k) (y := y) h3 hk1 hk4 ?_ ?_
        · rw [← e1]
          have hk' : k < (byS s).data.toList.length := by rw [len_list]; exact hk
          have e2 : (byS s).data.toList.getD k 0 = (byS s)[k] := by
            rw [List.getD_eq_getElem?_getD, List.getElem?_eq_getElem hk']
            rfl
          rw [e2]
          exact hy
        · rw [bent_list, e1]
      have H5 : Hid (s.size ≤ 300 → (byS s).size = s.size + 5) := fun h3 => (byS_is s h3).2
      generalize byS s = A at *
      by_cases hE1 : A.toList.isEmpty = true
      · clear HA HZ H5
        have HC1 := hide (unhide C1 w1)
        go_wp2_with fail
        refine (unhide HC1).mono ?_
        rintro e w2 ⟨rfl, hb2⟩
        have HB2 := hide (bnext (unhide HB1) hb2)
        have HO2 := hide ((unhide HO1).later hb2)
        clear hb2 HC1 HB1 HO1
        have HC2 := hide (unhide C3 w2)
        go_wp2_with fail
        refine (unhide HC2).mono ?_
        rintro e w3 ⟨rfl, hb3⟩
        have HB3 := hide (bnext (unhide HB2) hb3)
        have HO3 := hide ((unhide HO2).later hb3)
        clear hb3 HC2 HB2 HO2
        have HC3 := hide (unhide C3 w3)
        go_wp2_with fail
        refine (unhide HC3).mono ?_
        rintro e w4 ⟨rfl, hb4⟩
        have HB4 := hide (bnext (unhide HB3) hb4)
        have HO4 := hide ((unhide HO3).later hb4)
        clear hb4 HC3 HB3 HO3
        go_wp2
        go_ret
        exact ⟨rfl, unhide HB4⟩
      · have h3 := unhide HA hE1
        have hE1' : A.toList.isEmpty = false := by simpa using hE1
        have hA5 := unhide H5 h3
        obtain ⟨k, hk⟩ : ∃ k : Nat, k = 1 + len1 % 4 := ⟨_, rfl⟩
        have hkz : (1 : Int) + (len1 : Int) % 4 = (k : Int) := by omega
        have hk1 : 1 ≤ k ∧ k ≤ 4 := by omega
        have hkA : k < A.size := by omega
        have k0 : (0 : Int) ≤ (k : Int) := by omega
        have k1 : (k : Int) < (A.size : Int) := by omega
        have k2 : (k : Int) ≤ (A.size : Int) := by omega
        have k3 : (k : Int) + 1 ≤ (A.size : Int) := by omega
        have k4 : IntKind.i64.wrap ((k : Int) + 1) = (k : Int) + 1 := wrap_id _ (by omega) (by omega)
        have k5 : (0 : Int) ≤ (k : Int) + 1 := by omega
        have HZ2 := hide (unhide HZ h3 k hkA hk1.1 hk1.2)
        clear HA HZ H5 hE1 hk
        have HC1 := hide (unhide C1 w1)
        go_wp2_with fail
        refine (unhide HC1).mono ?_
        rintro e w2 ⟨rfl, hb2⟩
        have HB2 := hide (bnext (unhide HB1) hb2)
        have HO2 := hide ((unhide HO1).later hb2)
        clear hb2 HC1 HB1 HO1
        have HC2 := hide (unhide C3 w2)
        go_wp2_with fail
        refine (unhide HC2).mono ?_
        rintro e w3 ⟨rfl, hb3⟩
        have HB3 := hide (bnext (unhide HB2) hb3)
        have HO3 := hide ((unhide HO2).later hb3)
        clear hb3 HC2 HB2 HO2
        go_wp2_with fail
        have hqb := xor_back w3.drew A[k]
        have HZ3 : Hid (flateG (A.extract 0 k ++ (⟨[bentB A[k]].toArray⟩ : ByteArray) ++ A.extract (k + 1) A.size) = none ∧ (A.extract 0 k ++ (⟨[bentB A[k]].toArray⟩ : ByteArray) ++ A.extract (k + 1) A.size).size ≤ 100000) := by
          refine ⟨unhide HZ2 _ (bentB_ne _), ?_⟩
          have e1 : (⟨[bentB A[k]].toArray⟩ : ByteArray).size = 1 := rfl
          rw [cat_size, cat_size, ByteArray.size_extract, ByteArray.size_extract, e1]
          omega
        generalize bentB A[k] = y at *
        have HGt : Hid (∀ W, OrdC W → Calls Tryd.prog 10 #[.string (A.extract 0 k ++ (⟨[y].toArray⟩ : ByteArray) ++ A.extract (k + 1) A.size)] W fun e w' => e = .returned (.tuple #[.string ⟨#[]⟩, .int .i64 0, .bool false]) ∧ Below W.heap.size W w') := fun W h => implGet_no _ W (unhide HZ3).2 (unhide HZ3).1 h
        have hmix : Tryd.prog.follows .mixedOrders = true := by kernel_rfl
        have HB4 : Hid (Below w.heap.size w (w3.drew.alloc (.cells #[.int .u8 (bits .xor .u8 (A[k].toNat : Int) 4)] 5))) := (unhide HB3).drew.alloc (unhide HB3).size _
        have HO4 : Hid (OrdC (w3.drew.alloc (.cells #[.int .u8 (bits .xor .u8 (A[k].toNat : Int) 4)] 5))) := (unhide HO3).later ((Below.refl _ _).drew.alloc (Nat.le_refl _) _)
        clear HZ3 HZ2 hA5
        refine wp_region_held_drew (S := fun _ => True) hmix trivial (fun hS => ?_)
        refine wpAnyH_take (i := 0) (v := .string A) rfl (by kernel_rfl) (by kernel_rfl) (by kernel_rfl) (fun _ _ _ h => h) (Or.inl ⟨by rfl, fun W hSw => by go_simp⟩) hS ?_
        refine wpAnyH_take (i := 1) (v := .int .i64 (k : Nat)) rfl (by kernel_rfl) (by kernel_rfl) (by kernel_rfl) (fun _ _ _ h => h) (Or.inl ⟨by rfl, fun W hSw => by go_simp⟩) hS ?_
        refine wpAnyH_take (i := 2) (v := .string (A.extract 0 k)) rfl (by kernel_rfl) (by kernel_rfl) (by kernel_rfl) (fun _ _ _ h => h) (Or.inl ⟨by rfl, fun W hSw => by go_simp⟩) hS ?_
        refine wpAnyH_take (i := 3) (v := .string A) rfl (by kernel_rfl) (by kernel_rfl) (by kernel_rfl) (fun _ _ _ h => h) (Or.inl ⟨by rfl, fun W hSw => by go_simp⟩) hS ?_
        refine wpAnyH_take (i := 4) (v := .int .i64 (k : Nat)) rfl (by kernel_rfl) (by kernel_rfl) (by kernel_rfl) (fun _ _ _ h => h) (Or.inl ⟨by rfl, fun W hSw => by go_simp⟩) hS ?_
        refine wpAnyH_take (i := 5) (v := .int .u8 (A[k].toNat : Int)) rfl (by kernel_rfl) (by kernel_rfl) (by kernel_rfl) (fun _ _ _ h => h) (Or.inl ⟨by rfl, fun W hSw => by go_simp⟩) hS ?_
        refine wpAnyH_take (i := 6) (v := .int .u8 (bits .xor .u8 (A[k].toNat : Int) 4)) rfl (by kernel_rfl) (by kernel_rfl) (by kernel_rfl) (fun _ _ _ h => h) (Or.inl ⟨by rfl, fun W hSw => by go_simp⟩) hS ?_
        refine wpAnyH_take (i := 10) (v := .string A) rfl (by kernel_rfl) (by kernel_rfl) (by kernel_rfl) (fun _ _ _ h => h) (Or.inl ⟨by rfl, fun W hSw => by go_simp⟩) hS ?_
        refine wpAnyH_take (i := 11) (v := .int .i64 (k : Nat)) rfl (by kernel_rfl) (by kernel_rfl) (by kernel_rfl) (fun _ _ _ h => h) (Or.inl ⟨by rfl, fun W hSw => by go_simp⟩) hS ?_
        refine wpAnyH_take (i := 12) (v := .int .i64 ((k : Int) + 1)) rfl (by kernel_rfl) (by kernel_rfl) (by kernel_rfl) (fun _ _ _ h => h) (Or.inl ⟨by rfl, fun W hSw => by go_simp⟩) hS ?_
        refine wpAnyH_take (i := 13) (v := .string (A.extract (k + 1) A.size)) rfl (by kernel_rfl) (by kernel_rfl) (by kernel_rfl) (fun _ _ _ h => h) (Or.inl ⟨by rfl, fun W hSw => by go_simp⟩) hS ?_
        refine wpAnyH_ready (rs := [7]) (by kernel_rfl) (by simp) ?_
        refine AllReadyH.cons rfl (fun K hK => ?_) AllReadyH.nil
        go_simp
        refine Shut.out hK _ _ trivial (fun _ => ?_)
        clear hK K hS
        obtain ⟨w4, hw4⟩ : ∃ x, w3.drew.alloc (.cells #[.int .u8 (bits .xor .u8 (A[k].toNat : Int) 4)] 5) = x := ⟨_, rfl⟩
        rw [hw4] at HB4 HO4 hqb
        refine wpAnyH_weaken (S' := fun W => W = w4) (fun _ _ => trivial) _ _ _ _ ?_
        have hS : w3.drew.alloc (.cells #[.int .u8 (bits .xor .u8 (A[k].toNat : Int) 4)] 5) = w4 := hw4
        have hszd : w3.drew.heap.size = w3.heap.size := rfl
        rw [hszd] at hqb
        refine wpAnyH_take (i := 8) (v := .string ⟨[y].toArray⟩) rfl (by kernel_rfl) (by kernel_rfl) (by kernel_rfl) (fun _ _ _ h => h) (Or.inl ⟨by rfl, fun W hSw => by subst hSw; go_simp⟩) hS ?_
        refine wpAnyH_take (i := 9) (v := .string (A.extract 0 k ++ (⟨[y].toArray⟩ : ByteArray))) rfl (by kernel_rfl) (by kernel_rfl) (by kernel_rfl) (fun _ _ _ h => h) (Or.inl ⟨by rfl, fun W hSw => by subst hSw; go_simp <;> omega⟩) hS ?_
        refine wpAnyH_take (i := 14) (v := .string (A.extract 0 k ++ (⟨[y].toArray⟩ : ByteArray) ++ A.extract (k + 1) A.size)) rfl (by kernel_rfl) (by kernel_rfl) (by kernel_rfl) (fun _ _ _ h => h) (Or.inl ⟨by rfl, fun W hSw => by subst hSw; go_simp <;> omega⟩) hS ?_
        refine wpAnyH_ready (rs := [15]) (by kernel_rfl) (by simp) ?_
        refine AllReadyH.cons rfl (fun K hK => ?_) AllReadyH.nil
        go_simp
        refine Shut.out hK _ _ hw4 (fun _ => ?_)
        clear hK K
        refine wpAnyH_done (by kernel_rfl) ?_ _
        clear hqb hS hw4
        generalize A.extract 0 k ++ (⟨[y].toArray⟩ : ByteArray) ++ A.extract (k + 1) A.size = Zz at *
        go_wp2_with fail
        refine (unhide HGt w4 (unhide HO4)).mono ?_
        rintro e w5 ⟨rfl, hb5⟩
        have HB5 := hide (bnext (unhide HB4) hb5)
        clear hb5
        go_wp2
        go_ret
        exact ⟨rfl, unhide HB5⟩
    · go_enter Tryd.func6, Tryd.ntmps6
      go_wp2
      go_ret
      exact ⟨rfl, Below.refl _ _⟩
  · go_enter Tryd.func6, Tryd.ntmps6
    go_wp2
    go_ret
    exact ⟨rfl, Below.refl _ _⟩

end Go.Proofs.YtpmidjddjdejmaaDoor
