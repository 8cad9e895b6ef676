/- Of what the proof is made: 5 texts, one behind the other. -/
import Derived.Test.YtbacpebljannfaaGreatDoorRt1
import Derived.Test.YtbacpebljannfaaGreatDoorM22
import Derived.Test.YtbacpebljannfaaGreatDoorM18
import Derived.Test.YtbacpebljannfaaGreatDoorGq3
import Derived.Test.YtbacpebljannfaaGreatDoorM25
import Derived.Test.YtbacpebljannfaaGreatDoorM27
namespace Go.Proofs.YtbacpebljannfaaGreatDoor
open Go.RowKit Corb
theorem arr_size (l : List UInt8) : (⟨l.toArray⟩ : ByteArray).size = l.length := by simp [ByteArray.size]
theorem bytes_std {V sz : Nat} {l : List (Int × Int)} : ∀ (L : List UInt8) (p : Nat) (R : List UInt8), Std V p (bytesP L ++ l) → p + 8 * L.length ≤ sz → R.length + L.length ≤ 300 → bytesG V sz L.length p R = some (R ++ L, p + 8 * L.length) := by
  intro L
  induction L with
  | nil => intro p R _ _ _; simp [bytesG]
  | cons b L ih =>
    intro p R h hs hR
    rw [List.length_cons] at hs hR ⊢
    have e : bytesP (b :: L) ++ l = (((b.toNat : Nat) : Int), (8 : Int)) :: (bytesP L ++ l) := rfl
    rw [e] at h
    have h1 := rd_std (sz := sz) h (by show p + 8 ≤ sz; omega)
    simp only [Int.toNat_natCast] at h1
    have h1' : rdN V sz p 8 = some (b.toNat, p + 8) := h1
    have hb := b.toNat_lt
    simp only [bytesG]
    rw [h1']
    simp only [Option.bind_some]
    rw [byte_addL R b.toNat hb, if_pos (by omega)]
    simp only [Option.bind_some]
    rw [byteT_of, ih (p + 8) (R ++ [b]) h.2 (by omega) (by rw [List.length_append, List.length_singleton]; omega)]
    simp only [List.append_assoc, List.singleton_append, Option.some.injEq, Prod.mk.injEq, true_and]
    omega
theorem store_std {V sz p c : Nat} {L R : List UInt8} {l : List (Int × Int)} (hc : (8 - p % 8) % 8 = c) (h : Std V p (((0 : Int), (c : Int)) :: ((L.length : Int), (16 : Int)) :: (((65535 - L.length : Nat) : Int), (16 : Int)) :: (bytesP L ++ l))) (hs : p + c + 32 + 8 * L.length ≤ sz) (hR : R.length + L.length ≤ 300) :
    storeG V sz p R = some (R ++ L, p + c + 32 + 8 * L.length) := by
  have h0 := h.1
  have h1 := h.2
  have h2 := h1.2
  have h3 := h2.2
  simp only [Int.toNat_natCast, Int.toNat_zero] at h0 h1 h2 h3
  unfold storeG restG
  rw [hc, if_pos h0]
  simp only [Option.bind_some]
  have r1 : rdN V sz (p + c) 16 = some (L.length, p + c + 16) := rd_std (sz := sz) h1 (by show p + c + 16 ≤ sz; omega)
  have r2 : rdN V sz (p + c + 16) 16 = some (65535 - L.length, p + c + 16 + 16) := rd_std (sz := sz) h2 (by show p + c + 16 + 16 ≤ sz; omega)
  rw [r1]
  simp only [Option.bind_some]
  rw [r2]
  simp only [Option.bind_some, if_true]
  have h3' : Std V (p + c + 16 + 16) (bytesP L ++ l) := h3
  rw [bytes_std L _ R h3' (by omega) hR]
theorem parts_last {V sz p k : Nat} {T : List UInt8} {r : List UInt8 × Nat} {l : List (Int × Int)} (h : Std V p (((1 : Int), (1 : Int)) :: ((k : Int), (2 : Int)) :: l)) (hs : p + 1 + 2 ≤ sz) (hk : kindG V sz k (p + 1 + 2) T = some r) : partsG V sz p T = some r := by
  have r1 : rdN V sz p 1 = some (1, p + 1) := rd_std (sz := sz) h (by show p + 1 ≤ sz; omega)
  have h2 := h.2
  have r2 : rdN V sz (p + 1) 2 = some (k, p + 1 + 2) := by
    have := rd_std (sz := sz) h2 (by show p + 1 + 2 ≤ sz; omega)
    simpa using this
  rw [partsG_step, r1]
  simp only [Option.bind_some]
  rw [r2]
  simp only [Option.bind_some]
  rw [hk]
  rfl
theorem rest_std {V M : Nat} (h : V < 2 ^ M) : restG V M = some (M + (8 - M % 8) % 8) := by
  unfold restG
  rw [Nat.div_eq_of_lt h, Nat.zero_mod, if_pos rfl]
theorem flate_of {P : List (Int × Int)} {T : List UInt8} (hP : lOk P = true) (hs : (textP P).length ≤ 700) (hp : partsG (valP P).1 (8 * (textP P).length) 0 [] = some (T, (valP P).2)) : flateG ⟨(textP P).toArray⟩ = some (T, 8 * (textP P).length) := by
  have hl : (textP P).length = ((valP P).2 + 7) / 8 := by unfold textP; exact leS_len _ _
  have hv := valB_put hP
  rw [putS_yes hP] at hv
  have hlt : (valP P).1 < 2 ^ (valP P).2 := valP_lt P (by unfold lOk at hP; simp only [Bool.and_eq_true] at hP; exact hP.1)
  unfold flateG wholeG
  rw [if_pos (by rw [arr_size]; exact hs)]
  have e1 : numB ⟨(textP P).toArray⟩ = (valP P).1 := by unfold numB; simpa using hv
  have e2 : (⟨(textP P).toArray⟩ : ByteArray).size = (textP P).length := arr_size _
  rw [e1, e2, hp]
  simp only [Option.bind_some]
  rw [rest_std hlt]
  simp only [Option.bind_some, Option.some.injEq, Prod.mk.injEq, true_and]
  rw [hl]
  omega
theorem bits_of {P : List (Int × Int)} (hP : lOk P = true) : bN P = (valP P).2 ∧ bN P ≤ 8 * (textP P).length ∧ Std (valP P).1 0 P := by
  have h : allOk P = true := by unfold lOk at hP; simp only [Bool.and_eq_true] at hP; exact hP.1
  have h1 := sumN_bits h
  have hl : (textP P).length = ((valP P).2 + 7) / 8 := by unfold textP; exact leS_len _ _
  have h2 := std_put 0 h
  rw [Nat.zero_mul, Nat.add_zero] at h2
  refine ⟨h1, ?_, h2⟩
  unfold bN
  rw [h1, hl]
  omega
end Go.Proofs.YtbacpebljannfaaGreatDoor
namespace Go.Proofs.YtbacpebljannfaaGreatDoor
open Go.RowKit Corb
theorem bN_bytes (L : List UInt8) : bN (bytesP L) = 8 * L.length := by
  induction L with
  | nil => rfl
  | cons b L ih =>
    have e : bytesP (b :: L) = (((b.toNat : Nat) : Int), (8 : Int)) :: bytesP L := rfl
    rw [e, bN_cons, ih, List.length_cons]
    simp only [Int.reduceToNat]
    omega
theorem storeP_ok (L : List UInt8) (h : L.length ≤ 300) : lOk (headP L.length ++ bytesP L) = true := by
  have h1 := headP_ok L.length (by omega)
  have h2 := bytesP_lOk L (by omega)
  unfold lOk at h1 h2 ⊢
  simp only [Bool.and_eq_true, decide_eq_true_eq] at h1 h2 ⊢
  rw [allOk_append, h1.1, h2.1, List.length_append, bytesP_len]
  refine ⟨rfl, ?_⟩
  have : (headP L.length).length = 5 := rfl
  omega
theorem storeL_text (L : List UInt8) (h : L.length ≤ 300) : textP (headP L.length ++ bytesP L) = storeL L := by
  rw [← putS_yes (storeP_ok L h), store_put L h]
  unfold storeL
  rw [if_pos h]
theorem storeL_len (L : List UInt8) (h : L.length ≤ 300) : (storeL L).length = L.length + 5 := by
  unfold storeL
  rw [if_pos h, List.length_append, leS_len]
  omega
theorem flate_store (L : List UInt8) (h : L.length ≤ 300) : flateG ⟨(storeL L).toArray⟩ = some (L, 8 * (L.length + 5)) := by
  have hP := storeP_ok L h
  obtain ⟨b1, b2, b3⟩ := bits_of hP
  have hl := storeL_len L h
  rw [← storeL_text L h] at hl ⊢
  rw [hl] at b2
  have hb : bN (headP L.length ++ bytesP L) = 40 + 8 * L.length := by
    rw [bN_append, bN_bytes]
    rfl
  have := flate_of (T := L) hP (by omega) (by
    rw [hl, ← b1, hb]
    refine parts_last (k := 0) b3 (by omega) ?_
    unfold kindG
    rw [if_pos rfl]
    have h3 := store_std (R := []) (V := (valP (headP L.length ++ bytesP L)).1) (sz := 8 * (L.length + 5)) (p := 0 + 1 + 2) (c := 5) (L := L) (l := []) (by decide) (by rw [List.append_nil]; exact b3.2.2) (by omega) (by simpa using h)
    rw [h3]
    simp only [List.nil_append])
  rw [this, hl]
theorem fix_pos : (List.range 288).all (fun i => decide (0 < (fixL 288).getD i 0) && decide ((fixL 288).getD i 0 ≤ 9)) = true := by decide +kernel
theorem five_pos : (List.range 32).all (fun i => decide (knowD.getD i 0 = 5)) = true := by decide +kernel
theorem fix_at {i : Nat} (h : i < 288) : 0 < (fixL 288).getD i 0 ∧ (fixL 288).getD i 0 ≤ 9 := by
  have := List.all_eq_true.1 fix_pos i (List.mem_range.2 h)
  simpa using this
theorem five_at {i : Nat} (h : i < 32) : knowD.getD i 0 = 5 := by
  have := List.all_eq_true.1 five_pos i (List.mem_range.2 h)
  simpa using this
theorem know_has {t : Tk} (ht : okT t = true) : hasT (fixL 288) knowD t := by
  have := know_fits ht
  unfold fitsT at this
  unfold hasT
  split
  · rename_i hB
    rw [if_pos hB] at this
    exact (fix_at (by have : (fixL 288).length = 288 := by decide +kernel
                      omega)).1
  · rename_i hB
    rw [if_neg hB] at this
    have l1 : (fixL 288).length = 288 := by decide +kernel
    have l2 : knowD.length = 32 := by decide +kernel
    refine ⟨(fix_at (by omega)).1, ?_⟩
    rw [five_at (by omega)]
    omega
theorem fix_long : (List.range 61).all (fun y => decide (y < 3) || decide (((fixL 288).getD (257 + fnd 3 4 y 27) 0).toNat + (stF 3 4 (fnd 3 4 y 27)).2 + 11 ≤ 9 * y)) = true := by decide +kernel
theorem fix_back : (List.range 251).all (fun y => decide (y < 1) || decide ((stF 1 2 (fnd 1 2 y 29)).2 ≤ 6)) = true := by decide +kernel
theorem fix_bits {t : Tk} (ht : okT t = true) : bN (pcTM (fixL 288) knowD t) ≤ 9 * (if isB t then 1 else t.2.1.toNat) := by
  obtain ⟨y, lo, ba⟩ := t
  unfold pcTM
  by_cases hB : isB (y, lo, ba) = true
  · rw [if_pos hB, if_pos hB, bN_cons, bN_nil, bN_pcM]
    have hb : 0 ≤ y ∧ y ≤ 255 := by unfold isB inB at hB; simp only [Bool.and_eq_true, decide_eq_true_eq] at hB; omega
    have := fix_at (i := y.toNat) (by omega)
    show ((fixL 288).getD y.toNat 0).toNat + 0 ≤ 9 * 1
    omega
  · rw [if_neg hB, if_neg hB]
    have hK : isK (y, lo, ba) = true := by unfold okT at ht; simpa [hB] using ht
    have hb : y = 0 ∧ 3 ≤ lo ∧ lo ≤ 60 ∧ 1 ≤ ba ∧ ba ≤ 250 := by unfold isK inB at hK; simp only [Bool.and_eq_true, decide_eq_true_eq] at hK; omega
    obtain ⟨rfl, b1, b2, b3, b4⟩ := hb
    obtain ⟨x, rfl⟩ := Int.eq_ofNat_of_zero_le (show 0 ≤ lo by omega)
    obtain ⟨z, rfl⟩ := Int.eq_ofNat_of_zero_le (show 0 ≤ ba by omega)
    have f1 := List.all_eq_true.1 fix_long x (List.mem_range.2 (by omega))
    have f2 := List.all_eq_true.1 fix_back z (List.mem_range.2 (by omega))
    simp only [Bool.or_eq_true, decide_eq_true_eq] at f1 f2
    have g := five_at (i := fnd 1 2 z 29) (by have := fnd_le 1 2 z 29; omega)
    simp only [bN_cons, bN_nil, bN_pcM, Int.toNat_natCast]
    rw [g]
    omega
theorem fix_sum {L : List UInt8} : ∀ (n p : Nat), L.length - p ≤ n → bN ((toksP L p).flatMap (pcTM (fixL 288) knowD)) ≤ 9 * (L.length - p) := by
  intro n
  induction n with
  | zero =>
    intro p h
    rw [toksP_end (by omega)]
    exact Nat.zero_le _
  | succ n ih =>
    intro p h
    by_cases hp : p < L.length
    · have hok := toksP_okT L L.length p (by omega)
      rw [toksP_step hp] at hok ⊢
      have h1 := fix_bits (hok (tokP L p) (by simp))
      have h3 := sizP_pos L p
      have h4 := sizP_in hp
      have h5 := ih (p + sizP L p) (by omega)
      have h6 : (if isB (tokP L p) then 1 else (tokP L p).2.1.toNat) = sizP L p := by
        unfold tokP sizP
        by_cases hc : (bestF L p (min p 250)).1 < 3
        · have hB : isB ((((L.getD p 0).toNat : Nat) : Int), 0, 0) = true := by
            have := (L.getD p 0).toNat_lt
            generalize (L.getD p 0).toNat = y at *
            unfold isB inB
            simp
            omega
          rw [if_pos hc, if_pos hc, hB]
          rfl
        · have hB : isB (0, ((bestF L p (min p 250)).1 : Int), ((bestF L p (min p 250)).2 : Int)) = false := by
            unfold isB
            simp
            omega
          rw [if_neg hc, if_neg hc, hB]
          simp
      rw [h6] at h1
      rw [List.flatMap_cons, bN_append]
      omega
    · rw [toksP_end hp]
      exact Nat.zero_le _
theorem fixP_bits (s : ByteArray) : bN (fixP s) = 1 + 2 + bN ((toksP s.data.toList 0).flatMap (pcTM (fixL 288) knowD)) + 7 := by
  unfold fixP
  rw [bN_append, bN_append]
  have e1 : bN [((1 : Int), (1 : Int)), ((1 : Int), (2 : Int))] = 3 := rfl
  have e2 : bN [pcM (fixL 288) 256] = 7 := by
    rw [bN_cons, bN_nil, bN_pcM]
    decide +kernel
  rw [e1, e2]
  omega
theorem knownL_len (s : ByteArray) (h : s.size ≤ 300) : (knownL s).length ≤ 340 ∧ 2 ≤ (knownL s).length := by
  have hP := fixP_ok s h
  obtain ⟨b1, b2, b3⟩ := bits_of hP
  have e := fixP_bits s
  have e2 := fix_sum (L := s.data.toList) s.data.toList.length 0 (by omega)
  have e3 : s.data.toList.length = s.size := by simp
  have hl : (knownL s).length = ((valP (fixP s)).2 + 7) / 8 := by unfold knownL textP; exact leS_len _ _
  rw [hl, ← b1, e]
  omega
theorem flate_known (s : ByteArray) (h : s.size ≤ 300) : flateG ⟨(knownL s).toArray⟩ = some (s.data.toList, 8 * (knownL s).length) := by
  have hP := fixP_ok s h
  obtain ⟨b1, b2, b3⟩ := bits_of hP
  have hl := (knownL_len s h).1
  have e := fixP_bits s
  have e3 : s.data.toList.length = s.size := by simp
  have hE : (fixL 288).getD 256 0 = 7 := by decide +kernel
  refine flate_of hP (show (knownL s).length ≤ 700 by omega) ?_
  have b2' : bN (fixP s) ≤ 8 * (knownL s).length := b2
  show partsG (valP (fixP s)).1 (8 * (knownL s).length) 0 [] = some (s.data.toList, (valP (fixP s)).2)
  refine parts_last (k := 1) b3 (by omega) ?_
  unfold kindG fixG
  rw [if_neg (by decide), if_pos rfl]
  have ht := tok_std (L := fixL 288) (D := knowD) know_okL know_okD (V := (valP (fixP s)).1) (sz := 8 * (knownL s).length) (by rw [hE]; omega) (l := []) (toksP s.data.toList 0) (0 + 1 + 2) [] s.data.toList (fun t ht => ⟨toks_ok s t ht, know_has (toks_ok s t ht)⟩) b3.2.2 (by rw [hE]; simp only [Int.reduceToNat]; omega) (toks_fold0 (by omega))
  rw [hE] at ht
  simp only [Int.reduceToNat] at ht
  have ht' : tokG (valP (fixP s)).1 (8 * (knownL s).length) (fixL 288) (List.replicate 32 5) (0 + 1 + 2) [] = _ := ht
  rw [ht', ← b1, e]
end Go.Proofs.YtbacpebljannfaaGreatDoor
namespace Go.Proofs.YtbacpebljannfaaGreatDoor
open Go.RowKit Corb
theorem byS_is (s : ByteArray) (h : s.size ≤ 300) : flateG (byS s) = some (s.data.toList, 8 * (byS s).size) ∧ (byS s).size = s.size + 5 := by
  have hl : s.data.toList.length = s.size := str_len s
  have h1 := flate_store s.data.toList (by omega)
  have h2 := storeL_len s.data.toList (by omega)
  unfold byS
  rw [arr_size, h1, h2, hl]
  exact ⟨rfl, rfl⟩
theorem byF_is (s : ByteArray) (h : s.size ≤ 300) : flateG (byF s) = some (s.data.toList, 8 * (byF s).size) ∧ 2 ≤ (byF s).size ∧ (byF s).size ≤ 340 := by
  have h1 := flate_known s h
  have h2 := knownL_len s h
  unfold byF fixedL
  rw [if_pos h, arr_size, h1]
  exact ⟨rfl, h2.2, h2.1⟩
end Go.Proofs.YtbacpebljannfaaGreatDoor
namespace Go.Proofs.YtbacpebljannfaaGreatDoor
open Go.RowKit Corb
theorem list_of_getD {a r : List Int} (hl : r.length = a.length) (h : ∀ j, j < a.length → r.getD j 0 = a.getD j 0) : r = a := by
  apply List.ext_getElem hl
  intro j h1 h2
  have := h j h2
  simpa [List.getD, h1, h2] using this
theorem lb_get {V : Nat} {a : List Int} {l : List (Int × Int)} : ∀ (is : List Nat) (p : Nat) (r : List Int), Std V p (is.map (fun i => (a.getD i 0, (3 : Int))) ++ l) → (∀ i ∈ is, 0 ≤ a.getD i 0 ∧ i < r.length) → ∀ j, (lbV V is p r).getD j 0 = if j ∈ is then a.getD j 0 else r.getD j 0 := by
  intro is
  induction is with
  | nil => intro p r _ _ j; simp [lbV]
  | cons i is ih =>
    intro p r h hi j
    rw [List.map_cons, List.cons_append] at h
    have h1 : V / 2 ^ p % 2 ^ 3 = (a.getD i 0).toNat := h.1
    have h2 := h.2
    obtain ⟨i1, i2⟩ := hi i (by simp)
    simp only [lbV]
    rw [h1, Int.toNat_of_nonneg i1, ih (p + 3) _ h2 (fun k hk => by rw [List.length_set]; exact hi k (by simp [hk])) j]
    by_cases hj : j ∈ is
    · rw [if_pos hj, if_pos (by simp [hj])]
    · rw [if_neg hj]
      by_cases e : j = i
      · subst e
        rw [if_pos (by simp)]
        simp [List.getD, i2]
      · rw [if_neg (by simp [hj, e])]
        simp [List.getD, Ne.symm e]
theorem lb_std {V p : Nat} {a : List Int} {l : List (Int × Int)} (ha : a.length = 19) (h0 : ∀ i, i < 19 → 0 ≤ a.getD i 0) (h : Std V p (ordL.map (fun i => (a.getD i 0, (3 : Int))) ++ l)) : lbV V ordL p (List.replicate 19 0) = a := by
  have h19 : ∀ i ∈ ordL, i < 19 := by decide
  have hall : ∀ i, i < 19 → i ∈ ordL := by decide
  have hg := lb_get (a := a) ordL p (List.replicate 19 0) h (fun i hi => ⟨h0 i (h19 i hi), by rw [List.length_replicate]; exact h19 i hi⟩)
  have hl : (lbV V ordL p (List.replicate 19 0)).length = 19 := by rw [lbV_len, List.length_replicate]
  exact list_of_getD (by rw [hl, ha]) (fun j hj => by rw [hg j, if_pos (hall j (by omega))])
theorem ln_std {B : List Int} (hok : lensOk B = true) {V sz : Nat} {l : List (Int × Int)} : ∀ (A R : List Int) (p : Nat), (∀ x ∈ A, 0 ≤ x ∧ x ≤ 15 ∧ 0 < B.getD x.toNat 0) → Std V p (A.map (fun x => pcM B x.toNat) ++ l) → p + bN (A.map (fun x => pcM B x.toNat)) ≤ sz → lnG V sz B (R.length + A.length) p R = some (R ++ A, p + bN (A.map (fun x => pcM B x.toNat))) := by
  intro A
  induction A with
  | nil =>
    intro R p _ _ hs
    rw [List.map_nil, bN_nil, Nat.add_zero] at hs
    rw [lnG_same hs (by simp), if_pos (by simp), List.append_nil, List.map_nil, bN_nil, Nat.add_zero]
  | cons x A ih =>
    intro R p hA h hs
    rw [List.map_cons, bN_cons, bN_pcM] at hs ⊢
    rw [List.map_cons, List.cons_append] at h
    obtain ⟨a1, a2, a3⟩ := hA x (by simp)
    rw [List.length_cons, lnG_less (by omega) (by omega), dec_std hok a3 h (by omega)]
    simp only [Option.bind_some]
    have e : addLn V sz R ((x.toNat : Nat) : Int) (p + (B.getD x.toNat 0).toNat) = some (R ++ [x], p + (B.getD x.toNat 0).toNat) := by
      rw [Int.toNat_of_nonneg a1]
      unfold addLn
      rw [if_neg (by omega), if_neg (by omega), if_neg (by omega)]
    rw [e]
    simp only [Option.bind_some]
    have := ih (R ++ [x]) (p + (B.getD x.toNat 0).toNat) (fun y hy => hA y (by simp [hy])) h.2 (by omega)
    rw [List.length_append, List.length_singleton] at this
    rw [show R.length + (A.length + 1) = R.length + 1 + A.length by omega, this]
    simp only [List.append_assoc, List.singleton_append, Option.some.injEq, Prod.mk.injEq, true_and]
    omega
theorem bN_threes (a : List Int) (is : List Nat) : bN (is.map (fun i => (a.getD i 0, (3 : Int)))) = 3 * is.length := by
  induction is with
  | nil => rfl
  | cons i is ih =>
    rw [List.map_cons, bN_cons, ih, List.length_cons]
    simp only [Int.reduceToNat]
    omega
theorem lens_std {V sz p : Nat} {L D : List Int} {l : List (Int × Int)} (hL : lensOk L = true) (hD : lensOk D = true) (l0 : 257 ≤ L.length) (l1 : L.length ≤ 286) (d0 : 1 ≤ D.length) (d1 : D.length ≤ 30) (h : Std V p (toldP L D ++ l)) (hs : p + bN (toldP L D) ≤ sz) :
    lensG V sz p = some (L.length, L ++ D, p + bN (toldP L D)) := by
  have hA : ∀ x ∈ L ++ D, 0 ≤ x ∧ x ≤ 15 := by
    intro x hx
    rcases List.mem_append.1 hx with h | h
    · exact lens_bd hL x h
    · exact lens_bd hD x h
  have hAl : (L ++ D).length = L.length + D.length := List.length_append
  obtain ⟨k1, k2, k3⟩ := lens7F (L ++ D) (by omega) (by omega) hA
  have hhas := lens7_has (L ++ D) (by omega) (by omega) hA
  have e : toldP L D ++ l = ((L.length : Int) - 257, (5 : Int)) :: ((D.length : Int) - 1, (5 : Int)) :: ((15 : Int), (4 : Int)) :: (ordL.map (fun i => ((lens7 (L ++ D)).getD i 0, (3 : Int))) ++ ((L ++ D).map (fun x => pcM (lens7 (L ++ D)) x.toNat) ++ l)) := by
    unfold toldP
    simp only [List.cons_append, List.nil_append, List.append_assoc]
  have eb : bN (toldP L D) = 5 + 5 + 4 + 3 * 19 + bN ((L ++ D).map (fun x => pcM (lens7 (L ++ D)) x.toNat)) := by
    unfold toldP
    rw [bN_append, bN_append, bN_threes]
    have e1 : bN [((L.length : Int) - 257, (5 : Int)), ((D.length : Int) - 1, (5 : Int)), ((15 : Int), (4 : Int))] = 14 := rfl
    have e2 : ordL.length = 19 := rfl
    rw [e1, e2]
    omega
  rw [e] at h
  rw [eb] at hs ⊢
  generalize hB : lens7 (L ++ D) = B at *
  have x1 : V / 2 ^ p % 2 ^ 5 = L.length - 257 := by have := h.1; simp only [Int.reduceToNat] at this; omega
  have h2 : Std V (p + 5) _ := h.2
  have x2 : V / 2 ^ (p + 5) % 2 ^ 5 = D.length - 1 := by have := h2.1; simp only [Int.reduceToNat] at this; omega
  have h3 : Std V (p + 5 + 5) _ := h2.2
  have x3 : V / 2 ^ (p + 5 + 5) % 2 ^ 4 = 15 := by have := h3.1; simp only [Int.reduceToNat] at this; exact this
  have h4 : Std V (p + 5 + 5 + 4) _ := h3.2
  have hlb := lb_std (a := B) k1 (fun i hi => (k3 i hi).1) h4
  have h5 := (std_append.1 h4).2
  rw [bN_threes, show ordL.length = 19 from rfl] at h5
  have hlb' : lbV V (ordL.take (15 + 4)) (p + 5 + 5 + 4) (List.replicate 19 0) = B := by
    rw [show ordL.take (15 + 4) = ordL from rfl]
    exact hlb
  rw [lensG_at (by omega) x1 x2 x3 hlb', if_pos ⟨by omega, k2, by omega, by omega⟩]
  have hln := ln_std k2 (sz := sz) (L ++ D) [] (p + 5 + 5 + 4 + 3 * (15 + 4)) (fun x hx => ⟨(hA x hx).1, (hA x hx).2, hhas x hx⟩) h5 (by omega)
  rw [List.length_nil, Nat.zero_add, hAl, List.nil_append] at hln
  rw [show L.length - 257 + 257 + (D.length - 1 + 1) = L.length + D.length by omega, show L.length - 257 + 257 = L.length by omega, hln]
  simp only [Option.bind_some]
  rw [List.take_left', List.drop_left', if_pos ⟨hL, hD⟩]
  · simp only [Option.some.injEq, Prod.mk.injEq, true_and]
    omega
  · rfl
  · rfl
theorem own_hasT (T : List Tk) (hT : T.length ≤ 300) (hok : ∀ t ∈ T, okT t = true) (t : Tk) (ht : t ∈ T) : hasT (ownL T) (ownD T) t := by
  obtain ⟨h1, h2⟩ := own_has T hT hok t ht
  unfold litS at h1
  unfold distS at h2
  unfold hasT
  split
  · rename_i h
    rw [if_pos h] at h1
    exact h1
  · rename_i h
    rw [if_neg h] at h1 h2
    exact ⟨h1, h2 _ (by simp)⟩
theorem ownP_bits (T : List Tk) : bN (ownP T) = 1 + 2 + bN (toldP (ownL T) (ownD T)) + bN (T.flatMap (pcTM (ownL T) (ownD T))) + ((ownL T).getD 256 0).toNat := by
  unfold ownP
  rw [bN_append, bN_append, bN_append, bN_cons (pcM (ownL T) 256), bN_nil, bN_pcM]
  have e1 : bN [((1 : Int), (1 : Int)), ((2 : Int), (2 : Int))] = 3 := rfl
  rw [e1]
  omega
theorem ownT_len (s : ByteArray) (h : s.size ≤ 300) : 9 ≤ (ownT s).length := by
  have hT := toks_len s h
  have hP := ownP_ok (toksP s.data.toList 0) hT (toks_ok s)
  obtain ⟨b1, b2, b3⟩ := bits_of hP
  have e := ownP_bits (toksP s.data.toList 0)
  have hl : (ownT s).length = ((valP (ownP (toksP s.data.toList 0))).2 + 7) / 8 := by unfold ownT textP; exact leS_len _ _
  have eb : 71 ≤ bN (toldP (ownL (toksP s.data.toList 0)) (ownD (toksP s.data.toList 0))) := by
    unfold toldP
    rw [bN_append, bN_append, bN_threes]
    have e2 : ordL.length = 19 := rfl
    rw [e2, bN_cons, bN_cons, bN_cons]
    simp only [Int.reduceToNat]
    omega
  rw [hl, ← b1, e]
  omega
theorem flate_own (s : ByteArray) (h : s.size ≤ 300) (hx : (ownT s).length ≤ 700) : flateG ⟨(ownT s).toArray⟩ = some (s.data.toList, 8 * (ownT s).length) := by
  have hT := toks_len s h
  have hok := toks_ok s
  have e3 : s.data.toList.length = s.size := by simp
  have hF := toks_fold0 (L := s.data.toList) (by omega)
  unfold ownT at hx ⊢
  generalize toksP s.data.toList 0 = T at *
  have hP := ownP_ok T hT hok
  obtain ⟨b1, b2, b3⟩ := bits_of hP
  have e := ownP_bits T
  refine flate_of hP hx ?_
  generalize 8 * (textP (ownP T)).length = sz at *
  generalize (valP (ownP T)).1 = V at *
  obtain ⟨l0, l1⟩ := ownL_len T hT
  obtain ⟨d0, d1⟩ := ownD_len T hT
  have hE := ownL_has T hT 256 (.inl rfl) (by omega)
  refine parts_last (k := 2) b3 (by omega) ?_
  have s3 : Std V (0 + 1 + 2) (toldP (ownL T) (ownD T) ++ (T.flatMap (pcTM (ownL T) (ownD T)) ++ [pcM (ownL T) 256])) := b3.2.2
  unfold kindG
  rw [if_neg (by decide), if_neg (by decide), if_pos rfl, ownG_lens, lens_std (ownL_ok T hT) (ownD_ok T hT) l0 l1 d0 d1 s3 (by omega)]
  simp only [Option.bind_some]
  rw [List.take_left', List.drop_left']
  · have s4 := (std_append.1 s3).2
    rw [tok_std (ownL_ok T hT) (ownD_ok T hT) hE (l := []) T _ [] s.data.toList (fun t ht => ⟨hok t ht, own_hasT T hT hok t ht⟩) s4 (by omega) hF, ← b1, e]
  · rfl
  · rfl
end Go.Proofs.YtbacpebljannfaaGreatDoor
namespace Go.Proofs.YtbacpebljannfaaGreatDoor
open Go.RowKit Corb
theorem byO_is (s : ByteArray) (h : s.size ≤ 300) : ((byO s).size ≤ 700 → flateG (byO s) = some (s.data.toList, 8 * (byO s).size)) ∧ 2 ≤ (byO s).size := by
  have h2 := ownT_len s h
  unfold byO ownedL
  rw [if_pos h, arr_size]
  exact ⟨fun hx => flate_own s h hx, by omega⟩
theorem flate_best (s : ByteArray) (h : s.size ≤ 300) : flateG (flateB s) = some (s.data.toList, 8 * (flateB s).size) ∧ (flateB s).size ≤ s.size + 5 ∧ 2 ≤ (flateB s).size ∧ (flateB s).size ≤ (byS s).size ∧ (flateB s).size ≤ (byF s).size ∧ (flateB s).size ≤ (byO s).size ∧ (flateB s = byS s ∨ flateB s = byF s ∨ flateB s = byO s) := by
  obtain ⟨a1, a2⟩ := byS_is s h
  obtain ⟨b1, b2, b3⟩ := byF_is s h
  obtain ⟨c1, c2⟩ := byO_is s h
  unfold flateB
  by_cases e1 : (byF s).size < (byS s).size
  · rw [shortB_yes e1]
    by_cases e2 : (byO s).size < (byF s).size
    · rw [shortB_yes e2]
      exact ⟨c1 (by omega), by omega, c2, by omega, by omega, Nat.le_refl _, .inr (.inr rfl)⟩
    · rw [shortB_no e2]
      exact ⟨b1, by omega, b2, by omega, Nat.le_refl _, by omega, .inr (.inl rfl)⟩
  · rw [shortB_no e1]
    by_cases e2 : (byO s).size < (byS s).size
    · rw [shortB_yes e2]
      exact ⟨c1 (by omega), by omega, c2, by omega, by omega, Nat.le_refl _, .inr (.inr rfl)⟩
    · rw [shortB_no e2]
      exact ⟨a1, by omega, by omega, Nat.le_refl _, by omega, by omega, .inl rfl⟩
end Go.Proofs.YtbacpebljannfaaGreatDoor
