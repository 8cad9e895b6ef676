/- Of what the proof is made: 4 texts, one behind the other. -/
import Derived.Test.YtnomiopdpmecbaaM8
import Derived.Test.YtnomiopdpmecbaaRb1
import Derived.Test.YtnomiopdpmecbaaM5
/- Symbols read by a code: plain mathematics, over this seat's program. -/
namespace Go.Proofs.Ytnomiopdpmecbaa
open Go.RowKit Corb

def bitV (V p : Nat) : Nat := V / 2 ^ p % 2
theorem bitV_le (V p : Nat) : bitV V p ≤ 1 := by unfold bitV; omega
/-- The code of n bits from a place on. -/
def cd (V p : Nat) : Nat → Nat
  | 0 => 0
  | n + 1 => 2 * cd V p n + bitV V (p + n)
theorem cd_lt (V p n : Nat) : cd V p n < p2 n := by
  induction n with
  | zero => simp [cd, p2]
  | succ n ih =>
    have := bitV_le V (p + n)
    simp only [cd]
    rw [p2_succ]; omega
/-- The symbol of a code of a length. -/
def symAt (l : List Int) (n c : Nat) : Int := (symsN l 15).getD (pl l n + (c - 2 * nx l n)) 0
/-- A symbol, n bits having been read: it, and how many bits it takes. -/
def decF (l : List Int) (V sz p : Nat) : Nat → Nat → Option (Int × Nat)
  | 0, _ => none
  | f + 1, n => if sz < p + n + 1 then none else if cd V p (n + 1) < nx l (n + 1) then some (symAt l n (cd V p (n + 1)), p + n + 1) else decF l V sz p f (n + 1)
def dec (l : List Int) (V sz p : Nat) : Option (Int × Nat) := decF l V sz p 15 0
theorem decF_le {l : List Int} {V sz p f n : Nat} {i : Int} {q : Nat} (h : decF l V sz p f n = some (i, q)) : q ≤ sz ∧ p ≤ q := by
  induction f generalizing n with
  | zero => simp [decF] at h
  | succ f ih =>
    simp only [decF] at h
    split at h
    · cases h
    · split at h
      · simp only [Option.some.injEq, Prod.mk.injEq] at h
        omega
      · exact ih h
theorem sym_there {l : List Int} {n c : Nat} (hn : n < 15) (h1 : 2 * nx l n ≤ c) (h2 : c < nx l (n + 1)) : ∃ i, i < l.length ∧ l.getD i 0 = (n : Int) + 1 ∧ codeAt l i = c ∧ symAt l n c = (i : Int) := by
  have e : nx l (n + 1) = 2 * nx l n + many l ((n : Int) + 1) l.length := rfl
  obtain ⟨i, hi, hl, hm⟩ := many_at l ((n : Int) + 1) l.length (c - 2 * nx l n) (by omega)
  refine ⟨i, hi, hl, ?_, ?_⟩
  · unfold codeAt
    rw [hl, hm]
    have : ((n : Int) + 1).toNat - 1 = n := by omega
    rw [this]; omega
  · unfold symAt
    rw [← hm]
    exact symsN_get l 15 n i hi hl hn
theorem sym_one {l : List Int} {i j : Nat} (hl : l.getD i 0 = l.getD j 0) (hc : codeAt l i = codeAt l j) : i = j := by
  unfold codeAt at hc
  rw [hl] at hc
  rcases Nat.lt_trichotomy i j with h | h | h
  · have := many_lt hl j h
    omega
  · exact h
  · have := many_lt hl.symm i h
    rw [hl] at this
    omega
theorem sym_none {l : List Int} (hok : lensOk l = true) {n c i : Nat} (h2 : nx l (n + 1) ≤ c) (hi : i < l.length) (hl : l.getD i 0 = (n : Int) + 1) : codeAt l i ≠ c := by
  have h := (codeAt_lt hok hi (by omega)).2
  have : (l.getD i 0).toNat = n + 1 := by omega
  rw [this] at h
  omega
theorem pl_le (l : List Int) (N : Nat) : pl l N ≤ N * l.length := by rw [← symsN_eq]; exact symsN_le l N
theorem nx_bd {l : List Int} (hok : lensOk l = true) (N : Nat) (hN : N ≤ 15) : nx l N ≤ 32768 := by
  have h := nx_le hok N hN
  have h2 := p2_le N 15 hN
  have h3 : p2 15 = 32768 := rfl
  omega
theorem cd_bd (V p n : Nat) (hn : n ≤ 15) : cd V p n < 32768 := by
  have h := cd_lt V p n
  have h2 := p2_le n 15 hn
  have h3 : p2 15 = 32768 := rfl
  omega
theorem pl_mono (l : List Int) : ∀ a b, a ≤ b → pl l a ≤ pl l b := by
  intro a b hab
  induction b with
  | zero => have : a = 0 := by omega
            rw [this]; exact Nat.le_refl _
  | succ b ihb =>
    by_cases e2 : a = b + 1
    · rw [e2]; exact Nat.le_refl _
    · have := ihb (by omega)
      simp only [pl]; omega
theorem sym_in {l : List Int} {n c : Nat} (hn : n < 15) (h1 : 2 * nx l n ≤ c) (h2 : c < nx l (n + 1)) : pl l n + (c - 2 * nx l n) < (symsN l 15).length := by
  have e : nx l (n + 1) = 2 * nx l n + many l ((n : Int) + 1) l.length := rfl
  have e2 : pl l (n + 1) = pl l n + many l ((n : Int) + 1) l.length := rfl
  have := pl_mono l (n + 1) 15 (by omega)
  rw [symsN_eq]; omega

theorem Book.heap {w w' : World} {b : Nat} {vl vc vs : Value} {m : Nat → Nat} (h : Book w b vl vc vs m) (he : w'.heap[b]? = w.heap[b]?) (hs : w.heap.size ≤ w'.heap.size) : Book w' b vl vc vs m := by
  obtain ⟨c0, c1, c2, c3, f, hlt⟩ := h
  exact ⟨(World.cell?_of_block (a := ⟨b, 0, none⟩) he).trans c0, (World.cell?_of_block (a := ⟨b, 1, none⟩) he).trans c1, fun j hj => (World.cell?_of_block (a := ⟨b, 2 + j, none⟩) he).trans (c2 j hj), (World.cell?_of_block (a := ⟨b, 18, none⟩) he).trans c3, fun o => (World.frozen?_of_block (a := ⟨b, o, none⟩) he).trans (f o), by omega⟩
theorem IRow.keep {w w' : World} {a : Option Addr} {b : Nat} {l : List Int} (h : IRow w a l) (hk : Keep1 b w w') (hg : ∀ g o, a = some ⟨g, o, none⟩ → g ≠ b) : IRow w' a l := by
  intro h0
  obtain ⟨g, o, e, hlt, hc⟩ := h h0
  exact ⟨g, o, e, Nat.lt_of_lt_of_le hlt hk.1.size, fun i hi => (World.cell?_of_block (a := ⟨g, o + i, none⟩) (hk.2 g hlt (hg g o e))).trans (hc i hi)⟩

end Go.Proofs.Ytnomiopdpmecbaa
/- A symbol read by a code: the program's, over this seat's program. -/
namespace Go.Proofs.Ytnomiopdpmecbaa
open Go.RowKit Corb

theorem decF_short {l : List Int} {V sz p f n : Nat} (h : sz < p + n + 1) : decF l V sz p (f + 1) n = none := by simp only [decF]; rw [if_pos h]
theorem decF_hit {l : List Int} {V sz p f n : Nat} (h : ¬ sz < p + n + 1) (h2 : cd V p (n + 1) < nx l (n + 1)) : decF l V sz p (f + 1) n = some (symAt l n (cd V p (n + 1)), p + n + 1) := by simp only [decF]; rw [if_neg h, if_pos h2]
theorem decF_next {l : List Int} {V sz p f n : Nat} (h : ¬ sz < p + n + 1) (h2 : ¬ cd V p (n + 1) < nx l (n + 1)) : decF l V sz p (f + 1) n = decF l V sz p f (n + 1) := by simp only [decF]; rw [if_neg h, if_neg h2]
theorem ret_tup {a b : Value} {x y : Bool} (h : a = b) (h2 : x = y) : Ending.returned (.tuple #[a, .bool x]) = .returned (.tuple #[b, .bool y]) := by rw [h, h2]

/-- What reading a symbol answers. -/
def GetPost (w : World) (b : Nat) (s : ByteArray) (d : Option (Int × Nat)) (e : Ending) (w' : World) : Prop :=
  Keep1 b w w' ∧ match d with
    | none => e = .returned (.tuple #[.int .i64 0, .bool false])
    | some (i, q) => e = .returned (.tuple #[.int .i64 i, .bool true]) ∧ Rdr w' b s q

set_option maxHeartbeats 3200000 in
theorem bookGet_any (a sa : Option Addr) (cap n sn sc b p : Nat) (vc : Value) (C : Array Value) (l : List Int) (s : ByteArray) (w : World) (hC : C = (bookCells (.slice a n cap) vc (.slice sa sn sc) (manyN l 15)).toArray) (hok : lensOk l = true) (hsn : (symsN l 15).length = sn)
    (hs : s.size ≤ 2000000) (hr : Rdr w b s p) (hp : p ≤ 8 * s.size) (hrow : ∀ W, Keep1 b w W → IRow W sa (symsN l 15)) :
    Calls Try.prog 29 #[.agg C, .pointer (some ⟨b, 0, none⟩)] w (GetPost w b s (dec l (numB s) (8 * s.size) p)) := by
  have hbl := hr.lt
  have hB0 := book_new w (.slice a n cap) vc (.slice sa sn sc) (manyN l 15) 45
  rw [← hC] at hB0
  have hk0 : Keep1 b w (w.alloc (.cells C 45)) := (Keep1.refl b w).alloc (by omega) _
  have hr0 := hr.alloc (.cells C 45)
  have hsz0 : w.heap.size < (w.alloc (.cells C 45)).heap.size := by simp
  have HS := hide hs
  have HP := hide hp
  have HOK := hide hok
  have HSN := hide hsn
  have hsnI : (sn : Int) ≤ 4500 := by
    have h1 := symsN_le l 15
    have h2 := lensOk_len hok
    have h3 : 15 * l.length ≤ 15 * 300 := Nat.mul_le_mul_left _ h2
    omega
  have hspI : (p : Int) ≤ 16000000 := by omega
  have Hr := hide hrow
  clear hC hr hs hp hok hsn hrow
  go_enter Try.func29, Try.ntmps29
  go_wp2_with fail
  generalize w.alloc (.cells C 45) = w0 at *
  go_loopw [4, 5, 6, 7, 8, 9] (fun _ _ c f pc lg wr => ∃ N : Nat, N ≤ 15 ∧ lg = .int .i64 ((N : Int) + 1) ∧ c = .int .i64 (cd (numB s) p N : Nat) ∧ f = .int .i64 (nx l N : Nat) ∧ pc = .int .i64 (pl l N : Nat) ∧ nx l N ≤ cd (numB s) p N ∧ Rdr wr b s (p + N) ∧ Keep1 b w wr ∧ Book wr w.heap.size (.slice a n cap) vc (.slice sa sn sc) (manyN l 15) ∧ dec l (numB s) (8 * s.size) p = decF l (numB s) (8 * s.size) p (15 - N) N) (fun _ _ _ _ _ lg _ => 16 - (intOf lg).toNat)
  case atStart => exact ⟨0, by omega, rfl, rfl, rfl, rfl, Nat.le_refl _, hr0, hk0, hB0, rfl⟩
  case round =>
    obtain ⟨N, hN, rfl, rfl, rfl, rfl, hge, hrd, hkp, hbk, hdec⟩ := hrel
    clear hr0 hk0 hB0 hsz0
    have hNI : (N : Int) ≤ 15 := by omega
    have c1 := hide (cd_bd (numB s) p N hN)
    have c2 := hide (nx_bd (unhide HOK) N hN)
    have cI : (cd (numB s) p N : Int) ≤ 32768 := by have := unhide c1; omega
    have nI : (nx l N : Int) ≤ 32768 := by have := unhide c2; omega
    have HGE := hide hge
    have HD := hide hdec
    clear hge hdec
    by_cases hlt : N < 15
    · have hN15 : (N : Int) < 15 := by omega
      have hd15 : decide ((N : Int) + 1 ≤ 15) = true := decide_eq_true (by omega)
      have hbit : (numB s / 2 ^ (p + N) % 2 : Nat) = bitV (numB s) (p + N) := rfl
      have hb1 := bitV_le (numB s) (p + N)
      have hcd : Hid (cd (numB s) p (N + 1) = 2 * cd (numB s) p N + bitV (numB s) (p + N)) := rfl
      have hcb := hide (cd_bd (numB s) p (N + 1) (by omega))
      have hnx : Hid (nx l (N + 1) = 2 * nx l N + many l ((N : Int) + 1) l.length) := rfl
      have hpl : Hid (pl l (N + 1) = pl l N + many l ((N : Int) + 1) l.length) := rfl
      have hnb := hide (nx_bd (unhide HOK) (N + 1) (by omega))
      have hpb : (pl l (N + 1) : Int) ≤ 4500 := by
        have h1 := pl_le l (N + 1)
        have h2 := lensOk_len (unhide HOK)
        have h3 : (N + 1) * l.length ≤ 15 * 300 := Nat.mul_le_mul (by omega) h2
        omega
      have hmm : Hid (manyN l 15 (N + 1) = many l ((N : Int) + 1) l.length) := by
        show manyN l 15 (N + 1) = _
        unfold manyN
        rw [if_pos ⟨by omega, by omega⟩]
        congr 1
      have hin := hide (fun h1 h2 => sym_in (l := l) (n := N) (c := cd (numB s) p (N + 1)) hlt h1 h2)
      have Hhit := hide (fun h1 h2 => decF_hit (l := l) (V := numB s) (sz := 8 * s.size) (p := p) (f := 14 - N) (n := N) h1 h2)
      have Hnext := hide (fun h1 h2 => decF_next (l := l) (V := numB s) (sz := 8 * s.size) (p := p) (f := 14 - N) (n := N) h1 h2)
      have Hshort := hide (fun h1 => decF_short (l := l) (V := numB s) (sz := 8 * s.size) (p := p) (f := 14 - N) (n := N) h1)
      have e15 : 15 - N = (14 - N) + 1 := by omega
      have e14 : 14 - N = 15 - (N + 1) := by omega
      rw [e15] at HD
      have hsym : Hid (symAt l N (cd (numB s) p (N + 1)) = (symsN l 15).getD (pl l N + (cd (numB s) p (N + 1) - 2 * nx l N)) 0) := rfl
      generalize many l ((N : Int) + 1) l.length = M at *
      go_wp2_with fail
      refine (rdBit_any b (p + N) s _ hrd (unhide HS)).mono ?_
      rintro e x1 ⟨rfl, hrd1, hk1⟩
      rw [hbit]
      have hkp1 := hkp.trans hk1
      have hbk1 := hbk.heap (hk1.2 _ (by have := hbk.2.2.2.2.2; exact this) (by omega)) hk1.1.size
      have hmc := hbk1.2.2.1 (N + 1) (by omega)
      rw [unhide hmm] at hmc
      have hsc := hbk1.2.2.2.1
      have hwl := hbk1.2.2.2.2.2
      have HIR := hide (unhide Hr x1 hkp1)
      have hAF := unhide HGE
      have hXB := unhide hcb
      have hYB := unhide hnb
      have hPP := unhide hpl
      have hXX := unhide hcd
      have hYY := unhide hnx
      clear hrd hkp hk1 hbk hmm hbit Hr
      generalize hX' : cd (numB s) p (N + 1) = X at *
      have EX := hide hX'
      clear hX'
      generalize cd (numB s) p N = A at *
      generalize bitV (numB s) (p + N) = D at *
      generalize hY' : nx l (N + 1) = Y at *
      have EY := hide hY'
      clear hY'
      generalize nx l N = F at *
      generalize hP' : pl l (N + 1) = P' at *
      have EP := hide hP'
      clear hP'
      generalize pl l N = P at *
      have hDI : (D : Int) ≤ 1 := by omega
      have hMI : (M : Int) ≤ 32768 := by omega
      have hPI : (P : Int) ≤ 4500 := by omega
      have hrd2 := hrd1
      obtain ⟨q0, q1, q2, g0, g1, g2, hb3⟩ := hrd2
      by_cases hsh : 8 * s.size < p + N + 1
      · rw [decide_eq_true (show 8 * s.size < p + N + 1 from hsh)] at q2
        have Hn : Hid (dec l (numB s) (8 * s.size) p = none) := by
          show dec l (numB s) (8 * s.size) p = none
          rw [unhide HD]; exact unhide Hshort hsh
        have HKP := hide hkp1
        clear hbk1 hXX hYY hPP hsh q0 q1 g0 g1 g2 hrd1 hkp1 hXB hYB hAF
        go_wp2
        go_ret2
        unfold GetPost
        rw [unhide Hn]
        exact ⟨unhide HKP, rfl⟩
      · rw [decide_eq_false (show ¬ 8 * s.size < p + N + 1 from hsh)] at q2
        have HSH := hide hsh
        by_cases hhit : X < Y
        · have hxI : (A : Int) * 2 + (D : Int) < (F : Int) * 2 + (M : Int) := by omega
          have hin' := unhide hin (by omega) hhit
          have Hd : Hid (dec l (numB s) (8 * s.size) p = some (symAt l N X, p + N + 1)) := by
            show dec l (numB s) (8 * s.size) p = _
            rw [unhide HD]; exact unhide Hhit hsh hhit
          have hK : ((P : Int) + ((A : Int) * 2 + (D : Int)) - (F : Int) * 2) = ((P + (X - 2 * F) : Nat) : Int) := by omega
          have hsn' := unhide HSN
          obtain ⟨g, o, rfl, hg, hcc⟩ := unhide HIR (by omega)
          have c0 := hcc (P + (X - 2 * F)) (by omega)
          rw [← unhide hsym] at c0
          have hKI : ((P + (X - 2 * F) : Nat) : Int) < (sn : Int) := by omega
          generalize P + (X - 2 * F) = K at *
          generalize symAt l N X = Z at *
          have HKP := hide hkp1
          have HRD := hide hrd1
          have hK0 : (0 : Int) ≤ (K : Int) := by omega
          clear hcc hbk1 hXX hYY hPP hsh q0 q1 g0 g1 g2 hrd1 hkp1 hXB hYB hAF hhit hin' hsn'
          go_wp2
          go_ret2
          unfold GetPost
          rw [unhide Hd]
          exact ⟨unhide HKP, rfl, unhide HRD⟩
        · have hxI : ¬ (A : Int) * 2 + (D : Int) < (F : Int) * 2 + (M : Int) := by omega
          have Hd : Hid (dec l (numB s) (8 * s.size) p = decF l (numB s) (8 * s.size) p (15 - (N + 1)) (N + 1)) := by
            show dec l (numB s) (8 * s.size) p = _
            rw [unhide HD, unhide Hnext hsh hhit, e14]
          have HKP := hide hkp1
          have HRD := hide hrd1
          have HBK := hide hbk1
          have HYX : Hid (Y ≤ X) := by show Y ≤ X; omega
          have eX : Hid ((A : Int) * 2 + (D : Int) = (X : Int)) := by show (A : Int) * 2 + (D : Int) = (X : Int); omega
          have eY : Hid ((F : Int) * 2 + (M : Int) = (Y : Int)) := by show (F : Int) * 2 + (M : Int) = (Y : Int); omega
          have eP : Hid ((P : Int) + (M : Int) = (P' : Int)) := by show (P : Int) + (M : Int) = (P' : Int); omega
          clear hbk1 hXX hYY hPP hsh q0 q1 g0 g1 g2 hrd1 hkp1 hXB hYB hAF hhit HIR hsc
          go_wp2
          go_roundw
          case rel => exact ⟨N + 1, by omega, by go_num, by rw [unhide eX, unhide EX], by rw [unhide eY, unhide EY], by rw [unhide eP, unhide EP], by rw [unhide EX, unhide EY]; exact unhide HYX, unhide HRD, unhide HKP, unhide HBK, unhide Hd⟩
          case measure => simp [intOf]; omega
    · obtain rfl : N = 15 := by omega
      have Hn : Hid (dec l (numB s) (8 * s.size) p = none) := unhide HD
      go_wp2
      go_ret2
      unfold GetPost
      rw [unhide Hn]
      exact ⟨hkp, rfl⟩

end Go.Proofs.Ytnomiopdpmecbaa
/- A symbol read by a code: the model's, over this seat's program. -/
namespace Go.Proofs.Ytnomiopdpmecbaa
open Go.RowKit Corb

/-- What the model's reading of a symbol answers. -/
def SymPost (w : World) (b : Nat) (s : ByteArray) (d : Option (Int × Nat)) (e : Ending) (w' : World) : Prop :=
  Keep1 b w w' ∧ match d with
    | none => ∃ x v, e = .returned (.int .i64 x) ∧ Three w' b (.string s) v (.bool true)
    | some (i, q) => e = .returned (.int .i64 i) ∧ Rdr w' b s q
theorem Rdr.three {w : World} {b p : Nat} {s : ByteArray} (h : Rdr w b s p) (hp : 8 * s.size < p) : Three w b (.string s) (.int .i64 (min p (8 * s.size) : Nat)) (.bool true) := by
  unfold Rdr at h
  rwa [decide_eq_true hp] at h
theorem keep1_set0 (w : World) (b o : Nat) (u : Value) : Keep1 b w (w.setCell ⟨b, o, none⟩ u) :=
  ⟨below_set (Below.refl _ _) (Nat.le_refl _) _, fun k _ hk => Below.heap_setCell w ⟨b, o, none⟩ u k hk⟩

set_option maxHeartbeats 3200000 in
theorem symbol_any (a ac : Option Addr) (cap cc n b p : Nat) (l : List Int) (s : ByteArray) (w : World) (hn : l.length = n) (hok : lensOk l = true)
    (hs : s.size ≤ 2000000) (hr : Rdr w b s p) (hp : p ≤ 8 * s.size) (hrl : ∀ W, Keep1 b w W → IRow W a l) (hrc : ∀ W, Keep1 b w W → IRow W ac (outN l 15).2) :
    Calls Try.prog 34 #[.pointer (some ⟨b, 0, none⟩), .slice a n cap, .slice ac n cc] w (SymPost w b s (dec l (numB s) (8 * s.size) p)) := by
  have HN := hide hn
  have HS := hide hs
  have HOK := hide hok
  have HRL := hide hrl
  have HRC := hide hrc
  have hnI : (n : Int) ≤ 300 := by have := lensOk_len hok; omega
  clear hn hs hok hrl hrc
  go_enter Try.func34, Try.ntmps34
  go_wp2_with fail
  go_loopw [6, 7, 8, 9] (fun _ c lg _ wr => ∃ (N : Nat) (x : Int), N ≤ 15 ∧ lg = .int .i64 ((N : Int) + 1) ∧ c = .int .i64 x ∧ Keep1 b w wr ∧ ((x = (cd (numB s) p N : Nat) ∧ nx l N ≤ cd (numB s) p N ∧ Rdr wr b s (p + N) ∧ p + N ≤ 8 * s.size ∧ dec l (numB s) (8 * s.size) p = decF l (numB s) (8 * s.size) p (15 - N) N) ∨ (dec l (numB s) (8 * s.size) p = none ∧ ∃ v, Three wr b (.string s) v (.bool true)))) (fun _ _ lg _ _ => 16 - (intOf lg).toNat)
  case atStart => exact ⟨0, 0, by omega, rfl, rfl, Keep1.refl _ _, .inl ⟨rfl, Nat.le_refl _, hr, by omega, rfl⟩⟩
  case round =>
    obtain ⟨N, x, hN, rfl, rfl, hkp, hcase⟩ := hrel
    clear hr hp
    have hNI : (N : Int) ≤ 15 := by omega
    rcases hcase with ⟨rfl, hge, hrd, hpN, hdec⟩ | ⟨hno, v, h3⟩
    · have h3 := hrd.at hpN
      obtain ⟨q0, q1, q2, g0, g1, g2, hb3⟩ := h3
      have HP := hide hpN
      have HGE := hide hge
      have HD := hide hdec
      have c1 := hide (cd_bd (numB s) p N hN)
      have cI : (cd (numB s) p N : Int) ≤ 32768 := by have := unhide c1; omega
      clear hpN hge hdec
      by_cases hlt : N < 15
      · have hN15 : (N : Int) < 15 := by omega
        have hd15 : decide ((N : Int) + 1 ≤ 15) = true := decide_eq_true (by omega)
        have hbit : (numB s / 2 ^ (p + N) % 2 : Nat) = bitV (numB s) (p + N) := rfl
        have hb1 := bitV_le (numB s) (p + N)
        have hcd : Hid (2 * (cd (numB s) p N : Int) + (bitV (numB s) (p + N) : Int) = (cd (numB s) p (N + 1) : Int)) := by
          show 2 * (cd (numB s) p N : Int) + (bitV (numB s) (p + N) : Int) = (cd (numB s) p (N + 1) : Int)
          simp only [cd]; omega
        have hcg : Hid (2 * nx l N ≤ cd (numB s) p (N + 1)) := by
          show 2 * nx l N ≤ cd (numB s) p (N + 1)
          have := unhide HGE
          simp only [cd]; omega
        have Hhit := hide (fun h1 h2 => decF_hit (l := l) (V := numB s) (sz := 8 * s.size) (p := p) (f := 14 - N) (n := N) h1 h2)
        have Hnext := hide (fun h1 h2 => decF_next (l := l) (V := numB s) (sz := 8 * s.size) (p := p) (f := 14 - N) (n := N) h1 h2)
        have Hshort := hide (fun h1 => decF_short (l := l) (V := numB s) (sz := 8 * s.size) (p := p) (f := 14 - N) (n := N) h1)
        have e15 : 15 - N = (14 - N) + 1 := by omega
        have e14 : 14 - N = 15 - (N + 1) := by omega
        rw [e15] at HD
        have bI : (bitV (numB s) (p + N) : Int) ≤ 1 := by omega
        have hcb := hide (cd_bd (numB s) p (N + 1) (by omega))
        clear hb1 g0 g1 g2 q0 q1 hb3
        go_wp2_with fail
        refine (srcBit_any b (p + N) s _ hrd (unhide HS)).mono ?_
        rintro e x1 ⟨rfl, hrd1, hk1⟩
        rw [hbit]
        have hkp1 := hkp.trans hk1
        have HIL := hide (unhide HRL x1 hkp1)
        have HIC := hide (unhide HRC x1 hkp1)
        have HKP := hide hkp1
        have HRD := hide hrd1
        clear hrd hkp hk1 hkp1 hrd1 hbit q2
        go_wp2_with fail
        rw [unhide hcd]
        have xI : (cd (numB s) p (N + 1) : Int) < 32768 := by have := unhide hcb; omega
        go_loopw [6, 9] (fun _ i wr => ∃ k : Nat, k ≤ n ∧ i = .int .i64 k ∧ wr = x1 ∧ ∀ j, j < k → l.getD j 0 = (N : Int) + 1 → codeAt l j ≠ cd (numB s) p (N + 1)) (fun _ i _ => n - (intOf i).toNat)
        case atStart => exact ⟨0, Nat.zero_le _, rfl, rfl, fun j hj => absurd hj (by omega)⟩
        case round =>
          obtain ⟨k, hk, rfl, rfl, hnot⟩ := hrel
          have HNT := hide hnot
          clear hnot
          by_cases hkn : k < n
          · have hkl : Hid (k < l.length) := by show k < l.length; rw [unhide HN]; exact hkn
            obtain ⟨g, o, rfl, hg, hcl⟩ := unhide HIL (by rw [unhide HN]; omega)
            have d0 := hcl k (by rw [unhide HN]; exact hkn)
            obtain ⟨g', o', rfl, hg', hcc⟩ := unhide HIC (by rw [outN_len, unhide HN]; omega)
            have d1 := hcc k (by rw [outN_len, unhide HN]; exact hkn)
            have hcg2 := hide (codes_get (unhide HOK) (unhide hkl))
            have Hk := hide hk
            have hY := hide (fun h => codeAt_lt (unhide HOK) (unhide hkl) h)
            have hone := hide (fun (i : Nat) (h1 : l.getD i 0 = l.getD k 0) (h2 : codeAt l i = codeAt l k) => sym_one h1 h2)
            clear hcl hcc hk HIL HIC
            generalize hy' : l.getD k 0 = y at *
            have EY := hide hy'
            clear hy'
            by_cases hy : y = (N : Int) + 1
            · have hcg3 : (outN l 15).2.getD k 0 = (codeAt l k : Int) := by have := unhide hcg2; rw [if_pos (by omega)] at this; exact this
              rw [hcg3] at d1
              subst hy
              by_cases hc : codeAt l k = cd (numB s) p (N + 1)
              · have hlt2 := unhide hY (by omega)
                have eN : ((N : Int) + 1).toNat = N + 1 := by omega
                rw [eN] at hlt2
                rw [hc] at d1
                have HRES : Hid (SymPost w b s (dec l (numB s) (8 * s.size) p) (.returned (.int .i64 (k : Int))) wr) := by
                  show SymPost w b s (dec l (numB s) (8 * s.size) p) (.returned (.int .i64 (k : Int))) wr
                  refine ⟨unhide HKP, ?_⟩
                  by_cases hsh : 8 * s.size < p + N + 1
                  · rw [unhide HD, unhide Hshort hsh]
                    exact ⟨_, _, rfl, (unhide HRD).three hsh⟩
                  · have hlt3 : cd (numB s) p (N + 1) < nx l (N + 1) := by rw [← hc]; exact hlt2.2
                    rw [unhide HD, unhide Hhit hsh hlt3]
                    obtain ⟨i, hi, h1, h2, h3⟩ := sym_there (l := l) hlt (unhide hcg) hlt3
                    have : i = k := sym_one (h1.trans (unhide EY).symm) (h2.trans hc.symm)
                    subst this
                    exact ⟨by rw [h3], unhide HRD⟩
                clear hlt2
                generalize cd (numB s) p (N + 1) = X at *
                go_wp2
                go_ret
                exact unhide HRES
              · have g1 : ((codeAt l k : Int) == (cd (numB s) p (N + 1) : Int)) = false := by rw [beq_eq_false_iff_ne]; omega
                have HNT2 : Hid (∀ j, j < k + 1 → l.getD j 0 = (N : Int) + 1 → codeAt l j ≠ cd (numB s) p (N + 1)) := by
                  show ∀ j, j < k + 1 → l.getD j 0 = (N : Int) + 1 → codeAt l j ≠ cd (numB s) p (N + 1)
                  intro j hj h1
                  by_cases e : j = k
                  · subst e; exact hc
                  · exact unhide HNT j (by omega) h1
                go_wp2
                go_roundw
                case rel => exact ⟨k + 1, by have := unhide Hk; omega, by go_num, by first | rfl | trivial, unhide HNT2⟩
                case measure => simp [intOf]; omega
            · have g1 : (y == (N : Int) + 1) = false := by simpa using hy
              have HNT2 : Hid (∀ j, j < k + 1 → l.getD j 0 = (N : Int) + 1 → codeAt l j ≠ cd (numB s) p (N + 1)) := by
                show ∀ j, j < k + 1 → l.getD j 0 = (N : Int) + 1 → codeAt l j ≠ cd (numB s) p (N + 1)
                intro j hj h1
                by_cases e : j = k
                · subst e
                  rw [unhide EY] at h1
                  exact absurd h1 hy
                · exact unhide HNT j (by omega) h1
              go_wp2
              go_roundw
              case rel => exact ⟨k + 1, by have := unhide Hk; omega, by go_num, by first | rfl | trivial, unhide HNT2⟩
              case measure => simp [intOf]; omega
          · have hkl : k = l.length := by have := unhide HN; omega
            subst hkl
            have HC2 : Hid ((cd (numB s) p (N + 1) : Int) = ((cd (numB s) p (N + 1) : Nat) : Int) ∧ ((nx l (N + 1) ≤ cd (numB s) p (N + 1) ∧ Rdr wr b s (p + (N + 1)) ∧ p + (N + 1) ≤ 8 * s.size ∧ dec l (numB s) (8 * s.size) p = decF l (numB s) (8 * s.size) p (15 - (N + 1)) (N + 1)) ∨ (dec l (numB s) (8 * s.size) p = none ∧ ∃ v, Three wr b (.string s) v (.bool true)))) := by
              refine ⟨rfl, ?_⟩
              by_cases hsh : 8 * s.size < p + N + 1
              · exact .inr ⟨by rw [unhide HD, unhide Hshort hsh], _, (unhide HRD).three hsh⟩
              · have hge : nx l (N + 1) ≤ cd (numB s) p (N + 1) := by
                  rcases Nat.lt_or_ge (cd (numB s) p (N + 1)) (nx l (N + 1)) with h | h
                  · obtain ⟨i, hi, h1, h2, h3⟩ := sym_there (l := l) hlt (unhide hcg) h
                    exact absurd h2 (unhide HNT i hi h1)
                  · exact h
                exact .inl ⟨hge, unhide HRD, by omega, by rw [unhide HD, unhide Hnext hsh (by omega), e14]⟩
            clear HIL HIC
            go_wp2
            go_roundw
            case rel =>
              refine ⟨N + 1, (cd (numB s) p (N + 1) : Nat), by omega, by go_num, rfl, unhide HKP, ?_⟩
              rcases (unhide HC2).2 with h | h
              · exact .inl ⟨rfl, h⟩
              · exact .inr h
            case measure => simp [intOf]; omega
      · obtain rfl : N = 15 := by omega
        have Hn : Hid (dec l (numB s) (8 * s.size) p = none) := unhide HD
        have h3' := hide (hrd.at (unhide HP))
        have HKP := hide hkp
        clear hrd hkp
        go_wp2
        go_ret
        unfold SymPost
        rw [unhide Hn]
        exact ⟨(unhide HKP).trans (keep1_set0 _ _ _ _), _, _, rfl, (unhide h3').set2 _⟩
    · have h3' := hide h3
      have HKP := hide hkp
      have Hn := hide hno
      obtain ⟨q0, q1, q2, g0, g1, g2, hb3⟩ := h3
      clear hkp hno
      by_cases hlt : (N : Int) < 15
      · have hd15 : decide ((N : Int) + 1 ≤ 15) = true := decide_eq_true (by omega)
        go_wp2
        go_ret
        unfold SymPost
        rw [unhide Hn]
        exact ⟨(unhide HKP).trans (keep1_set0 _ _ _ _), _, _, rfl, (unhide h3').set2 _⟩
      · have hd15 : decide ((N : Int) + 1 ≤ 15) = false := decide_eq_false (by omega)
        go_wp2
        go_ret
        unfold SymPost
        rw [unhide Hn]
        exact ⟨(unhide HKP).trans (keep1_set0 _ _ _ _), _, _, rfl, (unhide h3').set2 _⟩

end Go.Proofs.Ytnomiopdpmecbaa
/- Symbols read by a code: the model's and the program's, over this seat's program. -/
namespace Go.Proofs.Ytnomiopdpmecbaa
open Go.RowKit Corb

/-- So many symbols, and how many bits they take. -/
def decs (l : List Int) (V sz : Nat) : Nat → Option (List Int × Nat)
  | 0 => some ([], 0)
  | k + 1 => match decs l V sz k with
    | none => none
    | some (L, p) => match dec l V sz p with
      | none => none
      | some (i, q) => some (L ++ [i], q)
theorem decs_none {l : List Int} {V sz k m : Nat} (h : decs l V sz k = none) (hm : k ≤ m) : decs l V sz m = none := by
  induction m with
  | zero => have : k = 0 := by omega
            subst this; exact h
  | succ m ih =>
    by_cases e : k = m + 1
    · subst e; exact h
    · simp only [decs]; rw [ih (by omega)]
theorem decs_some {l : List Int} {V sz k p q : Nat} {L : List Int} {i : Int} (h : decs l V sz k = some (L, p)) (hd : dec l V sz p = some (i, q)) : decs l V sz (k + 1) = some (L ++ [i], q) := by
  simp only [decs, h, hd]
theorem decs_stop {l : List Int} {V sz k p : Nat} {L : List Int} (h : decs l V sz k = some (L, p)) (hd : dec l V sz p = none) : decs l V sz (k + 1) = none := by
  simp only [decs, h, hd]
theorem decs_len {l : List Int} {V sz k p : Nat} {L : List Int} (h : decs l V sz k = some (L, p)) : L.length = k := by
  induction k generalizing L p with
  | zero => simp only [decs, Option.some.injEq, Prod.mk.injEq] at h; rw [← h.1]; rfl
  | succ k ih =>
    simp only [decs] at h
    split at h
    · cases h
    · split at h
      · cases h
      · rename_i L' p' hL _ i q hd
        simp only [Option.some.injEq, Prod.mk.injEq] at h
        rw [← h.1, List.length_append, ih hL]; rfl
def sgOk (l : List Int) (s : ByteArray) (m : Int) : Bool := lensOk l && inB m 0 4000 && (decs l (numB s) (8 * s.size) m.toNat).isSome
def sgL (l : List Int) (s : ByteArray) (m : Int) : List Int := if lensOk l && inB m 0 4000 then (match decs l (numB s) (8 * s.size) m.toNat with | none => [] | some (L, _) => L) else []
theorem sg_no1 {l : List Int} {s : ByteArray} {m : Int} (h : lensOk l = false ∨ inB m 0 4000 = false) : sgOk l s m = false ∧ sgL l s m = [] := by
  unfold sgOk sgL
  rcases h with h | h
  · rw [h]; simp
  · rw [h]; simp
theorem sg_no2 {l : List Int} {s : ByteArray} {m : Int} (h : decs l (numB s) (8 * s.size) m.toNat = none) : sgOk l s m = false ∧ sgL l s m = [] := by
  unfold sgOk sgL
  rw [h]
  simp
theorem sg_yes {l : List Int} {s : ByteArray} {m : Int} {L : List Int} {p : Nat} (h1 : lensOk l = true) (h2 : inB m 0 4000 = true) (h : decs l (numB s) (8 * s.size) m.toNat = some (L, p)) : sgOk l s m = true ∧ sgL l s m = L := by
  unfold sgOk sgL
  rw [h1, h2, h]
  simp
theorem dec_le {l : List Int} {V sz p q : Nat} {i : Int} (h : dec l V sz p = some (i, q)) : q ≤ sz := (decF_le h).1

theorem Keep1.below {b : Nat} {w w1 w2 : World} (h : Keep1 b w w1) (hb : Below w.heap.size w1 w2) (hbw : b ≤ w.heap.size) : Keep1 b w w2 :=
  ⟨h.1.trans (hb.mono hbw), fun k hk hne => (hb.block k hk).trans (h.2 k hk hne)⟩

set_option maxHeartbeats 3200000 in
theorem implSymbolsGet_any (a : Option Addr) (cap n : Nat) (l : List Int) (s : ByteArray) (m : Int) (w : World) (hn : l.length = n) (h : IRow w a l) (hm : n ≤ 1048576) (hs : s.size ≤ 2000000) :
    Calls Try.prog 11 #[.slice a n cap, .string s, .int .i64 m] w fun e w' => ∃ v, e = .returned (.tuple #[v, .bool (sgOk l s m)]) ∧ IOwn w' w.heap.size v (sgL l s m) ∧ Below w.heap.size w w' := by
  have Hn := hide hn
  have HS := hide hs
  have HL := hide (implLensOk_any a cap n l w hn h hm)
  obtain ⟨i0, hi, hz0, hz1, hz2⟩ := info_parts Try.infoInt
  clear hn hm hs
  cases hok : lensOk l
  · have Hr := hide (sg_no1 (s := s) (m := m) (Or.inl hok))
    go_enter Try.func11, Try.ntmps11
    go_wp2_with fail
    refine (unhide HL).mono ?_
    rintro e x1 ⟨rfl, hx⟩
    subst hx
    rw [hok]
    go_wp2
    go_ret2
    exact ⟨_, ret_tup rfl (unhide Hr).1.symm, by rw [(unhide Hr).2]; exact IOwn.nil _ _, Below.refl _ _⟩
  · cases hmb : inB m 0 4000
    · have Hr := hide (sg_no1 (l := l) (s := s) (m := m) (Or.inr hmb))
      rcases inB_false.1 hmb with h0 | h0
      · have d0 : decide (m < 0) = true := decide_eq_true h0
        go_enter Try.func11, Try.ntmps11
        go_wp2_with fail
        refine (unhide HL).mono ?_
        rintro e x1 ⟨rfl, hx⟩
        subst hx
        rw [hok]
        go_wp2
        go_ret2
        exact ⟨_, ret_tup rfl (unhide Hr).1.symm, by rw [(unhide Hr).2]; exact IOwn.nil _ _, Below.refl _ _⟩
      · have d0 : decide (m < 0) = false := decide_eq_false (by omega)
        have d1 : decide (4000 < m) = true := decide_eq_true h0
        go_enter Try.func11, Try.ntmps11
        go_wp2_with fail
        refine (unhide HL).mono ?_
        rintro e x1 ⟨rfl, hx⟩
        subst hx
        rw [hok]
        go_wp2
        go_ret2
        exact ⟨_, ret_tup rfl (unhide Hr).1.symm, by rw [(unhide Hr).2]; exact IOwn.nil _ _, Below.refl _ _⟩
    · obtain ⟨m0, m1⟩ := inB_true.1 hmb
      obtain ⟨M, rfl⟩ := Int.eq_ofNat_of_zero_le m0
      have hl := lensOk_len hok
      have hm3 : Hid (n ≤ 300) := by show n ≤ 300; rw [← unhide Hn]; exact hl
      have HC := hide (codeBook_any a cap n l w (unhide Hn) h (unhide hm3))
      have HK := hide hok
      have HMB := hide hmb
      have d0 : decide ((M : Int) < 0) = false := decide_eq_false (by omega)
      have d1 : decide (4000 < (M : Int)) = false := decide_eq_false (by omega)
      clear hl hmb m0
      go_enter Try.func11, Try.ntmps11
      go_wp2_with fail
      refine (unhide HL).mono ?_
      rintro e x1 ⟨rfl, hx⟩
      subst hx
      rw [hok]
      clear hok HL
      go_wp2_with fail
      refine (unhide HC).mono ?_
      rintro e x2 ⟨vs, C, rfl, hC, _, hs2, hb2⟩
      obtain ⟨sa, sc, rfl⟩ := hs2.form
      have HCC := hide hC
      have h12 := hb2.size
      clear hC HC
      go_wp2_with (refine wpList_store_book rfl 45 (.tmp 8) (.tmp 25) rfl x2.heap.size _ _ _ _ _ rfl rfl (unhide HCC) (there_new x2 _ _ _ rfl) (frozen_new x2 _ _) Try.infoBook ⟨rfl, rfl, rfl⟩ ?_; intro x3 hbk hbl hsz hap)
      have hb3 : Below x1.heap.size x1 x3 := (bnext hb2 ((Below.refl _ _).alloc (Nat.le_refl _) _)).trans (hbl.mono h12)
      have hs3 : IOwn x3 (x1.heap.size + 1) (.slice sa (symsN l 15).length sc) (symsN l 15) := by
        refine ⟨hs2.1, ?_⟩
        rcases hs2.2 with hnil | ⟨g, c, u, e, hbg, hg, hr⟩
        · exact .inl hnil
        · have hlt := (Array.getElem?_eq_some_iff.1 hg).1
          refine .inr ⟨g, c, u, e, hbg, ?_, hr⟩
          rw [hap g (by omega), heap_alloc_old _ _ hlt]
          exact hg
      have e3 : x3.heap.size = x2.heap.size + 1 := by rw [hsz]; simp
      have hr3 : Rdr (x3.alloc (.cells #[.string s, .int .i64 0, .bool false] 57)) (x2.heap.size + 1) s 0 := by rw [← e3]; exact rdr_new x3 s 57
      have hb4 : Below x1.heap.size x1 (x3.alloc (.cells #[.string s, .int .i64 0, .bool false] 57)) := bnext hb3 ((Below.refl _ _).alloc (Nat.le_refl _) _)
      have hbk4 := hbk.kept (show Below (x2.heap.size + 1) x3 (x3.alloc (.cells #[.string s, .int .i64 0, .bool false] 57)) from (Below.refl _ _).alloc (by omega) _)
      have hs4 : IOwn (x3.alloc (.cells #[.string s, .int .i64 0, .bool false] 57)) (x1.heap.size + 1) (.slice sa (symsN l 15).length sc) (symsN l 15) := hs3.later ((Below.refl x3.heap.size x3).alloc (Nat.le_refl _) _) (Nat.le_refl _)
      have hsb : Hid (∀ g o, sa = some ⟨g, o, none⟩ → g ≠ x2.heap.size + 1) := by
        show ∀ g o, sa = some ⟨g, o, none⟩ → g ≠ x2.heap.size + 1
        intro g o e
        subst e
        have := (World.ownsRow.lt hs3 g rfl).2
        omega
      have hz4 : (x3.alloc (.cells #[.string s, .int .i64 0, .bool false] 57)).heap.size = x2.heap.size + 2 := by simp; omega
      obtain ⟨B, hB⟩ : ∃ B, x2.heap.size = B := ⟨_, rfl⟩
      rw [hB] at hr3 hbk4 hsb hz4 h12 ⊢
      generalize hsn : (symsN l 15).length = sn at *
      have HSN := hide hsn
      clear hsn
      generalize x3.alloc (.cells #[.string s, .int .i64 0, .bool false] 57) = x4 at *
      clear hap hsz hbl hs2 hb2 hb3 hs3 hbk e3 hB
      go_loopw [10, 11, 12, 30] (fun v _ _ i wr => ∃ (k p : Nat) (L : List Int), k ≤ M ∧ i = .int .i64 k ∧ decs l (numB s) (8 * s.size) k = some (L, p) ∧ p ≤ 8 * s.size ∧ IOwn wr (B + 2) v L ∧ Rdr wr (B + 1) s p ∧ Keep1 (B + 1) x4 wr) (fun _ _ _ i _ => M - (intOf i).toNat)
      case atStart => exact ⟨0, 0, [], Nat.zero_le _, rfl, rfl, Nat.zero_le _, IOwn.nil _ _, hr3, Keep1.refl _ _⟩
      case round =>
        obtain ⟨k, p, L, hk, rfl, hdecs, hpl, hown, hrd, hkp⟩ := hrel
        clear hr3
        have HD := hide hdecs
        have HLN := hide (decs_len hdecs)
        have HPL := hide hpl
        have hxs := hkp.1.size
        have hb1r : Below x1.heap.size x1 wr := hb4.trans (hkp.1.mono (by omega))
        by_cases hlt : k < M
        · have hsrow := hide (fun W (hW : Keep1 (B + 1) wr W) => IRow.keep (hs4.rowN (unhide HSN)) (hkp.trans hW) (unhide hsb))
          have hbk' := hbk4.heap (hkp.2 B (by omega) (by omega)) hxs
          have HG := hide (bookGet_any a sa cap n sn sc (B + 1) p (.slice (some ⟨x1.heap.size + 1, 0, none⟩) n n) _ l s wr rfl (unhide HK) (unhide HSN) (unhide HS) hrd (unhide HPL) (unhide hsrow))
          have HOWN := hide hown
          have HKP := hide hkp
          have HK2 := hide hk
          have hlI : (L.length : Int) ≤ 4000 := by have := unhide HLN; omega
          clear hdecs hpl hown hrd hkp hk
          cases hd : dec l (numB s) (8 * s.size) p with
          | none =>
            have Hr := hide (sg_no2 (l := l) (s := s) (m := (M : Int)) (by rw [Int.toNat_natCast]; exact decs_none (decs_stop (unhide HD) hd) hlt))
            have HB1 := hide hb1r
            clear hb1r
            go_wp2_with (first
              | (refine wpList_load_mid rfl 45 (.tmp 8) rfl B 0 rfl _ _ hbk'.range Try.underlying45 rfl (by rw [bookCells_len]; exact Try.infoBook) ?_)
              | (go_at_call 29; refine (unhide HG).mono ?_; rintro e x5 ⟨hk5, hpost⟩; rw [hd] at hpost; obtain rfl := hpost))
            go_ret2
            exact ⟨_, ret_tup rfl (unhide Hr).1.symm, by rw [(unhide Hr).2]; exact IOwn.nil _ _, (unhide HB1).trans (hk5.1.mono (by omega))⟩
          | some iq =>
            obtain ⟨i, q⟩ := iq
            have HD2 := hide (decs_some (unhide HD) hd)
            have HQ := hide (dec_le hd)
            have HB1 := hide hb1r
            clear hb1r
            have hlen1 : Hid (L.length + 1 ≤ maxLen ∧ (L.length + 1) * 8 ≤ 140737488355328) := by
              show _ ∧ _
              unfold maxLen
              omega
            go_wp2_with (first
              | (refine wpList_load_mid rfl 45 (.tmp 8) rfl B 0 rfl _ _ hbk'.range Try.underlying45 rfl (by rw [bookCells_len]; exact Try.infoBook) ?_)
              | (go_at_call 29; refine (unhide HG).mono ?_; rintro e x5 ⟨hk5, hpost⟩; rw [hd] at hpost; obtain ⟨rfl, hrd5⟩ := hpost; have hown5 : IOwn x5 (B + 2) u10 L := hk5.own (unhide HOWN) (Nat.lt_succ_self _); have h5s : B + 2 ≤ x5.heap.size := Nat.le_trans (by omega) hk5.1.size)
              | (at_builtin; refine wpList_append_own _ rfl _ _ 23 rfl (B + 2) 3 i0 (.int .i64 0) 1 8 Try.underlying23 hi hz0 hz1 hz2 rfl (by decide) _ _ _ rfl (World.ownsRow.alloc hown5 _) ⟨x5.heap.size, 0, none⟩ 1 1 [.int .i64 i] rfl rfl (one_new _ _ rfl _ _) (one_int _) (unhide hlen1).1 (unhide hlen1).2 (size_alloc_le h5s _) ?_; intro v' x6 hown6 hgrow hnil; clear hnil))
            have hb6 := grown_step (v := u10) hgrow hown5 (Nat.le_refl (B + 2)) h5s (Below.refl _ _)
            have hown7 := iown_snoc hown6
            have hrd6 := hrd5.kept hb6
            have hkp6 := ((unhide HKP).trans hk5).below (show Below x4.heap.size x5 x6 by rw [hz4]; exact hb6) (by omega)
            clear hown6 hgrow hown5 hrd5
            go_roundw
            case rel => exact ⟨k + 1, q, L ++ [i], by have := unhide HK2; omega, by go_num, unhide HD2, unhide HQ, hown7, hrd6, hkp6⟩
            case measure => simp [intOf]; omega
        · have hkM : k = M := by omega
          subst hkM
          have Hr := hide (sg_yes (l := l) (s := s) (m := (k : Int)) (unhide HK) (unhide HMB) (by rw [Int.toNat_natCast]; exact hdecs))
          obtain ⟨va, vc, rfl⟩ := hown.form
          have HOWN := hide hown
          have HB1 := hide hb1r
          clear hown hb1r hdecs hkp hrd
          go_wp2
          go_ret2
          exact ⟨_, ret_tup rfl (unhide Hr).1.symm, by rw [(unhide Hr).2]; exact (unhide HOWN).mono (by omega), unhide HB1⟩

end Go.Proofs.Ytnomiopdpmecbaa
