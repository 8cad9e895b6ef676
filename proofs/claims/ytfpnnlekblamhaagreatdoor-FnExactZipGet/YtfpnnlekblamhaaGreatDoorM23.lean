/- Of what the proof is made: 4 texts, one behind the other. -/
import Derived.Test.YtfpnnlekblamhaaGreatDoorM22
import Derived.Test.YtfpnnlekblamhaaGreatDoorM4
import Derived.Test.YtfpnnlekblamhaaGreatDoorM12
import Derived.Test.YtfpnnlekblamhaaGreatDoorM8
namespace Go.Proofs.YtfpnnlekblamhaaGreatDoor
open Go.RowKit Corb
def lbV (V : Nat) : List Nat → Nat → List Int → List Int
  | [], _, l => l
  | i :: is, p, l => lbV V is (p + 3) (l.set i ((V / 2 ^ p % 2 ^ 3 : Nat) : Int))
theorem lbG_V {V sz : Nat} : ∀ (is : List Nat) (p : Nat) (l : List Int), p ≤ sz → lbG V sz is p l = if p + 3 * is.length ≤ sz then some (lbV V is p l, p + 3 * is.length) else none := by
  intro is
  induction is with
  | nil => intro p l h; simp [lbG, lbV, h]
  | cons i is ih =>
    intro p l h
    simp only [lbG, lbV, List.length_cons]
    by_cases hc : p + 3 ≤ sz
    · rw [rdN_yes hc]
      simp only [Option.bind_some]
      rw [ih _ _ hc, show p + 3 + 3 * is.length = p + 3 * (is.length + 1) by omega]
    · rw [rdN_no hc, if_neg (by omega)]
      rfl
def lensG (V sz p : Nat) : Option (Nat × List Int × Nat) :=
  (rdN V sz p 5).bind fun a => (rdN V sz a.2 5).bind fun c => if a.1 + 257 ≤ 286 ∧ c.1 + 1 ≤ 30 then
    (rdN V sz c.2 4).bind fun m => (lenBkG V sz (m.1 + 4) m.2).bind fun B => (lnG V sz B.1 (a.1 + 257 + (c.1 + 1)) B.2 []).bind fun A =>
      if lensOk (A.1.take (a.1 + 257)) = true ∧ lensOk (A.1.drop (a.1 + 257)) = true then some (a.1 + 257, A.1, A.2) else none
    else none
theorem ownG_lens {V sz p : Nat} {T : List UInt8} : ownG V sz p T = (lensG V sz p).bind fun x => tokG V sz (x.2.1.take x.1) (x.2.1.drop x.1) x.2.2 T := by
  unfold ownG lensG
  rcases rdN V sz p 5 with _ | ⟨a, q1⟩
  · rfl
  simp only [Option.bind_some]
  rcases rdN V sz q1 5 with _ | ⟨c, q2⟩
  · rfl
  simp only [Option.bind_some]
  split
  · rcases rdN V sz q2 4 with _ | ⟨m, q3⟩
    · rfl
    simp only [Option.bind_some]
    rcases lenBkG V sz (m + 4) q3 with _ | ⟨B, q4⟩
    · rfl
    simp only [Option.bind_some]
    rcases lnG V sz B (a + 257 + (c + 1)) q4 [] with _ | ⟨A, q5⟩
    · rfl
    simp only [Option.bind_some]
    unfold booksG
    by_cases h1 : lensOk (A.take (a + 257)) = true
    · by_cases h2 : lensOk (A.drop (a + 257)) = true
      · rw [if_pos h1, if_pos h2, if_pos ⟨h1, h2⟩]; rfl
      · rw [if_pos h1, if_neg h2, if_neg (fun h => h2 h.2)]; rfl
    · rw [if_neg h1, if_neg (fun h => h1 h.1)]; rfl
  · rfl
theorem lensG_bd {V sz p n q : Nat} {A : List Int} (h : lensG V sz p = some (n, A, q)) : q ≤ sz ∧ p ≤ q ∧ lensOk (A.take n) = true ∧ lensOk (A.drop n) = true := by
  unfold lensG at h
  rcases h1 : rdN V sz p 5 with _ | ⟨a, q1⟩
  · rw [h1] at h; cases h
  rw [h1] at h
  simp only [Option.bind_some] at h
  rcases h2 : rdN V sz q1 5 with _ | ⟨c, q2⟩
  · rw [h2] at h; cases h
  rw [h2] at h
  simp only [Option.bind_some] at h
  split at h
  · rcases h3 : rdN V sz q2 4 with _ | ⟨m, q3⟩
    · rw [h3] at h; cases h
    rw [h3] at h
    simp only [Option.bind_some] at h
    rcases h4 : lenBkG V sz (m + 4) q3 with _ | ⟨B, q4⟩
    · rw [h4] at h; cases h
    rw [h4] at h
    simp only [Option.bind_some] at h
    rcases h5 : lnG V sz B (a + 257 + (c + 1)) q4 [] with _ | ⟨A5, q5⟩
    · rw [h5] at h; cases h
    rw [h5] at h
    simp only [Option.bind_some] at h
    have b1 := rdN_bd h1
    have b2 := rdN_bd h2
    have b3 := rdN_bd h3
    have b4 := lenBkG_bd h4 b3.1
    have b5 := lnG_bd h5 b4.1
    split at h
    · rename_i hk
      simp only [Option.some.injEq, Prod.mk.injEq] at h
      obtain ⟨rfl, rfl, rfl⟩ := h
      exact ⟨b5.1, by omega, hk.1, hk.2⟩
    · cases h
  · cases h
theorem lensG_at {V sz p X1 X2 X3 : Nat} {l : List Int} (hp : p ≤ sz) (h1 : V / 2 ^ p % 2 ^ 5 = X1) (h2 : V / 2 ^ (p + 5) % 2 ^ 5 = X2) (h3 : V / 2 ^ (p + 5 + 5) % 2 ^ 4 = X3) (hl : lbV V (ordL.take (X3 + 4)) (p + 5 + 5 + 4) (List.replicate 19 0) = l) :
    lensG V sz p = if p + 5 + 5 + 4 + 3 * (X3 + 4) ≤ sz ∧ lensOk l = true ∧ X1 + 257 ≤ 286 ∧ X2 + 1 ≤ 30 then (lnG V sz l (X1 + 257 + (X2 + 1)) (p + 5 + 5 + 4 + 3 * (X3 + 4)) []).bind fun A =>
      if lensOk (A.1.take (X1 + 257)) = true ∧ lensOk (A.1.drop (X1 + 257)) = true then some (X1 + 257, A.1, A.2) else none else none := by
  have hX : X3 + 4 ≤ 19 := by have : V / 2 ^ (p + 5 + 5) % 2 ^ 4 < 2 ^ 4 := Nat.mod_lt _ (by decide); omega
  have hlen : (ordL.take (X3 + 4)).length = X3 + 4 := by rw [List.length_take]; have : ordL.length = 19 := rfl; omega
  unfold lensG
  by_cases c1 : p + 5 ≤ sz
  · rw [rdN_yes c1]
    simp only [Option.bind_some]
    rw [h1]
    by_cases c2 : p + 5 + 5 ≤ sz
    · rw [rdN_yes c2]
      simp only [Option.bind_some]
      rw [h2]
      by_cases cc : X1 + 257 ≤ 286 ∧ X2 + 1 ≤ 30
      · rw [if_pos cc]
        by_cases c3 : p + 5 + 5 + 4 ≤ sz
        · rw [rdN_yes c3]
          simp only [Option.bind_some]
          rw [h3]
          unfold lenBkG
          rw [lbG_V _ _ _ c3, hlen, hl]
          by_cases c4 : p + 5 + 5 + 4 + 3 * (X3 + 4) ≤ sz
          · rw [if_pos c4]
            simp only [Option.bind_some]
            by_cases c5 : lensOk l = true
            · rw [if_pos c5, if_pos ⟨c4, c5, cc⟩]; rfl
            · rw [if_neg c5, if_neg (fun h => c5 h.2.1)]; rfl
          · rw [if_neg c4, if_neg (fun h => c4 h.1)]; rfl
        · rw [rdN_no c3, if_neg (by omega)]; rfl
      · rw [if_neg cc, if_neg (fun h => cc h.2.2)]
    · rw [rdN_no c2, if_neg (by omega)]; rfl
  · rw [rdN_no c1, if_neg (by omega)]; rfl
def LmP (w : World) (b p : Nat) (s : ByteArray) (e : Ending) (w' : World) : Prop :=
  KI b w.heap.size w w' ∧ ∃ va vb q f, e = .returned (.tuple #[va, vb]) ∧ RF w' b s q f ∧ (f = true → lensG (numB s) (8 * s.size) p = none) ∧
    (f = false → ∃ n m A al cl ad cd, va = .slice al n cl ∧ vb = .slice ad m cd ∧ lensG (numB s) (8 * s.size) p = some (n, A, q) ∧ A.length = n + m ∧ JRow w' (b + 1) al (A.take n) ∧ JRow w' (b + 1) ad (A.drop n))
end Go.Proofs.YtfpnnlekblamhaaGreatDoor
namespace Go.Proofs.YtfpnnlekblamhaaGreatDoor
open Go.RowKit Corb
def LmI (b gL many P : Nat) (s : ByteArray) (lf : List Int) (w : World) (i : Value) (wr : World) : Prop :=
  ∃ (k : Nat) (l : List Int), i = .int .i64 k ∧ k ≤ many ∧ Keep1 b w wr ∧ Rdr wr b s (P + 3 * k) ∧ IOwn wr gL (.slice (some ⟨gL, 0, none⟩) 19 19) l ∧ l.length = 19 ∧ lbV (numB s) ((ordL.take many).drop k) (P + 3 * k) l = lf ∧ gL < wr.heap.size
def LaI (b B N : Nat) (s : ByteArray) (l : List Int) (d : Option (List Int × Nat)) (w : World) (v : Value) (x : World) : Prop :=
  ∃ (A : List Int) (q : Nat) (f : Bool), NS w b B s x v A q f ∧ (f = false → A.length ≤ 500 ∧ q ≤ 8 * s.size ∧ lnG (numB s) (8 * s.size) l N q A = d) ∧ (f = true → d = none)
theorem KI.ku {b : Nat} {w x : World} (h : KI b w.heap.size w x) : KU b w x := ⟨h.1, fun j hj hne _ => h.2 j hj hne hj⟩
theorem KI.grow {b B : Nat} {w x y : World} (h : KI b B w x) (hb : Below x.heap.size x y) (hx : b ≤ x.heap.size) : KI b B w y := ⟨h.1.trans (hb.mono hx), fun j h1 h2 h3 => (hb.block j (Nat.lt_of_lt_of_le h3 h.1.size)).trans (h.2 j h1 h2 h3)⟩
theorem KI.less {b B B' : Nat} {w x : World} (h : KI b B w x) (hB : B' ≤ B) : KI b B' w x := ⟨h.1, fun j h1 h2 h3 => h.2 j (Nat.lt_of_lt_of_le h1 hB) h2 h3⟩
theorem JRow.ki {w x : World} {b base : Nat} {a : Option Addr} {l : List Int} (h : JRow w base a l) (hk : KI b w.heap.size w x) (hb : b < base) : JRow x base a l := h.moved hk.1.size (fun g h1 hg _ => hk.2 g hg (by omega) hg)
theorem LmP.badEnd {w x : World} {b p q : Nat} {s : ByteArray} {f : Bool} {va vb : Value} {o1 o2 : Obj} (hk : KI b w.heap.size w x) (hr : RF x b s q f) (hn : lensG (numB s) (8 * s.size) p = none) : LmP w b p s (.returned (.tuple #[va, vb])) (((x.setCell ⟨b, 2, none⟩ (.bool true)).alloc o1).alloc o2) := by
  have h1 := hr.setBad
  have bb : Below (x.setCell ⟨b, 2, none⟩ (.bool true)).heap.size (x.setCell ⟨b, 2, none⟩ (.bool true)) (((x.setCell ⟨b, 2, none⟩ (.bool true)).alloc o1).alloc o2) := ((Below.refl _ _).alloc (Nat.le_refl _) _).alloc (by simp) _
  exact ⟨(hk.trans ((keep1_set0 _ _ _ _).ki _)).grow bb (Nat.le_of_lt h1.lt), va, vb, q, true, rfl, h1.kept (bb.mono h1.lt), fun _ => hn, nofun⟩
theorem lnG_past {V sz n p : Nat} {B A : List Int} (h : sz < p) : lnG V sz B n p A = none := by
  unfold lnG
  rw [show sz + 1 - p = 0 by omega]
  rfl
set_option maxRecDepth 100000 in
set_option maxHeartbeats 6400000 in
theorem lensR_any (b p : Nat) (s : ByteArray) (w : World) (hr : Rdr w b s p) (hp : p ≤ 8 * s.size) (hs : s.size ≤ 2000) :
    Calls Tryz.prog 120 #[.pointer (some ⟨b, 0, none⟩)] w (LmP w b p s) := by
  have hmix : Tryz.prog.follows .mixedOrders = true := by kernel_rfl
  obtain ⟨i0, hi, hz0, hz1, hz2⟩ := info_parts Tryz.infoInt
  have hlt := hr.lt
  obtain ⟨X1, h1⟩ : ∃ X, numB s / 2 ^ p % 2 ^ 5 = X := ⟨_, rfl⟩
  obtain ⟨X2, h2⟩ : ∃ X, numB s / 2 ^ (p + 5) % 2 ^ 5 = X := ⟨_, rfl⟩
  obtain ⟨X3, h3⟩ : ∃ X, numB s / 2 ^ (p + 5 + 5) % 2 ^ 4 = X := ⟨_, rfl⟩
  obtain ⟨lf, hlf⟩ : ∃ l, lbV (numB s) (ordL.take (X3 + 4)) (p + 5 + 5 + 4) (List.replicate 19 0) = l := ⟨_, rfl⟩
  have HG := hide (lensG_at hp h1 h2 h3 hlf)
  have b1 : X1 < 32 := by rw [← h1]; exact Nat.mod_lt _ (by decide)
  have b2 : X2 < 32 := by rw [← h2]; exact Nat.mod_lt _ (by decide)
  have b3 : X3 < 16 := by rw [← h3]; exact Nat.mod_lt _ (by decide)
  have N1 := hide (srcNum_any b p 5 s w hr (by omega) (by omega))
  have N2 := hide (fun W (h : Rdr W b s (p + 5)) => srcNum_any b (p + 5) 5 s W h (by omega) (by omega))
  have N3 := hide (fun W (h : Rdr W b s (p + 5 + 5)) => srcNum_any b (p + 5 + 5) 4 s W h (by omega) (by omega))
  rw [h1] at N1
  rw [h2] at N2
  rw [h3] at N3
  obtain ⟨NL, hNL⟩ : ∃ n, X1 + 257 = n := ⟨_, rfl⟩
  obtain ⟨NB, hNB⟩ : ∃ n, X2 + 1 = n := ⟨_, rfl⟩
  obtain ⟨many, hmany⟩ : ∃ n, X3 + 4 = n := ⟨_, rfl⟩
  rw [hNL, hNB, hmany] at HG
  rw [hmany] at hlf
  have eL : (257 : Int) + (X1 : Int) = (NL : Int) := by omega
  have eB : (1 : Int) + (X2 : Int) = (NB : Int) := by omega
  have eM : (4 : Int) + (X3 : Int) = (many : Int) := by omega
  have bL : (NL : Int) ≤ 288 := by omega
  have bB : (NB : Int) ≤ 32 := by omega
  have bM : (many : Int) ≤ 19 := by omega
  have HN : Hid (s.size ≤ 2000 ∧ many ≤ 19 ∧ b < w.heap.size ∧ NL ≤ 288 ∧ NB ≤ 32) := ⟨hs, by omega, hlt, by omega, by omega⟩
  generalize hP : p + 5 + 5 + 4 = P at *
  have HLF := hide hlf
  have HP := hide hp
  clear h1 h2 h3 b1 b2 b3 hNL hNB hmany hlf hr hp hs
  go_enter Tryz.func120, Tryz.ntmps120
  go_wp2_with fail
  refine (unhide N1).mono ?_
  rintro e x1 ⟨rfl, r1, k1⟩
  have HX1 := hide (And.intro r1 k1)
  clear r1 k1 N1
  go_wp2_with fail
  refine (unhide N2 x1 (unhide HX1).1).mono ?_
  rintro e x2 ⟨rfl, r2, k2⟩
  have HX2 := hide (And.intro r2 ((unhide HX1).2.trans k2))
  clear r2 k2 N2 HX1
  go_wp2_with fail
  refine (unhide N3 x2 (unhide HX2).1).mono ?_
  rintro e x3 ⟨rfl, r3, k3⟩
  have HX3 := hide (And.intro r3 ((unhide HX2).2.trans k3))
  have hg0 : w.heap.size ≤ x3.heap.size := (unhide HX3).2.1.size
  clear r3 k3 N3 HX2 hP
  go_wp2_with (at_make; refine wpList_make_full _ rfl _ _ 96 rfl x3.heap.size 3 i0 (.int .i64 0) 1 Tryz.underlying96 hi hz0 hz1 .i64 .i64 _ _ 19 rfl rfl rfl rfl (by rw [hz2]; omega) (by unfold maxLen; omega) (Nat.le_refl _) ?_; intro w1 hown hgrow)
  have hO1 : IOwn w1 x3.heap.size (.slice (some ⟨x3.heap.size, 0, none⟩) 19 19) (List.replicate 19 0) := made_ints hown
  have hb1 : Below x3.heap.size x3 w1 := (Below.refl _ _).grown hgrow (Nat.le_refl _) (fun k h => by cases h)
  have hlt3 : b < x3.heap.size := (unhide HX3).1.lt
  have hg1 : x3.heap.size < w1.heap.size := hO1.below.2
  generalize hgL : x3.heap.size = gL at *
  have HI : Hid (LmI b gL many P s lf w (.int .i64 (0 : Nat)) w1) := ⟨0, List.replicate 19 0, rfl, Nat.zero_le _, (unhide HX3).2.later (by rw [hgL]; exact hb1) (by rw [hgL]; exact hlt3), (unhide HX3).1.kept (hb1.mono hlt3), hO1, by simp, by rw [List.drop_zero]; exact unhide HLF, hg1⟩
  clear hown hgrow hi hz0 hz1 hz2 HX3 hO1 hb1 HLF hgL hg1
  go_wp2_with fail
  go_loopw [8] (fun i wr => LmI b gL many P s lf w i wr) (fun i _ => many - (intOf i).toNat)
  case atStart => exact unhide HI
  case round =>
    obtain ⟨k, l, rfl, hk, hkp, hr, ho, hl, hd, hsz⟩ := hrel
    clear HI
    by_cases hkm : k < many
    · have hkI : (k : Int) < (many : Int) := by omega
      have hk19 : k < 19 := by have := (unhide HN).2.1; omega
      have hol := ord_lt k hk19
      rw [ord_drop hkm (unhide HN).2.1] at hd
      simp only [lbV] at hd
      have HOr := hide (l5Order_at wr.drew)
      obtain ⟨y, hy⟩ : ∃ y, numB s / 2 ^ (P + 3 * k) % 2 ^ 3 = y := ⟨_, rfl⟩
      have HM := hide (fun W (h : Rdr W b s (P + 3 * k)) => srcNum_any b (P + 3 * k) 3 s W h (by have := unhide HN; omega) (by omega))
      rw [hy] at HM hd
      have HX := hide (And.intro hkp (And.intro hr (And.intro ho (And.intro hl hsz))))
      have HLD := hide hd
      have HOG : Hid (ordI.getD k 0 = (ordL.getD k 0 : Nat)) := ordI_get k hk19
      have hgw := hsz
      clear hkp hr ho hl hsz hk hd hy
      generalize ordL.getD k 0 = o at *
      have hoI : (o : Int) < 19 := by omega
      have hszd : wr.drew.heap.size = wr.heap.size := rfl
      go_wp2_with fail
      refine wp_region_held_drew (S := fun _ => True) hmix trivial (fun hS => ?_)
      refine wpAnyH_take (i := 0) (v := .slice (some ⟨gL, 0, none⟩) 19 19) rfl (by kernel_rfl) (by kernel_rfl) (by kernel_rfl) (fun _ _ _ h => h) (Or.inl ⟨by rfl, fun W hSw => by go_simp⟩) hS ?_
      refine wpAnyH_take (i := 2) (v := .int .i64 (k : Nat)) rfl (by kernel_rfl) (by kernel_rfl) (by kernel_rfl) (fun _ _ _ h => h) (Or.inl ⟨by rfl, fun W hSw => by go_simp⟩) hS ?_
      refine wpAnyH_take (i := 5) (v := .pointer (some ⟨b, 0, none⟩)) rfl (by kernel_rfl) (by kernel_rfl) (by kernel_rfl) (fun _ _ _ h => h) (Or.inl ⟨by rfl, fun W hSw => by go_simp⟩) hS ?_
      refine wpAnyH_ready (rs := [1]) (by kernel_rfl) (by simp) ?_
      refine AllReadyH.cons rfl (fun K hK => ?_) AllReadyH.nil
      go_simp
      go_at_call 132
      refine (unhide HOr).mono ?_
      rintro e x4 ⟨rfl, o4, b4⟩
      refine Shut.out hK _ _ trivial (fun _ => ?_)
      clear hK K
      have hgo : wr.heap.size < x4.heap.size := o4.below.2
      have b4' : Below wr.heap.size wr x4 := (Below.refl wr.heap.size wr).drew.trans b4
      have k4 : Keep1 b wr x4 := (Keep1.refl b wr).later b4' (unhide HX).2.1.lt
      obtain ⟨c4, _, _, _⟩ := o4.at ordI_len hk19
      rw [unhide HOG] at c4
      have HS4 : Hid (∀ W, Keep1 b x4 W → W.cell? ⟨wr.heap.size, k, none⟩ = some (.int .i64 (o : Nat))) := fun W h => by
        have h1 := h.2 wr.heap.size hgo (by have := (unhide HX).2.1.lt; omega)
        rw [World.cell?_of_block (w := x4) h1 (a := ⟨wr.heap.size, k, none⟩)]
        exact c4
      have HX4 : Hid (Keep1 b w x4 ∧ Rdr x4 b s (P + 3 * k) ∧ IOwn x4 gL (.slice (some ⟨gL, 0, none⟩) 19 19) l ∧ gL < x4.heap.size ∧ l.length = 19) := ⟨(unhide HX).1.trans k4, (unhide HX).2.1.kept (b4'.mono (unhide HX).2.1.lt), (unhide HX).2.2.1.later b4' (Nat.le_refl _), by have := (unhide HX).2.2.2.2; omega, (unhide HX).2.2.2.1⟩
      clear HX HOr o4 b4 b4' k4 hgo
      refine wpAnyH_weaken (S' := fun W => W.cell? ⟨wr.heap.size, k, none⟩ = some (.int .i64 (o : Nat))) (fun _ _ => trivial) _ _ _ _ ?_
      have hS1 : x4.cell? ⟨wr.heap.size, k, none⟩ = some (.int .i64 (o : Nat)) := c4
      refine wpAnyH_take (i := 3) (v := .pointer (some ⟨wr.heap.size, k, none⟩)) rfl (by kernel_rfl) (by kernel_rfl) (by kernel_rfl) (fun _ _ _ h => h) (Or.inl ⟨by rfl, fun W hSw => by go_simp <;> (intro h; omega)⟩) hS1 ?_
      refine wpAnyH_take (i := 4) (v := .int .i64 (o : Nat)) rfl (by kernel_rfl) (by kernel_rfl) (by kernel_rfl) (fun _ _ _ h => h) (Or.inl ⟨by rfl, fun W hSw => by go_simp⟩) hS1 ?_
      refine wpAnyH_ready (rs := [6]) (by kernel_rfl) (by simp) ?_
      refine AllReadyH.cons rfl (fun K hK => ?_) AllReadyH.nil
      go_simp
      go_at_call 115
      refine (unhide HM x4 (unhide HX4).2.1).mono ?_
      rintro e x5 ⟨rfl, r5, k5⟩
      refine Shut.out hK _ _ (unhide HS4 _ k5) (fun hS2 => ?_)
      clear hK K
      have hne : gL ≠ b := by omega
      have o5 := (unhide HX4).2.2.1.keep1' k5 (by omega)
      obtain ⟨c5, f5, _, _⟩ := o5.at (unhide HX4).2.2.2.2 hol
      refine wpAnyH_take (i := 7) (v := .pointer (some ⟨gL, o, none⟩)) rfl (by kernel_rfl) (by kernel_rfl) (by kernel_rfl) (fun _ _ _ h => h) (Or.inl ⟨by rfl, fun W hSw => by go_simp <;> (intro h; omega)⟩) hS2 ?_
      refine wpAnyH_ready (rs := [8]) (by kernel_rfl) (by simp) ?_
      refine AllReadyH.cons rfl (fun K hK => ?_) AllReadyH.nil
      go_simp
      have HI : Hid (LmI b gL many P s lf w (.int .i64 (k + 1 : Nat)) (x5.setCell ⟨gL, o, none⟩ (.int .i64 (y : Nat)))) := by
        refine ⟨k + 1, l.set o (y : Nat), rfl, hkm, ((unhide HX4).1.trans k5).set hg0 (unhide HN).2.2.1 _, ?_, o5.put (unhide HX4).2.2.2.2 _, by rw [List.length_set]; exact (unhide HX4).2.2.2.2, by rw [show P + 3 * (k + 1) = P + 3 * k + 3 by omega]; exact unhide HLD, ?_⟩
        · rw [show P + 3 * (k + 1) = P + 3 * k + 3 by omega]
          exact r5.set hne _
        · have := k5.1.size; have := (unhide HX4).2.2.2.1; simp; omega
      have hS3 : (x5.setCell ⟨gL, o, none⟩ (.int .i64 (y : Nat))).cell? ⟨wr.heap.size, k, none⟩ = some (.int .i64 (o : Nat)) := by
        rw [World.cell?_setCell_other _ _ _ _ (by simp only [ne_eq, Addr.mk.injEq]; omega)]
        exact hS2
      refine Shut.out hK _ _ hS3 (fun _ => ?_)
      clear hK K
      refine wpAnyH_done (by kernel_rfl) ?_ _
      clear hS1 hS2 hS3 k5 r5 o5 HS4 HM HX4 c4 c5 f5
      generalize x5.setCell ⟨gL, o, none⟩ (.int .i64 (y : Nat)) = x6 at *
      go_wp2_with fail
      go_roundw
      case rel => exact unhide HI
      case measure => simp [intOf]; omega
    · have hkI : ¬ (k : Int) < (many : Int) := by omega
      have hkk : k = many := by omega
      subst hkk
      have e0 : (ordL.take k).drop k = [] := List.drop_eq_nil_of_le (by rw [List.length_take]; omega)
      rw [e0] at hd
      simp only [lbV] at hd
      subst hd
      have HL := hide (specLensOk_any (some ⟨gL, 0, none⟩) 19 19 l wr hl (ho.rowN hl) (by omega))
      have HC := hide (l3Codes_any (some ⟨gL, 0, none⟩) 19 19 l wr hl (ho.rowN hl) (by omega))
      have JL := hide ((own_jrow hl (ho.own hl)).mono (b' := b + 1) (by omega))
      have HX := hide (And.intro hkp (And.intro hr hl))
      clear hkp hr hl ho hk e0 hkm
      by_cases hok : lensOk l = true ∧ NL ≤ 286 ∧ NB ≤ 30
      · obtain ⟨ok1, ok2, ok3⟩ := hok
        rw [ok1] at HL
        have HOK := hide ok1
        obtain ⟨d, hd⟩ : ∃ d, lnG (numB s) (8 * s.size) l (NL + NB) (P + 3 * k) [] = d := ⟨_, rfl⟩
        have HG2 : Hid (lensG (numB s) (8 * s.size) p = d.bind fun A => if lensOk (A.1.take NL) = true ∧ lensOk (A.1.drop NL) = true then some (NL, A.1, A.2) else none) := by
          show _ = _
          rw [unhide HG, hd]
          by_cases hQ : P + 3 * k ≤ 8 * s.size
          · rw [if_pos ⟨hQ, ok1, ok2, ok3⟩]
          · rw [if_neg (fun h => hQ h.1), ← hd, lnG_past (by omega)]
            rfl
        have HD := hide hd
        have hL2 : ¬ (286 : Int) < (NL : Int) := by omega
        have hB2 : ¬ (30 : Int) < (NB : Int) := by omega
        have HK := hide (And.intro ok2 ok3)
        clear ok1 ok2 ok3 hd HG
        go_wp2_with fail
        refine (unhide HL).mono ?_
        rintro e x4 ⟨rfl, rfl⟩
        clear HL
        go_wp2_with fail
        refine (unhide HC).mono ?_
        rintro e x5 ⟨rfl, o5, b5⟩
        have hl2 : (outN l 15).2.length = 19 := by rw [outN_len]; exact (unhide HX).2.2
        have hlt4 : b < x4.heap.size := (unhide HX).2.1.lt
        have J5 := hide (And.intro ((unhide JL).later b5) ((own_jrow hl2 (o5.own hl2)).mono (b' := b + 1) hlt4))
        have K5 := hide ((unhide HX).1.later b5 hlt4)
        have R5 := hide (rdr_rf ((unhide HX).2.1.kept (b5.mono hlt4)))
        have hlt5 : b < x5.heap.size := (unhide R5).lt
        have hR0 : World.ownsRow (x5.alloc (.cells #[] 3)) x5.heap.size 3 1 (.slice (some ⟨x5.heap.size, 0, none⟩) 0 0) 0 [] := World.ownsRow_lit x5 #[] 0 (Nat.le_refl _) (by unfold maxLen; omega) rfl
        have hB0 : Below x5.heap.size x5 (x5.alloc (.cells #[] 3)) := (Below.refl _ _).alloc (Nat.le_refl _) _
        have HI : Hid (LaI b x5.heap.size (NL + NB) s l d x5 (.slice (some ⟨x5.heap.size, 0, none⟩) 0 0) (x5.alloc (.cells #[] 3))) := by
          refine ⟨[], P + 3 * k, _, ⟨(KI.refl _ _ _).grow hB0 (Nat.le_of_lt hlt5), hR0, (unhide R5).kept (hB0.mono hlt5), hB0.size⟩, fun h => ⟨by simp, by simpa using h, unhide HD⟩, fun h => ?_⟩
          rw [← unhide HD, lnG_past (by simpa using h)]
        have hlen : (unhide HX).2.2 = (unhide HX).2.2 := rfl
        generalize hgC : x4.heap.size = gC at *
        have Hl := hide (unhide HX).2.2
        clear hlen o5 b5 HC JL HX R5 hR0 hB0 HD hl2 hgC
        go_wp2_with fail
        generalize x5.alloc (.cells #[] 3) = x6 at *
        obtain ⟨N, hN⟩ : ∃ N, NL + NB = N := ⟨_, rfl⟩
        rw [hN] at HI
        have eN : (NL : Int) + (NB : Int) = (N : Int) := by omega
        have bN : (N : Int) ≤ 316 := by have := unhide HK; omega
        go_loopw [10] (fun v wr => LaI b x5.heap.size N s l d x5 v wr) (fun _ wr => farN b (8 * s.size) wr)
        case atStart => exact unhide HI
        case round =>
          obtain ⟨A, q, f, hns, hfF, hfT⟩ := hrel
          clear HI
          obtain ⟨m, hm⟩ : ∃ m, A.length = m := ⟨_, rfl⟩
          obtain ⟨va, vc, rfl⟩ := hns.2.1.formN hm
          obtain ⟨c2, f2⟩ := hns.2.2.1.bad
          have hltb := hns.2.2.1.lt
          have Hm := hide hm
          have HNS := hide hns
          have HF := hide (And.intro hfF hfT)
          have HFar := hide hns.2.2.1.far
          have HKI : Hid (KI b w.heap.size w _) := ((unhide K5).ki _).trans (hns.1.less (unhide K5).1.size)
          have HJ := hide (And.intro ((unhide J5).1.ki hns.1 (Nat.lt_succ_self _)) ((unhide J5).2.ki hns.1 (Nat.lt_succ_self _)))
          clear hm hns hfF hfT
          cases f
          · obtain ⟨hA5, hq, hdd⟩ := (unhide HF).1 rfl
            rw [unhide Hm] at hA5
            have hmI : (m : Int) ≤ 500 := by omega
            by_cases hmN : m < N
            · have hmNI : (m : Int) < (N : Int) := by omega
              rw [lnG_less hq (by rw [unhide Hm]; exact hmN)] at hdd
              have HSy := hide (symbol_at (some ⟨gL, 0, none⟩) (some ⟨gC, 0, none⟩) 19 19 19 b q l s wr (unhide Hl) (unhide HOK) (by have := unhide HN; omega) (rf_rdr (unhide HNS).2.2.1 hq) hq (fun W h => ((unhide HJ).1.keep1 h (Nat.lt_succ_self _)).1) (fun W h => ((unhide HJ).2.keep1 h (Nat.lt_succ_self _)).1))
              unfold SymAt at HSy
              have Hq := hide hq
              clear hq
              rcases h1 : dec l (numB s) (8 * s.size) q with _ | ⟨kk, q1⟩
              · rw [h1] at HSy hdd
                have Hn : Hid (d = none) := hdd.symm
                clear h1 hdd
                go_wp2_with fail
                refine (unhide HSy).mono ?_
                rintro e x7 ⟨k7, xx, qq, rfl, r7⟩
                have HM7 := hide (many_any b x5.heap.size qq m vc va s A xx true x7 (unhide Hm) (by omega) ((unhide HNS).keep1 hlt5 k7 r7 |> fun h => ⟨KI.refl _ _ _, h.2.1, h.2.2.1, h.2.2.2⟩) hlt5 nofun (unhide HN).1)
                have HK7 := hide ((unhide HNS).1.trans (k7.ki _))
                clear HSy k7 r7 c2 f2
                go_wp2_with fail
                refine (unhide HM7).mono ?_
                rintro e x8 ⟨v8, A8, q8, f8, rfl, n8, t8, _⟩
                have ht : f8 = true := t8 rfl
                subst ht
                have HI : Hid (LaI b x5.heap.size N s l d x5 v8 x8) := ⟨A8, q8, true, ⟨(unhide HK7).trans n8.1, n8.2.1, n8.2.2.1, n8.2.2.2⟩, nofun, fun _ => unhide Hn⟩
                have HF8 : Hid (farN b (8 * s.size) x8 < farN b (8 * s.size) wr) := by
                  show _ < _
                  rw [n8.2.2.1.far, unhide HFar]
                  simp only [if_true, Bool.false_eq_true, if_false]
                  omega
                clear n8 t8 HM7 HK7
                go_wp2_with fail
                go_roundw
                case rel => exact unhide HI
                case measure => exact unhide HF8
              · rw [h1] at HSy hdd
                have hb1 := dec_bd h1
                have Hb1 := hide (And.intro hb1.1 hb1.2.1)
                have HE := hide hdd
                clear h1 hdd hb1
                go_wp2_with fail
                refine (unhide HSy).mono ?_
                rintro e x7 ⟨k7, rfl, r7⟩
                have r7' : RF x7 b s q1 false := by have := rdr_rf r7; rwa [decide_eq_false (by have := unhide Hb1; omega)] at this
                have HM7 := hide (many_any b x5.heap.size q1 m vc va s A kk false x7 (unhide Hm) (by omega) ((unhide HNS).keep1 hlt5 k7 r7' |> fun h => ⟨KI.refl _ _ _, h.2.1, h.2.2.1, h.2.2.2⟩) hlt5 (fun _ => (unhide Hb1).1) (unhide HN).1)
                have HK7 := hide ((unhide HNS).1.trans (k7.ki _))
                clear HSy k7 r7 r7' c2 f2
                go_wp2_with fail
                refine (unhide HM7).mono ?_
                rintro e x8 ⟨v8, A8, q8, f8, rfl, n8, _, t8⟩
                have t8' := t8 rfl
                have hE := unhide HE
                simp only [Option.bind_some] at hE
                rw [t8'] at hE
                have HI : Hid (LaI b x5.heap.size N s l d x5 v8 x8) := by
                  refine ⟨A8, q8, f8, ⟨(unhide HK7).trans n8.1, n8.2.1, n8.2.2.1, n8.2.2.2⟩, fun h => ?_, fun h => ?_⟩
                  · rw [h] at hE t8'
                    have := addLn_bd t8' (unhide Hb1).1
                    rw [unhide Hm] at this
                    exact ⟨by omega, this.1, hE⟩
                  · rw [h] at hE
                    exact hE.symm
                have HF8 : Hid (farN b (8 * s.size) x8 < farN b (8 * s.size) wr) := by
                  show _ < _
                  rw [n8.2.2.1.far, unhide HFar]
                  have := unhide Hb1; have := unhide Hq
                  cases f8
                  · have := addLn_bd t8' (unhide Hb1).1
                    simp only [Bool.false_eq_true, if_false]
                    omega
                  · simp only [if_true, Bool.false_eq_true, if_false]
                    omega
                clear n8 t8 t8' hE HM7 HK7
                go_wp2_with fail
                go_roundw
                case rel => exact unhide HI
                case measure => exact unhide HF8
            · have hmNI : ¬ (m : Int) < (N : Int) := by omega
              rw [lnG_same hq (by rw [unhide Hm]; exact hmN), unhide Hm] at hdd
              by_cases hmE : m = N
              · subst hmE
                rw [if_pos rfl] at hdd
                have HE := hide hdd
                clear hdd hmN
                obtain ⟨g, rfl⟩ := (unhide HNS).2.1.somes (by rw [unhide Hm]; omega)
                have hcap : m ≤ vc := by
                  rcases ((unhide HNS).2.1.own (unhide Hm)).2 with ⟨e, _⟩ | ⟨g', cap', cur, e, _, _, h1, _⟩
                  · cases e
                  · simp only [Value.slice.injEq] at e; omega
                have hcapI : (m : Int) ≤ (vc : Int) := by omega
                have tl : (A.take NL).length = NL := by rw [List.length_take, unhide Hm]; omega
                have dl : (A.drop NL).length = m - NL := by rw [List.length_drop, unhide Hm]
                have JA := hide ((own_jrow (unhide Hm) ((unhide HNS).2.1.own (unhide Hm))).mono (b' := b + 1) hlt5)
                have JD := hide ((unhide JA).drop NL)
                rw [Nat.zero_add] at JD
                have HL1 := hide (specLensOk_any (some ⟨g, 0, none⟩) vc NL (A.take NL) wr tl ((unhide JA).take NL).1 (by omega))
                have HL2 := hide (specLensOk_any (some ⟨g, NL, none⟩) (vc - NL) (m - NL) (A.drop NL) wr dl (unhide JD).1 (by omega))
                have hNLm : (NL : Int) ≤ (m : Int) := by omega
                clear tl dl
                cases k1 : lensOk (A.take NL)
                · have Hn : Hid (lensG (numB s) (8 * s.size) p = none) := by show _ = _; rw [unhide HG2, ← unhide HE]; simp only [Option.bind_some]; rw [if_neg (fun h => by rw [k1] at h; cases h.1)]
                  rw [k1] at HL1
                  clear k1
                  go_wp2_with fail
                  refine (unhide HL1).mono ?_
                  rintro e x7 ⟨rfl, rfl⟩
                  clear HL1
                  go_wp2
                  go_ret2
                  exact LmP.badEnd (unhide HKI) (unhide HNS).2.2.1 (unhide Hn)
                · rw [k1] at HL1
                  cases k2 : lensOk (A.drop NL)
                  · have Hn : Hid (lensG (numB s) (8 * s.size) p = none) := by show _ = _; rw [unhide HG2, ← unhide HE]; simp only [Option.bind_some]; rw [if_neg (fun h => by rw [k2] at h; cases h.2)]
                    rw [k2] at HL2
                    clear k1 k2
                    go_wp2_with fail
                    refine (unhide HL1).mono ?_
                    rintro e x7 ⟨rfl, rfl⟩
                    clear HL1
                    go_wp2_with fail
                    refine (unhide HL2).mono ?_
                    rintro e x8 ⟨rfl, rfl⟩
                    clear HL2
                    go_wp2
                    go_ret2
                    exact LmP.badEnd (unhide HKI) (unhide HNS).2.2.1 (unhide Hn)
                  · have Hn : Hid (lensG (numB s) (8 * s.size) p = some (NL, A, q)) := by show _ = _; rw [unhide HG2, ← unhide HE]; simp only [Option.bind_some]; rw [if_pos ⟨k1, k2⟩]
                    rw [k2] at HL2
                    clear k1 k2
                    go_wp2_with fail
                    refine (unhide HL1).mono ?_
                    rintro e x7 ⟨rfl, rfl⟩
                    clear HL1
                    go_wp2_with fail
                    refine (unhide HL2).mono ?_
                    rintro e x8 ⟨rfl, rfl⟩
                    clear HL2
                    go_wp2_with fail
                    go_quiet (fail)
                    go_wp2
                    go_ret2
                    have bb : Below x8.heap.size x8 (x8.drewN nq) := below_drewN (Below.refl _ _) nq
                    exact ⟨(unhide HKI).grow bb (Nat.le_of_lt hltb), _, _, q, false, rfl, (unhide HNS).2.2.1.kept (bb.mono hltb), nofun, fun _ => ⟨NL, m - NL, A, _, _, _, _, rfl, rfl, unhide Hn, by rw [unhide Hm]; omega, ((unhide JA).take NL).later bb, (unhide JD).later bb⟩⟩
              · rw [if_neg hmE] at hdd
                have hmEI : ¬ (m : Int) = (N : Int) := by omega
                have Hn : Hid (lensG (numB s) (8 * s.size) p = none) := by show _ = _; rw [unhide HG2, ← hdd]; rfl
                clear hdd
                go_wp2
                go_ret2
                exact LmP.badEnd (unhide HKI) (unhide HNS).2.2.1 (unhide Hn)
          · have Hn : Hid (lensG (numB s) (8 * s.size) p = none) := by show _ = _; rw [unhide HG2, (unhide HF).2 rfl]; rfl
            by_cases hmN : m < N
            · have hmNI : (m : Int) < (N : Int) := by omega
              go_wp2
              go_ret2
              exact LmP.badEnd (unhide HKI) (unhide HNS).2.2.1 (unhide Hn)
            · have hmNI : ¬ (m : Int) < (N : Int) := by omega
              go_wp2
              go_ret2
              exact LmP.badEnd (unhide HKI) (unhide HNS).2.2.1 (unhide Hn)
      · have Hn : Hid (lensG (numB s) (8 * s.size) p = none) := by show _ = _; rw [unhide HG, if_neg (fun h => hok h.2)]
        have hc2 : wr.cell? ⟨b, 2, none⟩ = some (.bool (decide (8 * s.size < P + 3 * k))) ∧ wr.frozen? ⟨b, 2, none⟩ = false := (rdr_rf (unhide HX).2.1).bad
        have hltb := (unhide HX).2.1.lt
        obtain ⟨c2, f2⟩ := hc2
        cases hk1 : lensOk l
        · rw [hk1] at HL
          clear hk1 hok
          go_wp2_with fail
          refine (unhide HL).mono ?_
          rintro e x4 ⟨rfl, rfl⟩
          clear HL
          go_wp2
          go_ret2
          exact LmP.badEnd ((unhide HX).1.ki _) (rdr_rf (unhide HX).2.1) (unhide Hn)
        · rw [hk1] at HL
          by_cases hk2 : NL ≤ 286
          · have hk3 : ¬ NB ≤ 30 := fun h => hok ⟨hk1, hk2, h⟩
            have hL2 : ¬ (286 : Int) < (NL : Int) := by omega
            have hB2 : (30 : Int) < (NB : Int) := by omega
            clear hk1 hok hk2 hk3
            go_wp2_with fail
            refine (unhide HL).mono ?_
            rintro e x4 ⟨rfl, rfl⟩
            clear HL
            go_wp2
            go_ret2
            exact LmP.badEnd ((unhide HX).1.ki _) (rdr_rf (unhide HX).2.1) (unhide Hn)
          · have hL2 : (286 : Int) < (NL : Int) := by omega
            clear hk1 hok hk2
            go_wp2_with fail
            refine (unhide HL).mono ?_
            rintro e x4 ⟨rfl, rfl⟩
            clear HL
            go_wp2
            go_ret2
            exact LmP.badEnd ((unhide HX).1.ki _) (rdr_rf (unhide HX).2.1) (unhide Hn)
end Go.Proofs.YtfpnnlekblamhaaGreatDoor
namespace Go.Proofs.YtfpnnlekblamhaaGreatDoor
open Go.RowKit Corb
set_option maxRecDepth 100000 in
set_option maxHeartbeats 1600000 in
theorem storedB_any (b p n cap : Nat) (a : Option Addr) (s : ByteArray) (T : List UInt8) (d : Option (List UInt8 × Nat)) (w : World) (ho : BOwn w (b + 1) (.slice a n cap) T) (hr : RF w b s p true) (hs : s.size ≤ 2000) (hd : T.length ≤ 300 → d = none) (P : Nat) :
    Calls Tryz.prog 116 #[.pointer (some ⟨b, 0, none⟩), .slice a n cap] w (MP w b P s T d) := by
  obtain ⟨p, hp, hr⟩ := hr.cut
  have HS0 : Hid (MS w b s w (.slice a n cap) T p true) := ⟨KU.refl _ _, ho, hr⟩
  have HW := hide (whole_rf b p true s w hr hp (by omega))
  have HN := hide hs
  have Hd := hide hd
  clear ho hr hs hp hd
  go_enter Tryz.func116, Tryz.ntmps116
  by_cases hc1 : numB s / 2 ^ p % 2 ^ ((8 - p % 8) % 8) = 0
  · rw [decide_eq_true hc1] at HW
    clear hc1
    go_wp2_with fail
    refine (unhide HW).mono ?_
    rintro e x1 ⟨rfl, r1, k1⟩
    have HS1 := hide ((unhide HS0).keep1 k1 r1)
    clear k1 r1 HW HS0
    obtain ⟨Q1, hQ1⟩ : ∃ Q, p + (8 - p % 8) % 8 = Q := ⟨_, rfl⟩
    rw [hQ1] at HS1
    have HM := hide (num_rf b Q1 16 true s _ (unhide HS1).2.2 nofun (by have := unhide HN; omega) (by omega))
    rw [Bool.true_or] at HM
    go_wp2_with fail
    refine (unhide HM).mono ?_
    rintro e x2 ⟨rfl, r2, k2⟩
    have HS2 := hide ((unhide HS1).keep1 k2 r2)
    clear k2 r2 HM HS1
    have HM := hide (num_rf b (Q1 + 16) 16 true s x2 (unhide HS2).2.2 nofun (by have := unhide HN; omega) (by omega))
    obtain ⟨X, hX⟩ : ∃ X, numB s / 2 ^ Q1 % 2 ^ 16 = X := ⟨_, rfl⟩
    obtain ⟨Y, hY⟩ : ∃ Y, numB s / 2 ^ (Q1 + 16) % 2 ^ 16 = Y := ⟨_, rfl⟩
    have hXI : (X : Int) ≤ 65535 := by
      have : numB s / 2 ^ Q1 % 2 ^ 16 < 65536 := Nat.mod_lt _ (by decide)
      omega
    have hYI : (Y : Int) ≤ 65535 := by
      have : numB s / 2 ^ (Q1 + 16) % 2 ^ 16 < 65536 := Nat.mod_lt _ (by decide)
      omega
    rw [Bool.true_or, hY] at HM
    rw [hX]
    clear hX hY
    go_wp2_with fail
    refine (unhide HM).mono ?_
    rintro e x3 ⟨rfl, r3, k3⟩
    have HS3 := hide ((unhide HS2).keep1 k3 r3)
    clear k3 r3 HM HS2
    obtain ⟨c3, f3⟩ := (unhide HS3).2.2.bad
    by_cases hYX : Y = 65535 - X
    · have g1 : (Y : Int) = 65535 - (X : Int) := by omega
      by_cases hX3 : 300 < X
      · have gI : (300 : Int) < (X : Int) := by omega
        clear hYX hX3
        have HSx0 := hide (unhide HS3).setBad
        go_wp2_with fail
        generalize x3.setCell ⟨b, 2, none⟩ (.bool true) = XW at *
        have HSx := hide (unhide HSx0)
        have c4 := (unhide HSx).2.2.bad.1
        go_loopw [1, 6] (fun v i wr => v = .slice a n cap ∧ i = .int .i64 0 ∧ wr = XW) (fun _ _ _ => 0)
        case atStart => exact ⟨rfl, rfl, rfl⟩
        case round =>
          obtain ⟨rfl, rfl, rfl⟩ := hrel
          by_cases h0 : 0 < X
          · have h0I : (0 : Int) < (X : Int) := by omega
            go_wp2
            go_ret
            exact (unhide HSx).end (MR.bad (unhide Hd))
          · have h0I : ¬ (0 : Int) < (X : Int) := by omega
            go_wp2
            go_ret
            exact (unhide HSx).end (MR.bad (unhide Hd))
      · have gI : ¬ (300 : Int) < (X : Int) := by omega
        clear hYX hX3
        have HSx0 := HS3
        obtain ⟨XW, hXW⟩ : ∃ XW, x3 = XW := ⟨_, rfl⟩
        subst hXW
        go_wp2_with fail
        have HSx := hide (unhide HSx0)
        have c4 := (unhide HSx).2.2.bad.1
        go_loopw [1, 6] (fun v i wr => v = .slice a n cap ∧ i = .int .i64 0 ∧ wr = x3) (fun _ _ _ => 0)
        case atStart => exact ⟨rfl, rfl, rfl⟩
        case round =>
          obtain ⟨rfl, rfl, rfl⟩ := hrel
          by_cases h0 : 0 < X
          · have h0I : (0 : Int) < (X : Int) := by omega
            go_wp2
            go_ret
            exact (unhide HSx).end (MR.bad (unhide Hd))
          · have h0I : ¬ (0 : Int) < (X : Int) := by omega
            go_wp2
            go_ret
            exact (unhide HSx).end (MR.bad (unhide Hd))
    · have g1 : ¬ (Y : Int) = 65535 - (X : Int) := by omega
      clear hYX
      have HSx0 := hide (unhide HS3).setBad
      go_wp2_with fail
      generalize x3.setCell ⟨b, 2, none⟩ (.bool true) = XW at *
      have HSx := hide (unhide HSx0)
      have c4 := (unhide HSx).2.2.bad.1
      go_loopw [1, 6] (fun v i wr => v = .slice a n cap ∧ i = .int .i64 0 ∧ wr = XW) (fun _ _ _ => 0)
      case atStart => exact ⟨rfl, rfl, rfl⟩
      case round =>
        obtain ⟨rfl, rfl, rfl⟩ := hrel
        by_cases h0 : 0 < X
        · have h0I : (0 : Int) < (X : Int) := by omega
          go_wp2
          go_ret
          exact (unhide HSx).end (MR.bad (unhide Hd))
        · have h0I : ¬ (0 : Int) < (X : Int) := by omega
          go_wp2
          go_ret
          exact (unhide HSx).end (MR.bad (unhide Hd))
  · rw [decide_eq_false hc1] at HW
    clear hc1
    go_wp2_with fail
    refine (unhide HW).mono ?_
    rintro e x0 ⟨rfl, r1, k1⟩
    have HS0' := hide ((unhide HS0).keep1 k1 r1)
    obtain ⟨c0, f0⟩ := r1.bad
    clear k1 r1 HW HS0
    have HS1 := hide (unhide HS0').setBad
    go_wp2_with fail
    generalize x0.setCell ⟨b, 2, none⟩ (.bool true) = x1 at *
    obtain ⟨Q1, hQ1⟩ : ∃ Q, p + (8 - p % 8) % 8 = Q := ⟨_, rfl⟩
    rw [hQ1] at HS1
    have HM := hide (num_rf b Q1 16 true s _ (unhide HS1).2.2 nofun (by have := unhide HN; omega) (by omega))
    rw [Bool.true_or] at HM
    go_wp2_with fail
    refine (unhide HM).mono ?_
    rintro e x2 ⟨rfl, r2, k2⟩
    have HS2 := hide ((unhide HS1).keep1 k2 r2)
    clear k2 r2 HM HS1
    have HM := hide (num_rf b (Q1 + 16) 16 true s x2 (unhide HS2).2.2 nofun (by have := unhide HN; omega) (by omega))
    obtain ⟨X, hX⟩ : ∃ X, numB s / 2 ^ Q1 % 2 ^ 16 = X := ⟨_, rfl⟩
    obtain ⟨Y, hY⟩ : ∃ Y, numB s / 2 ^ (Q1 + 16) % 2 ^ 16 = Y := ⟨_, rfl⟩
    have hXI : (X : Int) ≤ 65535 := by
      have : numB s / 2 ^ Q1 % 2 ^ 16 < 65536 := Nat.mod_lt _ (by decide)
      omega
    have hYI : (Y : Int) ≤ 65535 := by
      have : numB s / 2 ^ (Q1 + 16) % 2 ^ 16 < 65536 := Nat.mod_lt _ (by decide)
      omega
    rw [Bool.true_or, hY] at HM
    rw [hX]
    clear hX hY
    go_wp2_with fail
    refine (unhide HM).mono ?_
    rintro e x3 ⟨rfl, r3, k3⟩
    have HS3 := hide ((unhide HS2).keep1 k3 r3)
    clear k3 r3 HM HS2
    obtain ⟨c3, f3⟩ := (unhide HS3).2.2.bad
    by_cases hYX : Y = 65535 - X
    · have g1 : (Y : Int) = 65535 - (X : Int) := by omega
      by_cases hX3 : 300 < X
      · have gI : (300 : Int) < (X : Int) := by omega
        clear hYX hX3
        have HSx0 := hide (unhide HS3).setBad
        go_wp2_with fail
        generalize x3.setCell ⟨b, 2, none⟩ (.bool true) = XW at *
        have HSx := hide (unhide HSx0)
        have c4 := (unhide HSx).2.2.bad.1
        go_loopw [1, 6] (fun v i wr => v = .slice a n cap ∧ i = .int .i64 0 ∧ wr = XW) (fun _ _ _ => 0)
        case atStart => exact ⟨rfl, rfl, rfl⟩
        case round =>
          obtain ⟨rfl, rfl, rfl⟩ := hrel
          by_cases h0 : 0 < X
          · have h0I : (0 : Int) < (X : Int) := by omega
            go_wp2
            go_ret
            exact (unhide HSx).end (MR.bad (unhide Hd))
          · have h0I : ¬ (0 : Int) < (X : Int) := by omega
            go_wp2
            go_ret
            exact (unhide HSx).end (MR.bad (unhide Hd))
      · have gI : ¬ (300 : Int) < (X : Int) := by omega
        clear hYX hX3
        have HSx0 := HS3
        obtain ⟨XW, hXW⟩ : ∃ XW, x3 = XW := ⟨_, rfl⟩
        subst hXW
        go_wp2_with fail
        have HSx := hide (unhide HSx0)
        have c4 := (unhide HSx).2.2.bad.1
        go_loopw [1, 6] (fun v i wr => v = .slice a n cap ∧ i = .int .i64 0 ∧ wr = x3) (fun _ _ _ => 0)
        case atStart => exact ⟨rfl, rfl, rfl⟩
        case round =>
          obtain ⟨rfl, rfl, rfl⟩ := hrel
          by_cases h0 : 0 < X
          · have h0I : (0 : Int) < (X : Int) := by omega
            go_wp2
            go_ret
            exact (unhide HSx).end (MR.bad (unhide Hd))
          · have h0I : ¬ (0 : Int) < (X : Int) := by omega
            go_wp2
            go_ret
            exact (unhide HSx).end (MR.bad (unhide Hd))
    · have g1 : ¬ (Y : Int) = 65535 - (X : Int) := by omega
      clear hYX
      have HSx0 := hide (unhide HS3).setBad
      go_wp2_with fail
      generalize x3.setCell ⟨b, 2, none⟩ (.bool true) = XW at *
      have HSx := hide (unhide HSx0)
      have c4 := (unhide HSx).2.2.bad.1
      go_loopw [1, 6] (fun v i wr => v = .slice a n cap ∧ i = .int .i64 0 ∧ wr = XW) (fun _ _ _ => 0)
      case atStart => exact ⟨rfl, rfl, rfl⟩
      case round =>
        obtain ⟨rfl, rfl, rfl⟩ := hrel
        by_cases h0 : 0 < X
        · have h0I : (0 : Int) < (X : Int) := by omega
          go_wp2
          go_ret
          exact (unhide HSx).end (MR.bad (unhide Hd))
        · have h0I : ¬ (0 : Int) < (X : Int) := by omega
          go_wp2
          go_ret
          exact (unhide HSx).end (MR.bad (unhide Hd))
set_option maxRecDepth 100000 in
set_option maxHeartbeats 1600000 in
theorem tokensB_any (b p P n cap nL capL nD capD : Nat) (a al ad : Option Addr) (s : ByteArray) (T : List UInt8) (L D : List Int) (d : Option (List UInt8 × Nat)) (w : World) (ho : BOwn w (b + 1) (.slice a n cap) T) (hr : RF w b s p true) (hd : T.length ≤ 300 → d = none)
    (hL : L.length = nL) (hD : D.length = nD) (okL : lensOk L = true) (okD : lensOk D = true) (jL : JRow w (b + 1) al L) (jD : JRow w (b + 1) ad D) :
    Calls Tryz.prog 117 #[.pointer (some ⟨b, 0, none⟩), .slice a n cap, .slice al nL capL, .slice ad nD capD] w (MP w b P s T d) := by
  have hlt := hr.lt
  have lL := lensOk_len okL
  have lD := lensOk_len okD
  have HS0 : Hid (MS w b s w (.slice a n cap) T p true) := ⟨KU.refl _ _, ho, hr⟩
  have C1 := hide (l3Codes_any al capL nL L w hL jL.1 (by omega))
  have C2 := hide (fun W (hW : Below w.heap.size w W) => l3Codes_any ad capD nD D W hD (jD.later hW).1 (by omega))
  have Hd := hide hd
  clear ho hr hL hD okL okD jL jD hd
  go_enter Tryz.func117, Tryz.ntmps117
  go_wp2_with fail
  refine (unhide C1).mono ?_
  rintro e x1 ⟨rfl, o1, b1⟩
  have HB1 := hide b1
  clear o1 b1 C1
  go_wp2_with fail
  refine (unhide C2 x1 (unhide HB1)).mono ?_
  rintro e x2 ⟨rfl, o2, b2⟩
  have hB : Below w.heap.size w x2 := (unhide HB1).trans (b2.mono (unhide HB1).size)
  have hS2 : MS w b s x2 (.slice a n cap) T p true := ⟨(unhide HS0).1.later hB hlt, (unhide HS0).2.1.later hB (Nat.le_refl _), (unhide HS0).2.2.kept (hB.mono hlt)⟩
  have HS2 := hide hS2
  obtain ⟨c2, f2⟩ := hS2.2.2.bad
  have hltb := hS2.lt
  clear o2 b2 C2 hB hS2 HS0 HB1
  go_wp2_with fail
  go_loopw [1, 11] (fun v _ wr => v = .slice a n cap ∧ wr = x2) (fun _ _ _ => 0)
  case atStart => exact ⟨rfl, rfl⟩
  case round =>
    obtain ⟨rfl, rfl⟩ := hrel
    go_wp2
    go_ret
    exact ((unhide HS2).setBad).end (MR.bad (unhide Hd))
end Go.Proofs.YtfpnnlekblamhaaGreatDoor
namespace Go.Proofs.YtfpnnlekblamhaaGreatDoor
open Go.RowKit Corb
def partD (V sz p : Nat) (T : List UInt8) : Option (List UInt8 × Nat) := (rdN V sz p 1).bind fun a => (rdN V sz a.2 2).bind fun k => kindG V sz k.1 k.2 T
theorem partD_yes {V sz p : Nat} {T : List UInt8} (h : p + 1 + 2 ≤ sz) : partD V sz p T = kindG V sz (V / 2 ^ (p + 1) % 2 ^ 2) (p + 1 + 2) T := by
  unfold partD
  rw [rdN_yes (by omega)]
  simp only [Option.bind_some]
  rw [rdN_yes h]
  rfl
theorem partD_no {V sz p : Nat} {T : List UInt8} (h : ¬ p + 1 + 2 ≤ sz) : partD V sz p T = none := by
  unfold partD
  by_cases h1 : p + 1 ≤ sz
  · rw [rdN_yes h1]
    simp only [Option.bind_some]
    rw [rdN_no h]
    rfl
  · rw [rdN_no h1]
    rfl
theorem kind_past {s : ByteArray} {p : Nat} (h : ¬ p + 1 + 2 ≤ 8 * s.size) : numB s / 2 ^ (p + 1) % 2 ^ 2 < 2 := by
  have h1 := numB_past s (p + 2) (by omega)
  rw [show p + 2 = p + 1 + 1 by omega, Nat.pow_succ, ← Nat.div_div_eq_div_mul] at h1
  generalize numB s / 2 ^ (p + 1) = x at *
  omega
theorem MR.from {sz p p' q : Nat} {T T' : List UInt8} {d : Option (List UInt8 × Nat)} {f : Bool} (h : MR sz p T d T' q f) (hp : p' ≤ p) : MR sz p' T d T' q f := ⟨fun hf => ⟨(h.1 hf).1, Nat.le_trans hp (h.1 hf).2.1, (h.1 hf).2.2⟩, h.2⟩
def PmP (w : World) (b p : Nat) (s : ByteArray) (T : List UInt8) (l : Bool) (d : Option (List UInt8 × Nat)) (e : Ending) (w' : World) : Prop :=
  KU b w w' ∧ ∃ v T' q f, e = .returned (.tuple #[v, .bool l]) ∧ BOwn w' (b + 1) v T' ∧ RF w' b s q f ∧ MR (8 * s.size) p T d T' q f
theorem MP.part {w x x' : World} {b p p' : Nat} {s : ByteArray} {T : List UInt8} {l : Bool} {d : Option (List UInt8 × Nat)} {v : Value} (h : MP x b p s T d (.returned v) x') (hk : KU b w x) (hp : p' ≤ p) : PmP w b p' s T l d (.returned (.tuple #[v, .bool l])) x' := by
  obtain ⟨h1, v', T', q, f, e, h2, h3, h4⟩ := h
  simp only [Ending.returned.injEq] at e
  subst e
  exact ⟨hk.trans h1, v, T', q, f, rfl, h2, h3, h4.from hp⟩
theorem storedX_any (b p n cap : Nat) (a : Option Addr) (s : ByteArray) (T : List UInt8) (d : Option (List UInt8 × Nat)) (w : World) (hn : T.length = n) (ho : BOwn w (b + 1) (.slice a n cap) T) (hr : Rdr w b s p) (hs : s.size ≤ 2000) (hT : n ≤ 300 + p) (hd : d = if p ≤ 8 * s.size then storeG (numB s) (8 * s.size) p T else none) :
    Calls Tryz.prog 116 #[.pointer (some ⟨b, 0, none⟩), .slice a n cap] w (MP w b p s T d) := by
  by_cases hp : p ≤ 8 * s.size
  · rw [hd, if_pos hp]
    exact stored_any b p n cap a s T w hn ho hr hp hs hT
  · have h1 := rdr_rf hr
    rw [decide_eq_true (by omega)] at h1
    exact storedB_any b p n cap a s T d w ho h1 hs (fun _ => by rw [hd, if_neg hp]) p
theorem tokensX_any (b p n cap nL capL nD capD : Nat) (a al ad : Option Addr) (s : ByteArray) (T : List UInt8) (L D : List Int) (d : Option (List UInt8 × Nat)) (w : World) (hn : T.length = n) (ho : BOwn w (b + 1) (.slice a n cap) T) (hr : Rdr w b s p) (hs : s.size ≤ 2000) (hT : n ≤ 100000) (hd : d = if p ≤ 8 * s.size then tokG (numB s) (8 * s.size) L D p T else none)
    (hL : L.length = nL) (hD : D.length = nD) (okL : lensOk L = true) (okD : lensOk D = true) (jL : JRow w (b + 1) al L) (jD : JRow w (b + 1) ad D) :
    Calls Tryz.prog 117 #[.pointer (some ⟨b, 0, none⟩), .slice a n cap, .slice al nL capL, .slice ad nD capD] w (MP w b p s T d) := by
  by_cases hp : p ≤ 8 * s.size
  · by_cases hT3 : n ≤ 300
    · rw [hd, if_pos hp]
      exact tokensG_any b p n cap nL capL nD capD a al ad s T L D w hn ho hr hp hs hT3 hL hD okL okD jL jD
    · exact tokensD_any b p n cap nL capL nD capD a al ad s T L D d w hn ho hr hp (by omega) hT hL hD okL okD jL jD
  · have h1 := rdr_rf hr
    rw [decide_eq_true (by omega)] at h1
    exact tokensB_any b p p n cap nL capL nD capD a al ad s T L D d w ho h1 (fun _ => by rw [hd, if_neg hp]) hL hD okL okD jL jD
theorem BOwn.ki {w x : World} {b base : Nat} {v : Value} {T : List UInt8} (h : BOwn w base v T) (hk : KI b w.heap.size w x) (hb : b < base) : BOwn x base v T := by
  refine ⟨h.1, ?_⟩
  rcases h.2 with hn | ⟨g, cap, cur, rfl, hbg, hgg, rest⟩
  · exact .inl hn
  · have hlt := (Array.getElem?_eq_some_iff.1 hgg).1
    refine .inr ⟨g, cap, cur, rfl, hbg, ?_, rest⟩
    rw [hk.2 g hlt (by omega) hlt]
    exact hgg
set_option maxRecDepth 100000 in
set_option maxHeartbeats 3200000 in
theorem partM_any (b p n cap : Nat) (a : Option Addr) (s : ByteArray) (T : List UInt8) (w : World) (hn : T.length = n) (ho : BOwn w (b + 1) (.slice a n cap) T) (hr : Rdr w b s p) (hp : p ≤ 8 * s.size) (hs : s.size ≤ 2000) (hT : n ≤ 300 + p) :
    Calls Tryz.prog 100 #[.pointer (some ⟨b, 0, none⟩), .slice a n cap] w (PmP w b (p + 1 + 2) s T (decide (((numB s / 2 ^ p % 2 : Nat) : Int) = 1)) (partD (numB s) (8 * s.size) p T)) := by
  obtain ⟨d, hd⟩ : ∃ d, partD (numB s) (8 * s.size) p T = d := ⟨_, rfl⟩
  rw [hd]
  obtain ⟨X, hX⟩ : ∃ X, numB s / 2 ^ p % 2 = X := ⟨_, rfl⟩
  obtain ⟨K, hK⟩ : ∃ K, numB s / 2 ^ (p + 1) % 2 ^ 2 = K := ⟨_, rfl⟩
  have hK4 : K < 4 := by rw [← hK]; exact Nat.mod_lt _ (by decide)
  have hDk : Hid (d = if p + 1 + 2 ≤ 8 * s.size then kindG (numB s) (8 * s.size) K (p + 1 + 2) T else none) := by
    show d = _
    rw [← hd]
    by_cases hc : p + 1 + 2 ≤ 8 * s.size
    · rw [if_pos hc, partD_yes hc, hK]
    · rw [if_neg hc, partD_no hc]
  have HKP : Hid (¬ p + 1 + 2 ≤ 8 * s.size → K < 2) := fun h => by rw [← hK]; exact kind_past h
  have N1 := hide (srcBit_any b p s w hr (by omega))
  have N2 := hide (fun W (h : Rdr W b s (p + 1)) => srcNum_any b (p + 1) 2 s W h (by omega) (by omega))
  rw [hX] at N1
  rw [hK] at N2
  rw [hX]
  have hXI : (X : Int) ≤ 1 := by rw [← hX]; omega
  have HN : Hid (T.length = n ∧ s.size ≤ 2000 ∧ n ≤ 300 + p ∧ p ≤ 8 * s.size) := ⟨hn, hs, hT, hp⟩
  have HO := hide ho
  have hlt := hr.lt
  have hnI : (n : Int) ≤ 100000 := by omega
  clear hn ho hr hp hs hT hd hX hK
  go_enter Tryz.func100, Tryz.ntmps100
  go_wp2_with fail
  refine (unhide N1).mono ?_
  rintro e x1 ⟨rfl, r1, k1⟩
  have HX1 := hide (And.intro r1 k1)
  clear r1 k1 N1
  go_wp2_with fail
  refine (unhide N2 x1 (unhide HX1).1).mono ?_
  rintro e x2 ⟨rfl, r2, k2⟩
  have HX2 := hide (And.intro r2 ((unhide HX1).2.trans k2))
  have HO2 := hide ((unhide HO).keep1 (unhide HX2).2 (Nat.lt_succ_self _))
  clear r2 k2 N2 HX1 HO
  generalize hP : p + 1 + 2 = P at *
  have hlt2 := (unhide HX2).1.lt
  have hKc : K = 0 ∨ K = 1 ∨ K = 2 ∨ K = 3 := by omega
  rcases hKc with rfl | rfl | rfl | rfl
  · have HC := hide (storedX_any b P n cap a s T d x2 (unhide HN).1 (unhide HO2) (unhide HX2).1 (unhide HN).2.1 (by have := unhide HN; omega) (unhide hDk))
    go_wp2_with fail
    refine (unhide HC).mono ?_
    rintro e x3 hM
    obtain ⟨v, rfl⟩ : ∃ v, e = .returned v := ⟨_, hM.2.choose_spec.choose_spec.choose_spec.choose_spec.1⟩
    have HM := hide hM
    clear hM HC
    go_wp2
    go_ret2
    exact (unhide HM).part (unhide HX2).2.ku (Nat.le_refl _)
  · have C1 := hide (l5Fixed_any x2)
    go_wp2_with fail
    refine (unhide C1).mono ?_
    rintro e x3 ⟨v3, rfl, o3, b3⟩
    have l3 : (fixL 288).length = 288 := by kernel_rfl
    obtain ⟨a3, c3, rfl⟩ := o3.formN l3
    have J3 := hide ((own_jrow l3 (o3.own l3)).mono (b' := b + 1) hlt2)
    have R3 := hide (And.intro ((unhide HX2).1.kept (b3.mono hlt2)) ((unhide HX2).2.later b3 hlt2))
    have O3 := hide ((unhide HO2).later b3 (Nat.le_refl _))
    have hlt3 := (unhide R3).1.lt
    have C2 := hide (l5Fives_any x3)
    clear C1 o3 b3 HX2 HO2 l3
    go_wp2_with fail
    refine (unhide C2).mono ?_
    rintro e x4 ⟨v4, rfl, o4, b4⟩
    have l4 : (List.replicate 32 (5 : Int)).length = 32 := by simp
    obtain ⟨a4, c4, rfl⟩ := o4.formN l4
    have HC := hide (tokensX_any b P n cap 288 c3 32 c4 a a3 a4 s T (fixL 288) (List.replicate 32 5) d x4 (unhide HN).1 ((unhide O3).later b4 (Nat.le_refl _)) ((unhide R3).1.kept (b4.mono hlt3)) (unhide HN).2.1 (by have := unhide HN; omega) (unhide hDk) (by kernel_rfl) l4 fixL_ok fives_ok ((unhide J3).later b4) ((own_jrow l4 (o4.own l4)).mono (b' := b + 1) hlt3))
    have HK4 := hide ((unhide R3).2.later b4 hlt3)
    clear C2 o4 b4 R3 O3 J3 l4
    go_wp2_with fail
    refine (unhide HC).mono ?_
    rintro e x5 hM
    obtain ⟨v, rfl⟩ : ∃ v, e = .returned v := ⟨_, hM.2.choose_spec.choose_spec.choose_spec.choose_spec.1⟩
    have HM := hide hM
    clear hM HC
    go_wp2
    go_ret2
    exact (unhide HM).part (unhide HK4).ku (Nat.le_refl _)
  · have hPs : P ≤ 8 * s.size := by
      by_cases h : P ≤ 8 * s.size
      · exact h
      · have := unhide HKP h; omega
    have C1 := hide (lensR_any b P s x2 (unhide HX2).1 hPs (unhide HN).2.1)
    have hDk2 : Hid (d = (lensG (numB s) (8 * s.size) P).bind fun x => tokG (numB s) (8 * s.size) (x.2.1.take x.1) (x.2.1.drop x.1) x.2.2 T) := by
      show d = _
      rw [unhide hDk, if_pos hPs, ← ownG_lens]
      rfl
    clear hDk hPs
    go_wp2_with fail
    refine (unhide C1).mono ?_
    rintro e x3 ⟨k3, va, vb, q, f, rfl, r3, ht, hf⟩
    have O3 := hide ((unhide HO2).ki k3 (Nat.lt_succ_self _))
    have K3 := hide ((unhide HX2).2.ku.trans k3.ku)
    obtain ⟨c3, f3⟩ := r3.bad
    have hlt3 := r3.lt
    cases f
    · obtain ⟨nL, nD, A, al, cl, ad, cd, rfl, rfl, hG, hA, jL, jD⟩ := hf rfl
      obtain ⟨g1, g2, g3, g4⟩ := lensG_bd hG
      have hdd : d = if q ≤ 8 * s.size then tokG (numB s) (8 * s.size) (A.take nL) (A.drop nL) q T else none := by rw [unhide hDk2, hG, if_pos g1]; rfl
      have HC := hide (tokensX_any b q n cap nL cl nD cd a al ad s T (A.take nL) (A.drop nL) d x3 (unhide HN).1 (unhide O3) (rf_rdr r3 g1) (unhide HN).2.1 (by have := unhide HN; omega) hdd (by rw [List.length_take]; omega) (by rw [List.length_drop]; omega) g3 g4 jL jD)
      have HPq := hide g2
      clear C1 k3 r3 ht hf hG hA jL jD g1 g2 g3 g4 hdd
      go_wp2_with fail
      refine (unhide HC).mono ?_
      rintro e x5 hM
      obtain ⟨v, rfl⟩ : ∃ v, e = .returned v := ⟨_, hM.2.choose_spec.choose_spec.choose_spec.choose_spec.1⟩
      have HM := hide hM
      clear hM HC
      go_wp2
      go_ret2
      exact (unhide HM).part (unhide K3) (unhide HPq)
    · have Hn : Hid (d = none) := by show d = none; rw [unhide hDk2, ht rfl]; rfl
      have R3 := hide r3
      clear C1 k3 r3 ht hf
      go_wp2
      go_ret2
      exact ⟨unhide K3, _, T, q, true, rfl, unhide O3, unhide R3, MR.bad (fun _ => unhide Hn)⟩
  · have Hn : Hid (d = none) := by
      show d = none
      rw [unhide hDk]
      split
      · unfold kindG; rw [if_neg (by decide), if_neg (by decide), if_neg (by decide)]
      · rfl
    have hS2 : MS w b s x2 (.slice a n cap) T P (decide (8 * s.size < P)) := ⟨(unhide HX2).2.ku, unhide HO2, rdr_rf (unhide HX2).1⟩
    obtain ⟨c2, f2⟩ := hS2.2.2.bad
    have HS2 := hide hS2
    clear hS2
    go_wp2
    go_ret2
    exact ⟨(unhide HS2).setBad.1, _, T, P, true, rfl, (unhide HS2).setBad.2.1, (unhide HS2).setBad.2.2, MR.bad (fun _ => unhide Hn)⟩
end Go.Proofs.YtfpnnlekblamhaaGreatDoor
