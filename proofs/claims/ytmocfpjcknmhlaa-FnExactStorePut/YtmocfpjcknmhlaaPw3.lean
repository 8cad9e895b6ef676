/- The contract of the program's BitsPut, over this seat's program. -/
import Derived.Test.YtmocfpjcknmhlaaIi1
import Derived.Test.YtmocfpjcknmhlaaPw2
namespace Go.Proofs.Ytmocfpjcknmhlaa
open Go.RowKit Corb

/-- A row of ints of the call's own, behind block b. -/
def Ints (w : World) (b : Nat) (v : Value) (xs : List Int) : Prop := w.ownsRow (b + 1) 3 1 v xs.length (xs.map (Value.int .i64))

theorem Ints.keep {w w' : World} {b : Nat} {v : Value} {xs : List Int} (h : Ints w b v xs) (hk : Keep5 b w w') : Ints w' b v xs := by
  refine ⟨h.1, ?_⟩
  rcases h.2 with e | ⟨g, cap, cur, e, hb, hg, hr⟩
  · exact .inl e
  · refine .inr ⟨g, cap, cur, e, hb, ?_, hr⟩
    rw [hk.2 g (Array.getElem?_eq_some_iff.1 hg).1 (by omega) (fun cur' fr => by rw [hg]; simp)]
    exact hg
theorem Bys.other {w w' : World} {b c : Nat} {v o : Value} {l : List UInt8} {xs : List Int} (h : Bys w b v l) (ho : Ints w c o xs) (hg : w.grownBy w' o.ownBlock) : Bys w' b v l := by
  refine World.ownsRow.kept h hg ?_
  cases hv : v.ownBlock with
  | none => exact .inl rfl
  | some k =>
    refine .inr (fun e => ?_)
    rcases h.2 with ⟨e1, _⟩ | ⟨g, cap, cur, e1, _, hg1, _⟩
    · subst e1; simp [Value.ownBlock] at hv
    · rcases ho.2 with ⟨e2, _⟩ | ⟨g2, cap2, cur2, e2, _, hg2, _⟩
      · subst e2; simp [Value.ownBlock] at e
      · subst e1 e2
        simp only [Value.ownBlock, Option.some.injEq] at hv e
        subst hv
        subst e
        rw [hg1] at hg2
        simp at hg2
theorem WOut.alloc {w : World} {b V m : Nat} (h : WOut w b V m) (o : Obj) : WOut (w.alloc o) b V m := by
  obtain ⟨hV, v, ht, hy⟩ := h
  exact ⟨hV, v, ht.kept ((Below.refl _ _).alloc (by have := ht.2.2.2.2; omega) _), World.ownsRow.alloc hy _⟩
theorem WOut.other {w w' : World} {b V m : Nat} {o : Value} {xs : List Int} (h : WOut w b V m) (ho : Ints w b o xs) (hg : w.grownBy w' o.ownBlock) : WOut w' b V m := by
  obtain ⟨hV, v, ht, hy⟩ := h
  exact ⟨hV, v, ht.kept ((Below.refl _ _).grown hg (by have := ht.2.2.2.2; omega) (fun k hk => (World.ownsRow.lt ho k hk).1)), hy.other ho hg⟩
theorem WOut.lt {w : World} {b V m : Nat} (h : WOut w b V m) : b < w.heap.size := by
  obtain ⟨hV, v, ht, hy⟩ := h
  exact ht.2.2.2.2

theorem methPassW (a : Addr) (w : World) : (method 163 35 (.pointer (some a)) "loop.example/corbel/impl.pass").run Try.prog w = .ok (31, .pointer (some a)) w := by kernel_rfl

set_option maxHeartbeats 3200000 in
theorem eachW_any (b : Nat) (a : Option Addr) (cap : Nat) (l : List (Int × Int)) (w0 w : World) (h : PRow w0 a l) (h0 : Below b w0 w) (hs : w0.heap.size ≤ b) (hok : lOk l = true) (hw : WOut w b 0 0) :
    Calls Try.prog 15 #[.slice a l.length cap, .func (.method "loop.example/corbel/impl.pass") #[.iface 35 (.pointer (some ⟨b, 0, none⟩))] #[]] w fun e w' =>
      (∃ v, e = .returned v) ∧ WOut w' b (valP l).1 (valP l).2 ∧ Below b w w' := by
  simp only [lOk, Bool.and_eq_true, decide_eq_true_iff] at hok
  obtain ⟨hall, h4⟩ := hok
  have hall' := hide hall
  have H4 := hide h4
  have h4' : (l.length : Int) ≤ 4000 := by omega
  clear hall h4
  obtain ⟨i0, hi, hz0, hz1, hz2⟩ := info_parts Try.infoInt
  have mp := methPassW ⟨b, 0, none⟩
  go_enter Try.func15, Try.ntmps15
  go_wp2_with fail
  go_loopw [5, 7, 10] (fun o _ i wr => ∃ (k : Nat) (xs : List Int), k ≤ l.length ∧ i = .int .i64 k ∧ xs.length = k ∧ Ints wr b o xs ∧ WOut wr b (valP (l.take k)).1 (valP (l.take k)).2 ∧ Below b w wr) (fun _ _ i _ => l.length - (intOf i).toNat)
  case atStart => exact ⟨0, [], Nat.zero_le _, rfl, rfl, World.ownsRow_nil _ _ _ _, hw, Below.refl _ _⟩
  case round =>
    obtain ⟨k, xs, hk, rfl, hxs, hints, hout, hbel⟩ := hrel
    have hltb := hout.lt
    by_cases hlt : k < l.length
    · obtain ⟨g, o, rfl, hg, hc⟩ := (h.below hs (h0.trans hbel)) (by omega)
      obtain ⟨c0, c1⟩ := hc k hlt
      have hmb := valP_bits (l.take k) (allOk_take_true (unhide hall') k)
      obtain ⟨s0, s1⟩ := sum_bd (allOk_take_true (unhide hall') k)
      have s2 : ((l.take k).length : Int) ≤ 4000 := by simp; omega
      have hml : Hid ((valP (l.take k)).2 ≤ 64000) := by show (valP (l.take k)).2 ≤ 64000; omega
      have hpk := hide (allOk_get (unhide hall') k hlt)
      have hstep := hide (valP_take l k hlt)
      have HK := hide hk
      have HX := hide hxs
      clear hmb s0 s1 s2 hc hk hxs hw
      generalize (l.getD k (0, 0)).1 = x at *
      generalize (l.getD k (0, 0)).2 = y at *
      generalize valP (l.take k) = S at *
      go_wp2_with fail
      refine (pass_any b S.1 S.2 x y _ (hout.alloc _) (unhide hpk) (by have := unhide hml; omega)).mono ?_
      rintro e w1 ⟨rfl, hout1, hbel1, hkp1⟩
      have hints1 : Ints w1 b u5 xs := Ints.keep (World.ownsRow.alloc hints _) hkp1
      have hbel2 := (hbel.alloc (Nat.le_of_lt hltb) (.cells #[.int .i64 x, .int .i64 y] 27)).trans hbel1
      have hlt1 := hout1.lt
      clear hout hints hbel hbel1 hkp1
      go_wp2_with (at_builtin; refine wpList_append_own _ rfl _ _ 38 rfl (b + 1) 3 i0 (.int .i64 0) 1 8 Try.underlying38 hi hz0 hz1 hz2 rfl (by decide) _ _ _ rfl (World.ownsRow.alloc hints1 _) ⟨w1.heap.size, 0, none⟩ 1 1 [.int .i64 x] rfl rfl (by intro j u hj; match j, hj with | 0, hj => simp at hj; subst hj; simp [Addr.add]) (by intro u hu; simp at hu; subst hu; rfl) (by have := unhide HX; have := unhide H4; unfold maxLen; omega) (by have := unhide HX; have := unhide H4; omega) (by simp; omega) ?_; intro v' w2 hown hgrow hnil; clear hnil)
      have hout2 : WOut w2 b _ _ := (hout1.alloc (.cells #[.int .i64 x] 3)).other (World.ownsRow.alloc hints1 _) hgrow
      have hints2 : Ints w2 b v' (xs ++ [x]) := by
        show World.ownsRow _ _ _ _ _ (xs ++ [x]).length _
        simpa using hown
      have hbel3 : Below b w w2 := (hbel2.alloc (Nat.le_of_lt hlt1) _).grown hgrow (by simp; omega) (fun j hj => Nat.le_of_lt (World.ownsRow.lt hints1 j hj).1)
      clear hown hgrow hints1 hout1 hbel2
      go_wp2
      go_roundw
      case rel => exact ⟨k + 1, xs ++ [x], by have := unhide HK; omega, by go_num, by have := unhide HX; simp; omega, hints2, by rw [unhide hstep]; exact hout2, hbel3⟩
      case measure => simp [intOf]; omega
    · have hlk : Hid (l.take k = l) := List.take_of_length_le (by omega)
      clear h hw
      obtain ⟨va, vc, rfl⟩ : ∃ va vc, u5 = .slice va xs.length vc := by
        rcases hints.2 with ⟨e, h0⟩ | ⟨g, cp, _, e, _⟩
        · exact ⟨none, 0, by rw [e, h0]⟩
        · exact ⟨_, cp, e⟩
      go_wp2
      go_ret
      rw [unhide hlk] at hout
      exact ⟨⟨_, rfl⟩, hout, hbel⟩

set_option maxHeartbeats 800000 in
theorem walkW_any (b : Nat) (a : Option Addr) (cap : Nat) (l : List (Int × Int)) (w0 w : World) (h : PRow w0 a l) (h0 : Below b w0 w) (hs : w0.heap.size ≤ b) (hok : lOk l = true) (hw : WOut w b 0 0) :
    Calls Try.prog 12 #[.iface 35 (.pointer (some ⟨b, 0, none⟩)), .slice a l.length cap] w fun e w' =>
      (∃ v, e = .returned v) ∧ WOut w' b (valP l).1 (valP l).2 ∧ Below b w w' := by
  go_enter Try.func12, Try.ntmps12
  go_wp2_with fail
  refine (eachW_any b a cap l w0 _ h h0 hs hok hw).mono ?_
  rintro e w1 ⟨⟨v, rfl⟩, hout, hbel⟩
  go_wp2
  go_ret
  exact ⟨⟨_, rfl⟩, hout, hbel⟩

theorem wout_new (w : World) (t : TypeId) : WOut (w.alloc (.cells #[.slice none 0 0, .int .i64 0] t)) w.heap.size 0 0 :=
  ⟨by decide, .slice none 0 0, ⟨by simp, by simp, by simp, by simp, by simp⟩, World.ownsRow_nil _ _ _ _⟩

set_option maxHeartbeats 800000 in
theorem implBitsPut_any (a : Option Addr) (cap : Nat) (l : List (Int × Int)) (w : World) (h : PRow w a l) (hm : l.length ≤ 1000000000) :
    Calls Try.prog 8 #[.slice a l.length cap] w fun e w' => e = .returned (.string ⟨(putS l).toArray⟩) ∧ Below w.heap.size w w' := by
  cases hok : lOk l
  · have HI := hide (putS_no hok)
    have HL := longI_no hok
    go_enter Try.func8, Try.ntmps8
    go_wp2_with (go_at_call 11; refine (implBitsLong_any _ _ _ _ h hm).mono ?_; rintro e w1 ⟨rfl, hb1⟩; rw [HL])
    go_ret
    exact ⟨ret_str (a := []) (unhide HI).symm, hb1⟩
  · have HI := hide (putS_yes hok)
    have HL := longI_yes hok
    have hall : allOk l = true := by simp only [lOk, Bool.and_eq_true] at hok; exact hok.1
    obtain ⟨s0, _⟩ := sum_bd hall
    generalize sumBits l = sb at *
    clear hall
    go_enter Try.func8, Try.ntmps8
    go_wp2_with fail
    refine (implBitsLong_any _ _ _ _ h hm).mono ?_
    rintro e w1 ⟨rfl, hb1⟩
    rw [HL]
    clear HL
    have h1 := h.later hb1
    go_wp2_with fail
    refine (walkW_any w1.heap.size a cap l w1 _ h1 ((Below.refl _ _).alloc (Nat.le_refl _) _) (Nat.le_refl _) hok (wout_new w1 _)).mono ?_
    rintro e w2 ⟨⟨v0, rfl⟩, ⟨_, v, T, Y⟩, hb2⟩
    have hconv := conv_bytes Y
    obtain ⟨va, vc, rfl⟩ := Y.form
    obtain ⟨k0, k1, f0, f1, hb3⟩ := T
    clear k1 Y
    generalize hres : (leS (((valP l).2 + 7) / 8) (valP l).1) = res at *
    have HR : Hid (res = putS l) := by have h := unhide HI; rw [h, ← hres]; exact rfl
    clear hres
    go_wp2
    go_ret
    exact ⟨ret_str (unhide HR), bnext hb1 (((Below.refl _ _).alloc (Nat.le_refl _) _).trans hb2)⟩

end Go.Proofs.Ytmocfpjcknmhlaa
