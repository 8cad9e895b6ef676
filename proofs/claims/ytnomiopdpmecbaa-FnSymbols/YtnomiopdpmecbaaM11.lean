/- Of what the proof is made: 3 texts, one behind the other. -/
import Derived.Test.YtnomiopdpmecbaaM10
import Derived.Maps.AppendAt
/- Symbols read by a code: the model's, over this seat's program. -/
namespace Go.Proofs.Ytnomiopdpmecbaa
open Go.RowKit Corb

theorem IOwn.keep1 {w w' : World} {base R : Nat} {v : Value} {l : List Int} (h : IOwn w base v l) (hk : Keep1 R w w') (hne : v.ownBlock ≠ some R) : IOwn w' base v l := by
  refine ⟨h.1, ?_⟩
  rcases h.2 with hn | ⟨g, cap, cur, rfl, hbg, hgg, rest⟩
  · exact .inl hn
  · refine .inr ⟨g, cap, cur, rfl, hbg, ?_, rest⟩
    rw [hk.2 g (Array.getElem?_eq_some_iff.1 hgg).1 (by intro e; subst e; exact hne rfl)]
    exact hgg
theorem Three.grown {w w' : World} {b : Nat} {v0 v1 v2 : Value} {row : Option Nat} (h : Three w b v0 v1 v2) (hg : w.grownBy w' row) (hr : row ≠ some b) : Three w' b v0 v1 v2 := by
  obtain ⟨c0, c1, c2, f0, f1, f2, hb⟩ := h
  have he : w'.heap[b]? = w.heap[b]? := hg.block b hb (fun e => hr e.symm)
  exact ⟨(World.cell?_of_block (a := ⟨b, 0, none⟩) he).trans c0, (World.cell?_of_block (a := ⟨b, 1, none⟩) he).trans c1, (World.cell?_of_block (a := ⟨b, 2, none⟩) he).trans c2, (World.frozen?_of_block (a := ⟨b, 0, none⟩) he).trans f0, (World.frozen?_of_block (a := ⟨b, 1, none⟩) he).trans f1, (World.frozen?_of_block (a := ⟨b, 2, none⟩) he).trans f2, Nat.lt_of_lt_of_le hb hg.size⟩
theorem Three.alloc {w : World} {b : Nat} {v0 v1 v2 : Value} (h : Three w b v0 v1 v2) (o : Obj) : Three (w.alloc o) b v0 v1 v2 :=
  h.kept ((Below.refl (b + 1) w).alloc h.2.2.2.2.2.2 o)

set_option maxHeartbeats 6400000 in
theorem specSymbolsGet_any (a : Option Addr) (cap n : Nat) (l : List Int) (s : ByteArray) (m : Int) (w : World) (hn : l.length = n) (h : IRow w a l) (hm : n ≤ 1048576) (hs : s.size ≤ 2000000) :
    Calls Try.prog 16 #[.slice a n cap, .string s, .int .i64 m] w fun e w' => ∃ v, e = .returned (.tuple #[v, .bool (sgOk l s m)]) ∧ IOwn w' w.heap.size v (sgL l s m) ∧ Below w.heap.size w w' := by
  have Hn := hide hn
  have HS := hide hs
  have hB0 : Below w.heap.size w (w.alloc (.cells #[] 3)) := (Below.refl _ _).alloc (Nat.le_refl _) _
  have hp0 : IOwn (w.alloc (.cells #[] 3)) w.heap.size (.slice (some ⟨w.heap.size, 0, none⟩) 0 0) [] := IOwn.lit _ _ (Nat.le_refl _)
  have HL := hide (specLensOk_any a cap n l (w.alloc (.cells #[] 3)) hn (h.later hB0) hm)
  obtain ⟨i0, hi, hz0, hz1, hz2⟩ := info_parts Try.infoInt
  clear hn hm hs
  cases hok : lensOk l
  · have Hr := hide (sg_no1 (s := s) (m := m) (Or.inl hok))
    go_enter Try.func16, Try.ntmps16
    go_wp2_with fail
    refine (unhide HL).mono ?_
    rintro e x1 ⟨rfl, hx⟩
    rw [hx, hok]
    go_wp2
    go_ret2
    exact ⟨_, ret_tup rfl (unhide Hr).1.symm, by rw [(unhide Hr).2]; exact hp0, hB0⟩
  · cases hmb : inB m 0 4000
    · have Hr := hide (sg_no1 (l := l) (s := s) (m := m) (Or.inr hmb))
      go_enter Try.func16, Try.ntmps16
      go_wp2_with fail
      refine (unhide HL).mono ?_
      rintro e x1 ⟨rfl, hx⟩
      rw [hx, hok]
      go_wp2_with fail
      refine (l1In_any _ _ _ _).mono ?_
      rintro e x2 ⟨rfl, hx2⟩
      rw [hx2, hmb]
      go_wp2
      go_ret2
      exact ⟨_, ret_tup rfl (unhide Hr).1.symm, by rw [(unhide Hr).2]; exact hp0, hB0⟩
    · obtain ⟨m0, m1⟩ := inB_true.1 hmb
      obtain ⟨M, rfl⟩ := Int.eq_ofNat_of_zero_le m0
      have hl := lensOk_len hok
      have HC := hide (l3Codes_any a cap n l (w.alloc (.cells #[] 3)) (unhide Hn) (h.later hB0) (by rw [← unhide Hn]; exact hl))
      have hn3 : (n : Int) ≤ 300 := by rw [← unhide Hn]; omega
      have HK := hide hok
      have HMB := hide hmb
      clear hl m0
      go_enter Try.func16, Try.ntmps16
      go_wp2_with fail
      refine (unhide HL).mono ?_
      rintro e x1 ⟨rfl, hx⟩
      rw [hx, hok]
      go_wp2_with fail
      refine (l1In_any _ _ _ _).mono ?_
      rintro e x2 ⟨rfl, hx2⟩
      rw [hx2, hmb]
      clear hx hx2 HL hok hmb
      go_wp2_with fail
      refine (unhide HC).mono ?_
      rintro e x3 ⟨rfl, hc3, hb3⟩
      have hp3 := hp0.later hb3 (Nat.le_refl _)
      have hB3 := bnext hB0 hb3
      clear hp0 hb3 hB0 HC x1 x2
      have hsz1 : (w.alloc (.cells #[] 3)).heap.size = w.heap.size + 1 := by simp
      rw [hsz1] at hc3 ⊢
      have hlt3 := hc3.below.2
      have hr4 := rdr_new x3 s 68
      have hB4 : Below w.heap.size w (x3.alloc (.cells #[.string s, .int .i64 0, .bool false] 68)) := hB3.alloc (by omega) _
      have hp4 : IOwn (x3.alloc (.cells #[.string s, .int .i64 0, .bool false] 68)) w.heap.size (.slice (some ⟨w.heap.size, 0, none⟩) 0 0) [] := hp3.later ((Below.refl x3.heap.size x3).alloc (Nat.le_refl _) _) (Nat.le_refl _)
      have hc4 : IOwn (x3.alloc (.cells #[.string s, .int .i64 0, .bool false] 68)) (w.heap.size + 1) (.slice (some ⟨w.heap.size + 1, 0, none⟩) n n) (outN l 15).2 := hc3.later ((Below.refl x3.heap.size x3).alloc (Nat.le_refl _) _) (Nat.le_refl _)
      have hz4 : x3.heap.size < (x3.alloc (.cells #[.string s, .int .i64 0, .bool false] 68)).heap.size := by simp
      clear hp3 hc3 hB3
      go_wp2_with fail
      generalize x3.alloc (.cells #[.string s, .int .i64 0, .bool false] 68) = x4 at *
      generalize x3.heap.size = R at *
      go_loopw [8, 11] (fun v i wr => ∃ (k : Nat) (L : List Int), k ≤ M ∧ i = .int .i64 k ∧ L.length = k ∧ IOwn wr w.heap.size v L ∧ (∀ g, v.ownBlock = some g → g ≠ w.heap.size + 1 ∧ g ≠ R) ∧ IOwn wr (w.heap.size + 1) (.slice (some ⟨w.heap.size + 1, 0, none⟩) n n) (outN l 15).2 ∧ Below w.heap.size w wr ∧ R < wr.heap.size ∧ ((∃ p, decs l (numB s) (8 * s.size) k = some (L, p) ∧ p ≤ 8 * s.size ∧ Rdr wr R s p) ∨ (decs l (numB s) (8 * s.size) M = none ∧ ∃ u, Three wr R (.string s) u (.bool true)))) (fun _ i _ => M - (intOf i).toNat)
      case atStart => exact ⟨0, [], Nat.zero_le _, rfl, rfl, hp4, fun g e => by simp only [Value.ownBlock, Option.some.injEq] at e; omega, hc4, hB4, hz4, .inl ⟨0, rfl, Nat.zero_le _, hr4⟩⟩
      case round =>
        obtain ⟨k, L, hk, rfl, hLk, hp, hap, hc, hbel, hR, hcase⟩ := hrel
        clear hr4 hB4 hp4 hc4 hz4
        have HAP := hide hap
        have HLK := hide hLk
        have hbs := hbel.size
        clear hap hLk
        rcases hcase with ⟨p, hdecs, hple, hrd⟩ | ⟨hno, u, h3⟩
        · obtain ⟨q0, q1, q2, g0, g1, g2, hb3⟩ := hrd.at hple
          clear q0 q1 g0 g1 g2 hb3
          by_cases hlt : k < M
          · have hd : decide ((k : Int) < (M : Int)) = true := decide_eq_true (by omega)
            have hsl := hide (fun W (hW : Keep1 R wr W) => h.later (hbel.trans (hW.1.mono (show w.heap.size ≤ R by omega))))
            have hsc := hide (fun W (hW : Keep1 R wr W) => (hc.under hW.1 hlt3).rowN ((outN_len l 15).trans (unhide Hn)))
            have HY := hide (symbol_any a (some ⟨w.heap.size + 1, 0, none⟩) cap n n R p l s wr (unhide Hn) (unhide HK) (unhide HS) hrd hple (unhide hsl) (unhide hsc))
            have HD := hide hdecs
            have hlI : (L.length : Int) ≤ 4000 := by have := unhide HLK; omega
            have hlen1 : Hid (L.length + 1 ≤ maxLen ∧ (L.length + 1) * 8 ≤ 140737488355328) := by
              show _ ∧ _
              unfold maxLen
              omega
            have HP := hide hp
            have HCC := hide hc
            have HB := hide hbel
            have HK2 := hide hk
            clear hdecs hple hrd hp hc hbel hk
            go_wp2_with fail
            refine (unhide HY).mono ?_
            rintro e x5 ⟨hk5, hpost⟩
            have hp5 := (unhide HP).keep1 hk5 (fun e => (unhide HAP R e).2 rfl)
            have hc5 := (unhide HCC).under hk5.1 hlt3
            have hB5 := (unhide HB).trans (hk5.1.mono (show w.heap.size ≤ R by omega))
            have h5s := hB5.size
            have hR5 : R < x5.heap.size := Nat.lt_of_lt_of_le hR hk5.1.size
            have hpost' : ∃ x, e = .returned (.int .i64 x) ∧ ((∃ p, decs l (numB s) (8 * s.size) (k + 1) = some (L ++ [x], p) ∧ p ≤ 8 * s.size ∧ Rdr x5 R s p) ∨ (decs l (numB s) (8 * s.size) M = none ∧ ∃ u, Three x5 R (.string s) u (.bool true))) := by
              cases hd2 : dec l (numB s) (8 * s.size) p with
              | none =>
                rw [hd2] at hpost
                obtain ⟨x, v, he, h3⟩ := hpost
                exact ⟨x, he, .inr ⟨decs_none (decs_stop (unhide HD) hd2) hlt, v, h3⟩⟩
              | some iq =>
                obtain ⟨i, q⟩ := iq
                rw [hd2] at hpost
                exact ⟨i, hpost.1, .inl ⟨q, decs_some (unhide HD) hd2, dec_le hd2, hpost.2⟩⟩
            obtain ⟨x, rfl, hnext⟩ := hpost'
            have HNX := hide hnext
            clear hpost hnext HY HP HCC HB hk5
            go_wp2_with (at_builtin; refine wpList_append_own_at _ rfl _ _ 23 rfl w.heap.size 3 i0 (.int .i64 0) 1 8 Try.underlying23 hi hz0 hz1 hz2 rfl (by decide) u8 _ _ rfl (World.ownsRow.alloc hp5 _) ⟨x5.heap.size, 0, none⟩ 1 1 [.int .i64 x] rfl rfl (one_new _ _ rfl _ _) (one_int _) (unhide hlen1).1 (unhide hlen1).2 (size_alloc_le h5s _) ?_; intro v' x6 hown6 hgrow hnil hat; clear hnil)
            have hb6 := grown_step (v := u8) hgrow hp5 (Nat.le_refl w.heap.size) h5s hB5
            have hown7 := iown_snoc hown6
            have hs5 : (x5.alloc (.cells #[.int .i64 x] 3)).heap.size = x5.heap.size + 1 := by simp
            have hap6 : ∀ g, v'.ownBlock = some g → g ≠ w.heap.size + 1 ∧ g ≠ R := by
              intro g e
              rcases hat with h1 | h1
              · exact unhide HAP g (h1 ▸ e)
              · rw [h1, Option.some.injEq] at e
                rw [hs5] at e
                omega
            have hc6 : IOwn x6 (w.heap.size + 1) (.slice (some ⟨w.heap.size + 1, 0, none⟩) n n) (outN l 15).2 := (World.ownsRow.alloc hc5 _).kept hgrow (Or.inr (fun e => (unhide HAP (w.heap.size + 1) e.symm).1 rfl))
            have hR6 : R < x6.heap.size := Nat.lt_of_lt_of_le hR5 (Nat.le_trans (by rw [hs5]; exact Nat.le_succ _) hgrow.size)
            have hnx6 : (∃ p, decs l (numB s) (8 * s.size) (k + 1) = some (L ++ [x], p) ∧ p ≤ 8 * s.size ∧ Rdr x6 R s p) ∨ (decs l (numB s) (8 * s.size) M = none ∧ ∃ u, Three x6 R (.string s) u (.bool true)) := by
              rcases unhide HNX with ⟨q, h1, h2, h3⟩ | ⟨h1, u, h3⟩
              · exact .inl ⟨q, h1, h2, Three.grown (Three.alloc h3 _) hgrow (fun e => (unhide HAP R e).2 rfl)⟩
              · exact .inr ⟨h1, u, Three.grown (Three.alloc h3 _) hgrow (fun e => (unhide HAP R e).2 rfl)⟩
            clear hown6 hgrow hat hp5 hc5
            go_wp2
            go_roundw
            case rel => exact ⟨k + 1, L ++ [x], by have := unhide HK2; omega, by go_num, by rw [List.length_append, unhide HLK]; rfl, hown7, hap6, hc6, hb6, hR6, hnx6⟩
            case measure => simp [intOf]; omega
          · have hkM : k = M := by omega
            subst hkM
            have hd : decide ((k : Int) < (k : Int)) = false := decide_eq_false (by omega)
            have Hr := hide (sg_yes (l := l) (s := s) (m := (k : Int)) (unhide HK) (unhide HMB) (by rw [Int.toNat_natCast]; exact hdecs))
            obtain ⟨va, vc, rfl⟩ := hp.form
            have HOWN := hide hp
            have HB1 := hide hbel
            clear hp hbel hdecs hrd hc
            go_wp2
            go_ret2
            exact ⟨_, ret_tup rfl (unhide Hr).1.symm, by rw [(unhide Hr).2]; exact unhide HOWN, unhide HB1⟩
        · obtain ⟨q0, q1, q2, g0, g1, g2, hb3⟩ := h3
          have Hr := hide (sg_no2 (l := l) (s := s) (m := (M : Int)) (by rw [Int.toNat_natCast]; exact hno))
          have HB1 := hide hbel
          clear hbel hp hc hno q0 q1 g0 g1 g2
          by_cases hlt : (k : Int) < (M : Int)
          · have hd : decide ((k : Int) < (M : Int)) = true := decide_eq_true hlt
            go_wp2
            go_ret2
            exact ⟨_, ret_tup rfl (unhide Hr).1.symm, by rw [(unhide Hr).2]; exact IOwn.lit _ _ hbs, (unhide HB1).alloc hbs _⟩
          · have hd : decide ((k : Int) < (M : Int)) = false := decide_eq_false hlt
            go_wp2
            go_ret2
            exact ⟨_, ret_tup rfl (unhide Hr).1.symm, by rw [(unhide Hr).2]; exact IOwn.lit _ _ hbs, (unhide HB1).alloc hbs _⟩

end Go.Proofs.Ytnomiopdpmecbaa
/- The walk of an exact law: the program reads symbols by a code as the model does. -/
namespace Go.Proofs.Ytnomiopdpmecbaa
open Go.RowKit Corb

theorem sgL_len (l : List Int) (s : ByteArray) (m : Int) : (sgL l s m).length ≤ 4000 := by
  cases h1 : lensOk l && inB m 0 4000
  · unfold sgL; rw [h1]; simp
  · unfold sgL
    rw [h1, if_pos rfl]
    simp only [Bool.and_eq_true] at h1
    have hb := inB_true.1 h1.2
    cases h : decs l (numB s) (8 * s.size) m.toNat with
    | none => simp
    | some lp =>
      obtain ⟨L, p⟩ := lp
      have := decs_len h
      simp only; omega
theorem specSymbolsGet_n (a : Option Addr) (cap n m : Nat) (l : List Int) (s : ByteArray) (c : Int) (R : List Int) (ok : Bool) (w : World) (hn : l.length = n) (h : IRow w a l) (hm : n ≤ 1048576) (hs : s.size ≤ 2000000) (hR : sgL l s c = R) (hRm : R.length = m) (hO : sgOk l s c = ok) :
    Calls Try.prog 16 #[.slice a n cap, .string s, .int .i64 c] w fun e w' => ∃ va vc, e = .returned (.tuple #[.slice va m vc, .bool ok]) ∧ IOwn w' w.heap.size (.slice va m vc) R ∧ Below w.heap.size w w' :=
  (specSymbolsGet_any a cap n l s c w hn h hm hs).mono fun e w' ⟨v, he, ho, hb⟩ => by
    rw [hR] at ho
    rw [hO] at he
    obtain ⟨va, vc, rfl⟩ := ho.formN hRm
    exact ⟨va, vc, he, ho, hb⟩
theorem implSymbolsGet_n (a : Option Addr) (cap n m : Nat) (l : List Int) (s : ByteArray) (c : Int) (R : List Int) (ok : Bool) (w : World) (hn : l.length = n) (h : IRow w a l) (hm : n ≤ 1048576) (hs : s.size ≤ 2000000) (hR : sgL l s c = R) (hRm : R.length = m) (hO : sgOk l s c = ok) :
    Calls Try.prog 11 #[.slice a n cap, .string s, .int .i64 c] w fun e w' => ∃ va vc, e = .returned (.tuple #[.slice va m vc, .bool ok]) ∧ IOwn w' w.heap.size (.slice va m vc) R ∧ Below w.heap.size w w' :=
  (implSymbolsGet_any a cap n l s c w hn h hm hs).mono fun e w' ⟨v, he, ho, hb⟩ => by
    rw [hR] at ho
    rw [hO] at he
    obtain ⟨va, vc, rfl⟩ := ho.formN hRm
    exact ⟨va, vc, he, ho, hb⟩


end Go.Proofs.Ytnomiopdpmecbaa
/- Symbols read by a code: the first of some, and each has a code. -/
namespace Go.Proofs.Ytnomiopdpmecbaa
open Go.RowKit Corb

theorem decs_take {l : List Int} {V sz k m p : Nat} {L : List Int} (h : decs l V sz m = some (L, p)) (hk : k ≤ m) : ∃ q, decs l V sz k = some (L.take k, q) := by
  induction m generalizing L p with
  | zero =>
    have : k = 0 := by omega
    subst this
    exact ⟨0, rfl⟩
  | succ m ih =>
    by_cases e : k = m + 1
    · subst e
      exact ⟨p, by rw [List.take_of_length_le (by rw [decs_len h]; omega)]; exact h⟩
    · simp only [decs] at h
      split at h
      · cases h
      · split at h
        · cases h
        · rename_i L' p' hL _ i q hd
          simp only [Option.some.injEq, Prod.mk.injEq] at h
          obtain ⟨q', hq'⟩ := ih hL (by omega)
          refine ⟨q', ?_⟩
          rw [← h.1, List.take_append_of_le_length (by rw [decs_len hL]; omega)]
          exact hq'

/-- A number is a symbol that has a code. -/
def coded (l : List Int) (i : Int) : Prop := 0 ≤ i ∧ i < (l.length : Int) ∧ 0 < l.getD i.toNat 0

theorem decF_has {l : List Int} {V sz p f n : Nat} {i : Int} {q : Nat} (hf : n + f = 15) (hi : nx l n ≤ cd V p n) (h : decF l V sz p f n = some (i, q)) : coded l i := by
  induction f generalizing n with
  | zero => simp [decF] at h
  | succ f ih =>
    simp only [decF] at h
    split at h
    · cases h
    · split at h
      · rename_i hc
        simp only [Option.some.injEq, Prod.mk.injEq] at h
        obtain ⟨j, hj, hl, _, hs⟩ := sym_there (l := l) (n := n) (c := cd V p (n + 1)) (by omega) (by simp only [cd]; omega) hc
        rw [hs] at h
        rw [← h.1]
        refine ⟨by omega, by omega, ?_⟩
        rw [Int.toNat_natCast, hl]; omega
      · rename_i hc
        exact ih (by omega) (by omega) h
theorem dec_has {l : List Int} {V sz p q : Nat} {i : Int} (h : dec l V sz p = some (i, q)) : coded l i := decF_has rfl (Nat.zero_le _) h
theorem decs_has {l : List Int} {V sz m p : Nat} {L : List Int} (h : decs l V sz m = some (L, p)) : ∀ x ∈ L, coded l x := by
  induction m generalizing L p with
  | zero => simp only [decs, Option.some.injEq, Prod.mk.injEq] at h; rw [← h.1]; intro x hx; simp at hx
  | succ m ih =>
    simp only [decs] at h
    split at h
    · cases h
    · split at h
      · cases h
      · rename_i L' p' hL _ i q hd
        simp only [Option.some.injEq, Prod.mk.injEq] at h
        rw [← h.1]
        intro x hx
        rcases List.mem_append.1 hx with hx | hx
        · exact ih hL x hx
        · simp at hx; subst hx; exact dec_has hd

theorem sg_first {l : List Int} {s : ByteArray} {m : Nat} (h : sgOk l s (m : Int) = true) : (sgL l s m).length = m ∧ (∀ x ∈ sgL l s m, coded l x) ∧ ∀ k : Nat, k ≤ m → sgOk l s (k : Int) = true ∧ sgL l s (k : Int) = (sgL l s m).take k := by
  simp only [sgOk, Bool.and_eq_true] at h
  obtain ⟨⟨h1, h2⟩, h3⟩ := h
  rw [Int.toNat_natCast] at h3
  obtain ⟨⟨L, p⟩, hd⟩ := Option.isSome_iff_exists.1 h3
  have e := sg_yes (s := s) (m := (m : Int)) h1 h2 (by rw [Int.toNat_natCast]; exact hd)
  refine ⟨by rw [e.2]; exact decs_len hd, by rw [e.2]; exact decs_has hd, fun k hk => ?_⟩
  obtain ⟨q, hq⟩ := decs_take hd hk
  have hb := inB_true.1 h2
  have e2 := sg_yes (s := s) (m := (k : Int)) h1 (inB_true.2 (by omega)) (by rw [Int.toNat_natCast]; exact hq)
  exact ⟨e2.1, by rw [e2.2, e.2]⟩
theorem sg_neg {l : List Int} {s : ByteArray} {c : Int} (h : sgOk l s c = true) : 0 ≤ c ∧ c ≤ 4000 := by
  simp only [sgOk, Bool.and_eq_true] at h
  exact inB_true.1 h.1.2

theorem IRow.take {w : World} {a : Option Addr} {l : List Int} (h : IRow w a l) (k : Nat) : IRow w a (l.take k) := by
  intro h0
  have hl : (l.take k).length ≤ l.length := by simp; omega
  obtain ⟨g, o, e, hg, hc⟩ := h (by omega)
  refine ⟨g, o, e, hg, fun i hi => ?_⟩
  have h1 : i < k := by simp at hi; omega
  rw [hc i (by omega)]
  simp [List.getD, h1]

end Go.Proofs.Ytnomiopdpmecbaa
