/- Of what the proof is made: 2 texts, one behind the other. -/
import Derived.Test.YtgpghapnmalipaaGreatDoorM24
import Derived.Test.YtgpghapnmalipaaGreatDoorM11
namespace Go.Proofs.YtgpghapnmalipaaGreatDoor
open Go.RowKit Corb
theorem ownP_same (T : List Tk) (hT : T.length ≤ 300) (hok : ∀ t ∈ T, okT t = true) : [(1, 1), (2, 2)] ++ (toldP (ownL T) (ownD T) ++ (T.flatMap (pcT (ownL T) (ownD T)) ++ [pcS (ownL T) 256])) = ownP T := by
  unfold ownP
  rw [flatPc_same (ownL_ok T hT) (ownD_ok T hT) _ (fun t ht => own_fits T hT hok t ht), pcS_pcM (ownL_ok T hT) (by have := (ownL_len T hT).1; omega)]
theorem concat_three (v1 v2 v3 : Value) (A B C : List (Int × Int)) (base : Nat) (w : World) (h1 : Pcs w base v1 A) (h2 : Pcs w base v2 B) (h3 : Pcs w base v3 C) (hl : A.length + (B.length + C.length) ≤ 4000) :
    Calls Tryz.prog 79 #[.slice (some ⟨w.heap.size, 0, none⟩) 3 3] (w.alloc (.cells #[v1, v2, v3] 109)) fun e w' => ∃ v, e = .returned v ∧ Pcs w' w.heap.size v (A ++ (B ++ C)) ∧ Below w.heap.size w w' := by
  have hb5 : Below w.heap.size w (w.alloc (.cells #[v1, v2, v3] 109)) := (Below.refl _ _).alloc (Nat.le_refl _) _
  have hR : RowsPiece (w.alloc (.cells #[v1, v2, v3] 109)) w.heap.size base [(v1, pcells A), (v2, pcells B), (v3, pcells C)] := by
    intro i hi
    match i, hi with
    | 0, _ => exact ⟨by simp, _, h1.later hb5 (Nat.le_refl _), pcells_one _⟩
    | 1, _ => exact ⟨by simp, _, h2.later hb5 (Nat.le_refl _), pcells_one _⟩
    | 2, _ => exact ⟨by simp, _, h3.later hb5 (Nat.le_refl _), pcells_one _⟩
  have hlen : rowsLenPiece [(v1, pcells A), (v2, pcells B), (v3, pcells C)] = (A ++ (B ++ C)).length := by
    simp only [rowsLenPiece, rowLenPiece, List.map_cons, List.map_nil, List.sum_cons, List.sum_nil, pcells_len, List.length_append]
    omega
  refine (concatPiece w.heap.size base 3 3 _ _ rfl (by omega) (by omega) hR (by rw [hlen, List.length_append, List.length_append]; omega)).mono ?_
  rintro e x5 ⟨v, rfl, ho5, hb⟩
  refine ⟨v, rfl, ?_, bnext hb5 hb⟩
  have hall : rowsAllPiece [(v1, pcells A), (v2, pcells B), (v3, pcells C)] = pcells (A ++ (B ++ C)) := by
    simp only [rowsAllPiece, List.flatMap_cons, List.flatMap_nil, pcells_append, List.append_nil]
  rw [hlen, hall] at ho5
  exact own_mono (base := (w.alloc (.cells #[v1, v2, v3] 109)).heap.size) ho5 (by simp)
set_option maxRecDepth 100000 in
set_option maxHeartbeats 6400000 in
theorem implOwn_any (s : ByteArray) (w : World) (hs : s.size ≤ 300) (hO : OrdC w) :
    Calls Tryz.prog 50 #[.string s] w fun e w' => e = .returned (.string ⟨(ownT s).toArray⟩) ∧ Below w.heap.size w w' := by
  have hsI : (s.size : Int) ≤ 300 := by omega
  have hI : ¬ (300 : Int) < (s.size : Int) := by omega
  have hmix : Tryz.prog.follows .mixedOrders = true := by kernel_rfl
  have HS := hide hs
  have HO := hide hO
  have HFC := hide (flateCounts_any s w hs)
  obtain ⟨T, hT⟩ : ∃ T, toksP s.data.toList 0 = T := ⟨_, rfl⟩
  have HTl : Hid (T.length ≤ 300) := by show _ ≤ _; rw [← hT]; exact toks_len s hs
  have HTo : Hid (∀ t ∈ T, okT t = true) := by rw [← hT]; exact toks_ok s
  have HOT : Hid (ownT s = textP (ownP T)) := by show ownT s = _; unfold ownT; rw [hT]
  have HT := hide hT
  rw [hT] at HFC
  clear hs hO hT
  go_enter Tryz.func50, Tryz.ntmps50
  go_wp2_with fail
  refine (unhide HFC).mono ?_
  rintro e x1 ⟨⟨gl, gd, rfl, o1, o2⟩, b1⟩
  have HL1 := hide (implLensOf_any (some ⟨gl, 0, none⟩) 286 286 (litC T) 15 x1 (litC_len T) (o1.rowN (litC_len T)) (by omega))
  rw [lit_fit T (unhide HTl)] at HL1
  have O2 := hide o2
  have B1 := hide b1
  clear o1 o2 b1 HFC
  go_wp2_with fail
  refine (unhide HL1).mono ?_
  rintro e x2 ⟨⟨v2, rfl, o3⟩, b2⟩
  have hn2 := (litF T (unhide HTl)).1
  obtain ⟨a2, c2, rfl⟩ := o3.formN hn2
  obtain ⟨g2, rfl⟩ := o3.somes (by omega)
  have HC2 := hide (lensCut_any g2 0 c2 286 257 (fitL 15 (litC T)) x2 hn2 (fun i hi => by rw [Nat.zero_add]; exact (o3.at hn2 hi).1) o3.cap.1 (by omega) (by omega))
  have e2 : cutN (fitL 15 (litC T)) 257 286 = (ownL T).length := by unfold ownL; rw [cutL_len, hn2]
  rw [e2] at HC2
  have O3 : Hid (IOwn x2 w.heap.size (.slice (some ⟨g2, 0, none⟩) (ownL T).length c2) (ownL T)) := by
    have h9 := o3.cut (m := (ownL T).length) hn2 (by have := ownL_len T (unhide HTl); omega) (by omega)
    have e3 : (fitL 15 (litC T)).take (ownL T).length = ownL T := by rw [← e2]; unfold ownL cutL; rw [hn2]
    rw [e3] at h9
    exact h9.mono (unhide B1).size
  have O2' := hide ((unhide O2).later b2 (Nat.le_refl _))
  have B2 := hide (bnext (unhide B1) b2)
  have HLl := hide (ownL_len T (unhide HTl))
  obtain ⟨nL, hnL⟩ : ∃ n, (ownL T).length = n := ⟨_, rfl⟩
  rw [hnL] at HC2 O3 HLl
  have HnL := hide hnL
  clear hnL e2 hn2 o3 b2 HL1 O2 B1
  have HL2 := hide (implLensOf_any (some ⟨gd, 0, none⟩) 30 30 (distC T) 15 x2 (distC_len T) ((unhide O2').rowN (distC_len T)) (by omega))
  rw [dist_fit T (unhide HTl)] at HL2
  clear O2'
  go_wp2_with fail
  refine (unhide HC2).mono ?_
  rintro e x3 ⟨rfl, hx3⟩
  rw [hx3]
  clear hx3 x3 HC2
  go_wp2_with fail
  refine (unhide HL2).mono ?_
  rintro e x3 ⟨⟨v3, rfl, o4⟩, b3⟩
  have hn3 := (distF T (unhide HTl)).1
  obtain ⟨a3, c3, rfl⟩ := o4.formN hn3
  obtain ⟨g3, rfl⟩ := o4.somes (by omega)
  have HC3 := hide (lensCut_any g3 0 c3 30 1 (fitL 15 (distC T)) x3 hn3 (fun i hi => by rw [Nat.zero_add]; exact (o4.at hn3 hi).1) o4.cap.1 (by omega) (by omega))
  have e2 : cutN (fitL 15 (distC T)) 1 30 = (ownD T).length := by unfold ownD; rw [cutL_len, hn3]
  rw [e2] at HC3
  have O4 : Hid (IOwn x3 w.heap.size (.slice (some ⟨g3, 0, none⟩) (ownD T).length c3) (ownD T)) := by
    have h9 := o4.cut (m := (ownD T).length) hn3 (by have := ownD_len T (unhide HTl); omega) (by omega)
    have e3 : (fitL 15 (distC T)).take (ownD T).length = ownD T := by rw [← e2]; unfold ownD cutL; rw [hn3]
    rw [e3] at h9
    exact h9.mono (unhide B2).size
  have O3' := hide ((unhide O3).later b3 (Nat.le_refl _))
  have B3 := hide (bnext (unhide B2) b3)
  have HDl := hide (ownD_len T (unhide HTl))
  obtain ⟨nD, hnD⟩ : ∃ n, (ownD T).length = n := ⟨_, rfl⟩
  rw [hnD] at HC3 O4 HDl
  have HnD := hide hnD
  clear hnD e2 hn3 o4 b3 HL2 O3 B2
  go_wp2_with fail
  refine (unhide HC3).mono ?_
  rintro e x4 ⟨rfl, hx4⟩
  rw [hx4]
  clear hx4 x4 HC3
  have HBL := hide (litBook_any (some ⟨g2, 0, none⟩) c2 nL w.heap.size (ownL T) x3 (unhide HnL) (own_jrow (unhide HnL) ((unhide O3').own (unhide HnL))) (unhide B3).size (by have := unhide HLl; omega))
  go_wp2_with fail
  refine (unhide HBL).mono ?_
  rintro e x4 ⟨⟨C1, rfl, k1⟩, b4⟩
  have O3 := hide ((unhide O3').later b4 (Nat.le_refl _))
  have O4' := hide ((unhide O4).later b4 (Nat.le_refl _))
  have B4 := hide (bnext (unhide B3) b4)
  have K1 := hide k1
  clear k1 b4 HBL O3' O4 B3
  have HBD := hide (distBook_any (some ⟨g3, 0, none⟩) c3 nD w.heap.size (ownD T) x4 (unhide HnD) (own_jrow (unhide HnD) ((unhide O4').own (unhide HnD))) (unhide B4).size (by have := unhide HDl; omega))
  go_wp2_with fail
  refine (unhide HBD).mono ?_
  rintro e x5 ⟨⟨C2, rfl, k2⟩, b5⟩
  have O3' := hide ((unhide O3).later b5 (Nat.le_refl _))
  have O4 := hide ((unhide O4').later b5 (Nat.le_refl _))
  have B5 := hide (bnext (unhide B4) b5)
  have K1' := hide ((unhide K1).later b5)
  have K2 := hide k2
  have HBu := hide (built_books (unhide K1') (unhide K2))
  have hsz1 := (unhide K1').size
  have hsz2 := (unhide K2).size
  have HSz : Hid ((C1 ++ C2).size = 38) := by show _ = _; rw [Array.size_append, hsz1, hsz2]
  have H1C : Hid ((C1 ++ C2).all (·.oneCell') = true) := by show _ = true; rw [Array.all_append, (unhide K1').one, (unhide K2).one]; rfl
  have HTh : Hid ((x5.alloc (.cells booksZ 123)).there x5.heap.size 0 38) := there_new x5 booksZ _ 38 rfl
  have hb6 : Hid (Below x5.heap.size x5 ((x5.alloc (.cells booksZ 123)).setCells x5.heap.size 0 (C1 ++ C2).toList)) := below_setCells (Nat.le_refl _) _ _ _ ((Below.refl _ _).alloc (Nat.le_refl _) _)
  have hr6 : Hid (((x5.alloc (.cells booksZ 123)).setCells x5.heap.size 0 (C1 ++ C2).toList).rangeAt x5.heap.size 0 (C1 ++ C2).toList) := World.rangeAt_setCells_same (x5.alloc (.cells booksZ 123)) x5.heap.size 0 (C1 ++ C2).toList (by rw [Array.length_toList, unhide HSz]; exact unhide HTh)
  have hs6 : Hid (x5.heap.size < ((x5.alloc (.cells booksZ 123)).setCells x5.heap.size 0 (C1 ++ C2).toList).heap.size) := by show _ < _; rw [size_setCells]; simp
  unfold booksZ at HTh hb6 hr6 hs6
  clear hsz1 hsz2 k2 b5 K1 O3 O4' B4 HBD
  go_wp2_with (first
    | (refine wpList_build_books rfl (.tmp 21) (.tmp 23) rfl C1 C2 rfl rfl (unhide HBu) ?_)
    | (refine wpList_store_mid rfl 123 (.tmp 5) (.tmp 24) rfl x5.heap.size 0 (C1 ++ C2) rfl rfl (by rw [unhide HSz]; exact unhide HTh) (by rw [unhide HSz]; exact Tryz.infoBooks) (unhide H1C) ?_; generalize hx6 : World.setCells _ x5.heap.size 0 (C1 ++ C2).toList = x6 at *; clear hx6 HTh))
  have hB6 := bnext (unhide B5) (unhide hb6)
  have HSW : Hid (∀ W, Below x6.heap.size x6 W → W.rangeAt x5.heap.size 0 (C1 ++ C2).toList) := fun W h => range_later (unhide hr6) h (unhide hs6)
  have hD6 : Below x6.heap.size x6 x6.drew := (Below.refl _ x6).drew
  have hi1 : (Tryz.prog.info? 123).map (·.size) = some (C1 ++ C2).size := by rw [unhide HSz]; exact Tryz.infoBooks
  have B6 := hide hB6
  have O36 := hide ((unhide O3').later (unhide hb6) (Nat.le_refl _))
  have O46 := hide ((unhide O4).later (unhide hb6) (Nat.le_refl _))
  have HBk : Hid (Books x6 w.heap.size (ownL T) (ownD T) (C1 ++ C2)) := ⟨C1, C2, rfl, (unhide K1').later (unhide hb6), (unhide K2).later (unhide hb6)⟩
  clear hB6 O3' O4 K1' K2 hb6 B5
  refine wp_region_held_drew (S := fun W => W.rangeAt x5.heap.size 0 (C1 ++ C2).toList) hmix (unhide HSW _ hD6) (fun hS => ?_)
  refine wpAnyH_take (i := 1) (v := .slice (some ⟨g2, 0, none⟩) nL c2) rfl (by kernel_rfl) (by kernel_rfl) (by kernel_rfl) (fun _ _ _ h => h) (Or.inl ⟨by rfl, ?_⟩) hS ?_
  · intro W hSw
    go_simp
  refine wpAnyH_take (i := 2) (v := .slice (some ⟨g3, 0, none⟩) nD c3) rfl (by kernel_rfl) (by kernel_rfl) (by kernel_rfl) (fun _ _ _ h => h) (Or.inl ⟨by rfl, ?_⟩) hS ?_
  · intro W hSw
    go_simp
  refine wpAnyH_take (i := 4) (v := .agg (C1 ++ C2)) rfl (by kernel_rfl) (by kernel_rfl) (by kernel_rfl) (fun _ _ _ h => h) (yieldsIf_load_half (by rfl) 123 (.tmp 5) rfl x5.heap.size 0 rfl (C1 ++ C2) _ (fun _ h => h) Tryz.underlying123 rfl hi1) hS ?_
  refine wpAnyH_take (i := 5) (v := .string s) rfl (by kernel_rfl) (by kernel_rfl) (by kernel_rfl) (fun _ _ _ h => h) (Or.inl ⟨by rfl, ?_⟩) hS ?_
  · intro W hSw
    go_simp
  refine wpAnyH_ready (rs := [0]) (by kernel_rfl) (by simp) ?_
  refine AllReadyH.cons rfl (fun K hK => ?_) AllReadyH.nil
  go_simp
  go_at_call 71
  refine (flateHead_any 2 _).mono ?_
  rintro e x7 ⟨rfl, hx7⟩
  have hB7 : Below x6.heap.size x6 x7 := by rw [hx7]; exact hD6.alloc (by simp) _
  have hP7 : Pcs x7 x6.heap.size (.slice (some ⟨x6.heap.size, 0, none⟩) 2 2) [(1, 1), (2, 2)] := by
    rw [hx7]
    exact World.ownsRow_lit x6.drew #[.int .i64 1, .int .i64 1, .int .i64 2, .int .i64 2] 2 (Nat.le_refl _) (by unfold maxLen; omega) rfl
  have HLT := hide (lensTold_any g2 g3 nL c2 nD c3 w.heap.size (ownL T) (ownD T) x7 (unhide HnL) (unhide HnD) ((unhide O36).later hB7 (Nat.le_refl _)) ((unhide O46).later hB7 (Nat.le_refl _)) (unhide HLl).1 (unhide HLl).2 (unhide HDl).1 (unhide HDl).2 (ownL_ok T (unhide HTl)) (ownD_ok T (unhide HTl)) ((OrdC.later (unhide HO) (unhide B6)).later hB7))
  refine Shut.out hK _ _ (unhide HSW _ hB7) (fun hS2 => ?_)
  clear hK K hx7
  refine wpAnyH_ready (rs := [3]) (by kernel_rfl) (by simp) ?_
  refine AllReadyH.cons rfl (fun K hK => ?_) AllReadyH.nil
  go_simp
  go_at_call 80
  refine (unhide HLT).mono ?_
  rintro e x8 ⟨v8, rfl, hP8, b8⟩
  obtain ⟨n8, hn8⟩ : ∃ n, (toldP (ownL T) (ownD T)).length = n := ⟨_, rfl⟩
  obtain ⟨a8, c8, rfl⟩ := hP8.formN hn8
  have hB8 : Below x6.heap.size x6 x8 := bnext hB7 b8
  have hP7' := hP7.later b8 (Nat.le_refl _)
  have hP8' : Pcs x8 x6.heap.size (.slice a8 n8 c8) (toldP (ownL T) (ownD T)) := own_mono hP8 hB7.size
  have HPA := hide (putAll_any s w.heap.size (ownL T) (ownD T) (C1 ++ C2) x8 (unhide HS) ((unhide HBk).later hB8) (by have := unhide HLl; have := unhide HnL; omega) (by have := unhide HDl; have := unhide HnD; omega) (by have := unhide HLl; have := unhide HnL; omega) (by rw [unhide HT]; exact fun t ht => own_fits T (unhide HTl) (unhide HTo) t ht))
  rw [unhide HT] at HPA
  refine Shut.out hK _ _ (unhide HSW _ hB8) (fun hS3 => ?_)
  clear hK K hP7 hP8 b8 HLT hB7 hS2
  refine wpAnyH_ready (rs := [6]) (by kernel_rfl) (by simp) ?_
  refine AllReadyH.cons rfl (fun K hK => ?_) AllReadyH.nil
  go_simp
  go_at_call 73
  refine (unhide HPA).mono ?_
  rintro e x9 ⟨v9, rfl, hP9, b9⟩
  obtain ⟨n9, hn9⟩ : ∃ n, (T.flatMap (pcT (ownL T) (ownD T)) ++ [pcS (ownL T) 256]).length = n := ⟨_, rfl⟩
  obtain ⟨a9, c9, rfl⟩ := hP9.formN hn9
  have hB9 : Below x6.heap.size x6 x9 := bnext hB8 b9
  have p7 := hP7'.later b9 (Nat.le_refl _)
  have p8 := hP8'.later b9 (Nat.le_refl _)
  have p9 : Pcs x9 x6.heap.size (.slice a9 n9 c9) (T.flatMap (pcT (ownL T) (ownD T)) ++ [pcS (ownL T) 256]) := own_mono hP9 hB8.size
  refine Shut.out hK _ _ (unhide HSW _ hB9) (fun hS4 => ?_)
  clear hK K hP7' hP8' hP9 b9 HPA hB8 hS3
  have hEq := ownP_same T (unhide HTl) (unhide HTo)
  have hOk := ownP_ok T (unhide HTl) (unhide HTo)
  have hLn : (ownP T).length ≤ 4000 := by
    have := hOk
    unfold lOk at this
    simp only [Bool.and_eq_true, decide_eq_true_eq] at this
    exact this.2
  have HC := hide (concat_three (.slice (some ⟨x6.heap.size, 0, none⟩) 2 2) (.slice a8 n8 c8) (.slice a9 n9 c9) [(1, 1), (2, 2)] (toldP (ownL T) (ownD T)) (T.flatMap (pcT (ownL T) (ownD T)) ++ [pcS (ownL T) 256]) x6.heap.size x9 p7 p8 p9 (by have h9 := hLn; rw [← hEq] at h9; simp only [List.length_append] at h9 ⊢; omega))
  rw [hEq] at HC
  have hB10 : Below x6.heap.size x6 (x9.alloc (.cells #[.slice (some ⟨x6.heap.size, 0, none⟩) 2 2, .slice a8 n8 c8, .slice a9 n9 c9] 109)) := hB9.alloc hB9.size _
  have HOk := hide (And.intro hOk hLn)
  clear p7 p8 p9 hEq hOk hLn hn8 hn9
  refine wpAnyH_ready (rs := [7]) (by kernel_rfl) (by simp) ?_
  refine AllReadyH.cons rfl (fun K hK => ?_) AllReadyH.nil
  go_simp
  refine Shut.out hK _ _ (unhide HSW _ hB10) (fun hS5 => ?_)
  clear hK K
  refine wpAnyH_ready (rs := [8]) (by kernel_rfl) (by simp) ?_
  refine AllReadyH.cons rfl (fun K hK => ?_) AllReadyH.nil
  go_simp
  go_at_call 79
  refine (unhide HC).mono ?_
  rintro e x11 ⟨v11, rfl, hP11, b11⟩
  have hB11 := bnext hB9 b11
  obtain ⟨a11, c11, rfl⟩ := hP11.form
  refine Shut.out hK _ _ (unhide HSW _ hB11) (fun hS6 => ?_)
  clear hK K
  have HBP := hide (implBitsPut_any a11 c11 (ownP T) x11 hP11.row (by have := (unhide HOk).2; omega))
  rw [putS_yes (unhide HOk).1] at HBP
  refine wpAnyH_ready (rs := [9]) (by kernel_rfl) (by simp) ?_
  refine AllReadyH.cons rfl (fun K hK => ?_) AllReadyH.nil
  go_simp
  go_at_call 68
  refine (unhide HBP).mono ?_
  rintro e x12 ⟨rfl, b12⟩
  have hB12 := bnext hB11 b12
  refine Shut.out hK _ _ (unhide HSW _ hB12) (fun hS7 => ?_)
  clear hK K
  refine wpAnyH_ready (rs := [10]) (by kernel_rfl) (by simp) ?_
  refine AllReadyH.cons rfl (fun K hK => ?_) AllReadyH.nil
  go_simp
  refine Shut.out hK _ _ (unhide HSW _ hB12) (fun hS8 => ?_)
  clear hK K
  refine wpAnyH_done (by kernel_rfl) ?_ _
  have HBf := hide (bnext (unhide B6) hB12)
  clear hB12 hB11 hB10 hB9 hS hS4 hS5 hS6 hS7 hS8 hP11
  generalize hR : textP (ownP T) = R at *
  have HR := hide hR
  clear hR
  go_wp2
  go_ret
  exact ⟨by rw [unhide HOT]; rfl, unhide HBf⟩
end Go.Proofs.YtgpghapnmalipaaGreatDoor
namespace Go.Proofs.YtgpghapnmalipaaGreatDoor
open Go.RowKit Corb
theorem own_away {w : World} {base n cap : Nat} {a : Option Addr} {l : List Int} (hn : l.length = n) (h : IOwn w base (.slice a n cap) l) : NRow w w.heap.size a l := by
  refine ⟨h.rowN hn, fun h0 x ex => ?_⟩
  subst ex
  rcases h.2 with ⟨e, _⟩ | ⟨g, cap', cur, e, hbg, hg, _⟩
  · cases e
  · simp only [Value.slice.injEq, Option.some.injEq] at e
    obtain ⟨rfl, _⟩ := e
    refine ⟨by have := heap_lt hg; show g ≠ _; omega, fun cur' fr => ?_⟩
    show w.heap[g]? ≠ _
    rw [hg]
    intro e
    cases e
theorem kown_away {w : World} {base n cap : Nat} {a : Option Addr} {l : List Tk} (hn : l.length = n) (h : KOwn w base (.slice a n cap) l) : NKRow w w.heap.size a l := by
  refine ⟨h.rowN hn, fun h0 x ex => ?_⟩
  subst ex
  rcases h.2 with ⟨e, _⟩ | ⟨g, cap', cur, e, hbg, hg, _⟩
  · cases e
  · simp only [Value.slice.injEq, Option.some.injEq] at e
    obtain ⟨rfl, _⟩ := e
    refine ⟨by have := heap_lt hg; show g ≠ _; omega, fun cur' fr => ?_⟩
    show w.heap[g]? ≠ _
    rw [hg]
    intro e
    cases e
theorem fit15_any (g : Nat) (n : Nat) (l : List Int) (w : World) (hn : l.length = n) (h : IRow w (some ⟨g, 0, none⟩) l) (h1 : 1 ≤ n) (hm : n ≤ 300) (hc : okC l) (hU : us l ≤ 300) :
    Calls Tryz.prog 125 #[.slice (some ⟨g, 0, none⟩) n n, .int .i64 15] w fun e w' => (∃ v, e = .returned v ∧ IOwn w' w.heap.size v (fitL 15 l)) ∧ Below w.heap.size w w' :=
  l3Fit_any (some ⟨g, 0, none⟩) n n 14 l w hn h h1 hm hc (by rw [seed_usL]; have h2 := p2_14; omega) (by omega)
set_option maxRecDepth 100000 in
set_option maxHeartbeats 6400000 in
theorem l5Own_any (s : ByteArray) (w : World) (hs : s.size ≤ 300) :
    Calls Tryz.prog 88 #[.string s] w fun e w' => e = .returned (.string ⟨(ownT s).toArray⟩) ∧ Below w.heap.size w w' := by
  have HS := hide hs
  obtain ⟨T, hT⟩ : ∃ T, toksP s.data.toList 0 = T := ⟨_, rfl⟩
  have HTl : Hid (T.length ≤ 300) := by show _ ≤ _; rw [← hT]; exact toks_len s hs
  have HTo : Hid (∀ t ∈ T, okT t = true) := by rw [← hT]; exact toks_ok s
  have HOT : Hid (ownT s = textP (ownP T)) := by show ownT s = _; unfold ownT; rw [hT]
  have HTk := hide (l4Tokens_any s w (by omega))
  rw [hT] at HTk
  clear hs hT
  obtain ⟨tn, htn⟩ : ∃ tn, T.length = tn := ⟨_, rfl⟩
  have Htn := hide htn
  have HtI : Hid (tn ≤ 300) := by show _ ≤ _; rw [← htn]; exact unhide HTl
  clear htn
  go_enter Tryz.func88, Tryz.ntmps88
  go_wp2_with fail
  refine (unhide HTk).mono ?_
  rintro e x1 ⟨v1, rfl, o1, b1⟩
  obtain ⟨a1, c1, rfl⟩ := o1.formN (unhide Htn)
  have HCt := hide (l5Counts_any a1 c1 tn T x1 (unhide Htn) (o1.rowN (unhide Htn)) (unhide HtI) (unhide HTo))
  have O1 := hide o1
  have B1 := hide b1
  clear o1 b1 HTk
  go_wp2_with fail
  refine (unhide HCt).mono ?_
  rintro e x2 ⟨⟨gl, gd, rfl, o2, o3⟩, b2⟩
  have O1' := hide (row_later (unhide O1) b2)
  have B2 := hide (bnext (unhide B1) b2)
  have HL1 := hide (fit15_any gl 286 (litC T) x2 (litC_len T) (o2.rowN (litC_len T)) (by omega) (by omega) (litC_ok T (unhide HTl)) (by have := (litC_us T).2; omega))
  have O3 := hide (o3.mono (unhide B1).size)
  have hs12 : Hid (w.heap.size ≤ x2.heap.size) := (unhide B2).size
  clear o2 o3 b2 HCt O1 B1
  go_wp2_with fail
  refine (unhide HL1).mono ?_
  rintro e x3 ⟨⟨v3, rfl, o4⟩, b3⟩
  have hn2 := (litF T (unhide HTl)).1
  obtain ⟨a3, c3, rfl⟩ := o4.formN hn2
  obtain ⟨g3, rfl⟩ := o4.somes (by omega)
  have HC2 := hide (l5Last_any g3 0 c3 286 257 (fitL 15 (litC T)) x3 hn2 (fun i hi => by rw [Nat.zero_add]; exact (o4.at hn2 hi).1) o4.cap.1 (by omega) (by omega))
  have e2 : cutN (fitL 15 (litC T)) 257 286 = (ownL T).length := by unfold ownL; rw [cutL_len, hn2]
  rw [e2] at HC2
  have O4 : Hid (IOwn x3 w.heap.size (.slice (some ⟨g3, 0, none⟩) (ownL T).length c3) (ownL T)) := by
    have h9 := o4.cut (m := (ownL T).length) hn2 (by have := ownL_len T (unhide HTl); omega) (by omega)
    have e3 : (fitL 15 (litC T)).take (ownL T).length = ownL T := by rw [← e2]; unfold ownL cutL; rw [hn2]
    rw [e3] at h9
    exact h9.mono (unhide hs12)
  have O1 := hide (row_later (unhide O1') b3)
  have O3' := hide ((unhide O3).later b3 (Nat.le_refl _))
  have B3 := hide (bnext (unhide B2) b3)
  have HLl := hide (ownL_len T (unhide HTl))
  obtain ⟨nL, hnL⟩ : ∃ n, (ownL T).length = n := ⟨_, rfl⟩
  rw [hnL] at HC2 O4 HLl
  have HnL := hide hnL
  clear hnL e2 hn2 o4 b3 HL1 O3 B2 O1' hs12
  go_wp2_with fail
  refine (unhide HC2).mono ?_
  rintro e x4 ⟨rfl, hx4⟩
  rw [hx4]
  clear hx4 x4 HC2
  have HL2 := hide (fit15_any gd 30 (distC T) x3 (distC_len T) ((unhide O3').rowN (distC_len T)) (by omega) (by omega) (distC_ok T (unhide HTl)) (by have := (distC_us T).2; omega))
  go_wp2_with fail
  refine (unhide HL2).mono ?_
  rintro e x4 ⟨⟨v4, rfl, o5⟩, b4⟩
  have hn3 := (distF T (unhide HTl)).1
  obtain ⟨a4, c4, rfl⟩ := o5.formN hn3
  obtain ⟨g4, rfl⟩ := o5.somes (by omega)
  have HC3 := hide (l5Last_any g4 0 c4 30 1 (fitL 15 (distC T)) x4 hn3 (fun i hi => by rw [Nat.zero_add]; exact (o5.at hn3 hi).1) o5.cap.1 (by omega) (by omega))
  have e2 : cutN (fitL 15 (distC T)) 1 30 = (ownD T).length := by unfold ownD; rw [cutL_len, hn3]
  rw [e2] at HC3
  have O5 : Hid (IOwn x4 w.heap.size (.slice (some ⟨g4, 0, none⟩) (ownD T).length c4) (ownD T)) := by
    have h9 := o5.cut (m := (ownD T).length) hn3 (by have := ownD_len T (unhide HTl); omega) (by omega)
    have e3 : (fitL 15 (distC T)).take (ownD T).length = ownD T := by rw [← e2]; unfold ownD cutL; rw [hn3]
    rw [e3] at h9
    exact h9.mono (unhide B3).size
  have O1' := hide (row_later (unhide O1) b4)
  have O4' := hide ((unhide O4).later b4 (Nat.le_refl _))
  have B4 := hide (bnext (unhide B3) b4)
  have HDl := hide (ownD_len T (unhide HTl))
  obtain ⟨nD, hnD⟩ : ∃ n, (ownD T).length = n := ⟨_, rfl⟩
  rw [hnD] at HC3 O5 HDl
  have HnD := hide hnD
  clear hnD e2 hn3 o5 b4 HL2 O4 O1 O3' B3
  go_wp2_with fail
  refine (unhide HC3).mono ?_
  rintro e x5 ⟨rfl, hx5⟩
  rw [hx5]
  clear hx5 x5 HC3
  have h0 : Hid (OutQ (x4.alloc (.cells #[.slice none 0 0, .int .i64 0, .int .i64 0] 200)) x4.heap.size (0, 0)) := out_new x4 200
  have hB0 : Below x4.heap.size x4 (x4.alloc (.cells #[.slice none 0 0, .int .i64 0, .int .i64 0] 200)) := (Below.refl _ _).alloc (Nat.le_refl _) _
  have RL : Hid (NRow (x4.alloc (.cells #[.slice none 0 0, .int .i64 0, .int .i64 0] 200)) x4.heap.size (some ⟨g3, 0, none⟩) (ownL T)) := (own_away (unhide HnL) (unhide O4')).below hB0
  have RD : Hid (NRow (x4.alloc (.cells #[.slice none 0 0, .int .i64 0, .int .i64 0] 200)) x4.heap.size (some ⟨g4, 0, none⟩) (ownD T)) := (own_away (unhide HnD) (unhide O5)).below hB0
  have RT : Hid (NKRow (x4.alloc (.cells #[.slice none 0 0, .int .i64 0, .int .i64 0] 200)) x4.heap.size a1 T) := (kown_away (unhide Htn) (unhide O1')).keep (keep_below hB0)
  have HK0 : Hid (KB x4.heap.size x4 (x4.alloc (.cells #[.slice none 0 0, .int .i64 0, .int .i64 0] 200))) := (KB.refl _ _).below hB0 (Nat.le_refl _)
  clear hB0 O1' O4' O5
  go_wp2_with fail
  refine (putP_any _ _ 1 1 _ (unhide h0) (by decide) (by show (0 : Nat) ≤ _; omega)).mono ?_
  rintro e x6 ⟨rfl, o6, k6⟩
  have H6 := hide (And.intro o6 ((unhide HK0).trans k6))
  have RL6 := hide ((unhide RL).keep k6.2)
  have RD6 := hide ((unhide RD).keep k6.2)
  have RT6 := hide ((unhide RT).keep k6.2)
  clear o6 k6 h0 HK0 RL RD RT
  go_wp2_with fail
  refine (putP_any _ _ 2 2 _ (unhide H6).1 (by decide) (by show (1 : Nat) ≤ _; omega)).mono ?_
  rintro e x7 ⟨rfl, o7, k7⟩
  have H7 := hide (And.intro o7 ((unhide H6).2.trans k7))
  have RL7 := hide ((unhide RL6).keep k7.2)
  have RD7 := hide ((unhide RD6).keep k7.2)
  have RT7 := hide ((unhide RT6).keep k7.2)
  clear o7 k7 H6 RL6 RD6 RT6
  have HLe := hide (lensM_any x4.heap.size (outP (outP (0, 0) [(1, 1)]) [(2, 2)]) (some ⟨g3, 0, none⟩) (some ⟨g4, 0, none⟩) c3 nL c4 nD (ownL T) (ownD T) x7 (unhide H7).1 (unhide RL7).1 (unhide RD7).1 (unhide HnL) (unhide HnD) (unhide HLl).1 (unhide HLl).2 (unhide HDl).1 (unhide HDl).2 (ownL_ok T (unhide HTl)) (ownD_ok T (unhide HTl)) (by show (3 : Nat) ≤ 1000; omega))
  go_wp2_with fail
  refine (unhide HLe).mono ?_
  rintro e x8 ⟨rfl, o8, k8⟩
  have HV8 : Hid (outP (outP (outP (0, 0) [(1, 1)]) [(2, 2)]) (toldP (ownL T) (ownD T)) = outP (0, 0) ([(1, 1), (2, 2)] ++ toldP (ownL T) (ownD T))) := by
    show _ = _
    rw [← outP_append, ← outP_append]; rfl
  rw [unhide HV8] at o8
  have RL8 := (unhide RL7).keep k8.2
  have RD8 := (unhide RD7).keep k8.2
  have RT8 := (unhide RT7).keep k8.2
  have K8 := hide ((unhide H7).2.trans k8)
  have hOk2 := toldP_ok (ownL_ok T (unhide HTl)) (ownD_ok T (unhide HTl)) (by rw [unhide HnL]; exact (unhide HLl).1) (by rw [unhide HnL]; exact (unhide HLl).2) (by rw [unhide HnD]; exact (unhide HDl).1) (by rw [unhide HnD]; exact (unhide HDl).2)
  have hb8 : (outP (0, 0) ([(1, 1), (2, 2)] ++ toldP (ownL T) (ownD T))).2 ≤ 10000 := by
    have h1 := outP_bits (0, 0) ([(1, 1), (2, 2)] ++ toldP (ownL T) (ownD T)) (by
      intro x hx
      rcases List.mem_append.1 hx with h | h
      · simp at h; rcases h with rfl | rfl <;> simp
      · have h3 := hOk2.1
        unfold allOk at h3
        have := List.all_eq_true.1 h3 x h
        exact (pOk_true.1 this).1.2)
    rw [List.length_append] at h1
    have := hOk2.2
    simp only [List.length_cons, List.length_nil] at h1
    omega
  have HTk := hide (tokensM_any x4.heap.size _ a1 (some ⟨g3, 0, none⟩) (some ⟨g4, 0, none⟩) c1 tn c3 nL c4 nD T (ownL T) (ownD T) x8 o8 RT8 RL8 RD8 (unhide Htn) (unhide HnL) (unhide HnD) (by have := unhide HLl; omega) (by have := unhide HDl; omega) (good_of (ownL_ok T (unhide HTl))) (good_of (ownD_ok T (unhide HTl))) (by have := unhide HLl; omega) (by have := unhide HtI; omega) hb8 (fun t ht => ⟨unhide HTo t ht, own_fits T (unhide HTl) (unhide HTo) t ht⟩))
  have HVo : Hid (outP (outP (0, 0) ([(1, 1), (2, 2)] ++ toldP (ownL T) (ownD T))) (T.flatMap (pcTM (ownL T) (ownD T)) ++ [pcM (ownL T) 256]) = valP (ownP T)) := by
    show outP _ _ = _
    rw [← outP_append, List.append_assoc]; rfl
  rw [unhide HVo] at HTk
  have Hm : Hid ((valP (ownP T)).2 ≤ 90000) := by
    show _ ≤ _
    rw [← unhide HVo, outP_append]
    have h1 := flatM_bits (ownL T) (ownD T) T (outP (0, 0) ([(1, 1), (2, 2)] ++ toldP (ownL T) (ownD T))) (good_of (ownL_ok T (unhide HTl))) (good_of (ownD_ok T (unhide HTl))) (fun t ht => own_fits T (unhide HTl) (unhide HTo) t ht)
    have h2 := outP_bits (outP (outP (0, 0) ([(1, 1), (2, 2)] ++ toldP (ownL T) (ownD T))) (T.flatMap (pcTM (ownL T) (ownD T)))) [pcM (ownL T) 256] (fun x hx => by simp only [List.mem_cons, List.not_mem_nil, or_false] at hx; subst hx; have := (good_of (ownL_ok T (unhide HTl)) 256 (by have := unhide HnL; have := unhide HLl; omega)).1.2; show (ownL T).getD 256 0 ≤ 16; omega)
    have h3 := unhide HTl
    simp only [List.length_cons, List.length_nil] at h2
    omega
  clear o8 k8 RL8 RD8 RT8 hOk2 hb8 HLe RL7 RD7 RT7 H7 HV8
  go_wp2_with fail
  refine (unhide HTk).mono ?_
  rintro e x9 ⟨rfl, o9, k9⟩
  have K9 := hide ((unhide K8).trans k9).1
  have O9 := hide o9
  clear o9 k9 HTk K8
  go_wp2_with fail
  refine (wholeOut_any _ _ _ _ (unhide O9) (unhide Hm)).mono ?_
  rintro e x10 ⟨rfl, h7, b7⟩
  obtain ⟨_, v, Th, Y⟩ := h7
  have e8 : 8 * (((valP (ownP T)).2 + 7) / 8) / 8 = ((valP (ownP T)).2 + 7) / 8 := by omega
  rw [e8] at Y
  have Y' : Bys x10 x4.heap.size v (textP (ownP T)) := Y
  have hcv := conv_bytes Y'
  have HB := hide ((unhide K9).trans b7)
  obtain ⟨k0, k1, k2, f0, f1, f2, hbw⟩ := Th
  clear Y Y' e8 k1 k2 b7 O9
  generalize hR : textP (ownP T) = R at *
  have HR := hide hR
  clear hR
  go_wp2
  go_ret
  exact ⟨by rw [unhide HOT]; rfl, bnext (unhide B4) (unhide HB)⟩
def ownedL (s : ByteArray) : List UInt8 := if s.size ≤ 300 then ownT s else []
theorem implOwnPut_any (s : ByteArray) (w : World) (hs : s.size ≤ 1048576) (hO : OrdC w) :
    Calls Tryz.prog 50 #[.string s] w fun e w' => e = .returned (.string ⟨(ownedL s).toArray⟩) ∧ Below w.heap.size w w' := by
  have hsI : (s.size : Int) ≤ 1048576 := by omega
  by_cases h : s.size ≤ 300
  · have HF : Hid (ownedL s = ownT s) := if_pos h
    rw [unhide HF]
    exact implOwn_any s w h hO
  · have hI : (300 : Int) < (s.size : Int) := by omega
    have HF : Hid (ownedL s = []) := if_neg h
    clear h hO
    go_enter Tryz.func50, Tryz.ntmps50
    go_wp2
    go_ret
    exact ⟨by rw [unhide HF]; rfl, Below.refl _ _⟩
end Go.Proofs.YtgpghapnmalipaaGreatDoor
