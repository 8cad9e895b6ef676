/- Of what the proof is made: 10 texts, one behind the other. -/
import Derived.Test.YtgpghapnmalipaaGreatDoorM27
import Derived.Test.YtgpghapnmalipaaGreatDoorM23
import Derived.Test.YtgpghapnmalipaaGreatDoorM2
import Derived.Lib.QuietBelow
namespace Go.Proofs.YtgpghapnmalipaaGreatDoor
open Go.RowKit Corb
set_option maxRecDepth 100000
def centB (how st crc pk lg : Nat) (nm : ByteArray) (pl : Nat) : ByteArray := (⟨#[80, 75, 1, 2]⟩ : ByteArray) ++ strL (leS 2 20) ++ toldB how st crc pk lg nm.size ++ (⟨#[0, 0, 0, 0, 0, 0, 0, 0, 0, 0]⟩ : ByteArray) ++ strL (leS 4 pl) ++ nm
theorem centB_size (how st crc pk lg : Nat) (nm : ByteArray) (pl : Nat) : (centB how st crc pk lg nm pl).size = 46 + nm.size := by
  simp only [centB, ByteArray.size_append, toldB_size, strL_size, leS_len]
  have h1 : (⟨#[80, 75, 1, 2]⟩ : ByteArray).size = 4 := rfl
  have h2 : (⟨#[0, 0, 0, 0, 0, 0, 0, 0, 0, 0]⟩ : ByteArray).size = 10 := rfl
  omega
def endB (many long pl : Nat) : ByteArray := (⟨#[80, 75, 5, 6]⟩ : ByteArray) ++ strL ([0, 0, many, many].flatMap (leS 2)) ++ strL (leS 4 long) ++ strL (leS 4 pl) ++ strL ([0].flatMap (leS 2))
theorem endB_size (many long pl : Nat) : (endB many long pl).size = 22 := by
  simp only [endB, ByteArray.size_append, strL_size, leS_len, List.flatMap_cons, List.flatMap_nil, List.length_append, List.length_nil]
  have h1 : (⟨#[80, 75, 5, 6]⟩ : ByteArray).size = 4 := rfl
  omega
def eN (e : En) : Nat := (stN e.y e.mo e.d e.h e.mi e.s).toNat
def loE (e : En) : ByteArray := localB e.n e.t (eN e)
def heE (e : En) (p : Nat) : ByteArray := centB (howN e.t) (eN e) (crcMore 0 e.t.data.toList) (bodyB e.t).size e.t.size e.n p
def zipS (s : ByteArray × ByteArray) (e : En) : ByteArray × ByteArray := (s.1 ++ loE e, s.2 ++ heE e s.1.size)
def zipF (l : List En) : ByteArray × ByteArray := l.foldl zipS (⟨#[]⟩, ⟨#[]⟩)
theorem zipF_nil : zipF [] = (⟨#[]⟩, ⟨#[]⟩) := rfl
theorem zipF_take (l : List En) (k : Nat) (h : k < l.length) : zipF (l.take (k + 1)) = zipS (zipF (l.take k)) (l.getD k default) := by
  rw [take_snocE l default k h, zipF, List.foldl_append]; rfl
theorem loE_size {e : En} (k : entE e = true) : 30 ≤ (loE e).size ∧ (loE e).size ≤ 400 := by
  obtain ⟨f1, f2, f3⟩ := ent_facts (n := e.n) (t := e.t) k
  have hfz := flateB_small e.t
  have hb : (bodyB e.t).size ≤ 300 := by unfold bodyB; split <;> omega
  have : (loE e).size = 30 + e.n.size + (bodyB e.t).size := by simp only [loE, localB, ByteArray.size_append, headB_size]
  omega
theorem heE_size (e : En) (p : Nat) : (heE e p).size = 46 + e.n.size := centB_size _ _ _ _ _ _ _
theorem zipF_size (l : List En) (h : ∀ i, i < l.length → entE (l.getD i default) = true) : ∀ k, k ≤ l.length → (zipF (l.take k)).1.size ≤ 400 * k ∧ (zipF (l.take k)).2.size ≤ 100 * k
  | 0, _ => by rw [List.take_zero, zipF_nil]; exact ⟨Nat.zero_le _, Nat.zero_le _⟩
  | k + 1, hk => by
    have ih := zipF_size l h k (by omega)
    rw [zipF_take l k (by omega)]
    have h1 := loE_size (h k (by omega))
    have h2 := (ent_facts (n := (l.getD k default).n) (t := (l.getD k default).t) (h k (by omega))).1
    have h3 := heE_size (l.getD k default) (zipF (l.take k)).1.size
    simp only [zipS, ByteArray.size_append]
    omega
theorem zip_all {l : List En} (h : zipB l = true) : (∀ i, i < l.length → entE (l.getD i default) = true) ∧ l.length ≤ 6 := by
  simp only [zipB, Bool.and_eq_true, decide_eq_true_eq, List.all_eq_true] at h
  exact ⟨fun i hi => ((one_parts l i).mp (h.1 i (List.mem_range.mpr hi))).1, h.2⟩
def zipP (l : List En) : ByteArray := if zipB l then (zipF l).1 ++ (zipF l).2 ++ endB l.length (zipF l).2.size (zipF l).1.size else ⟨#[]⟩
theorem cmark_is : strL (leS 4 33639248) = (⟨#[80, 75, 1, 2]⟩ : ByteArray) := by decide +kernel
theorem emark_is : strL (leS 4 101010256) = (⟨#[80, 75, 5, 6]⟩ : ByteArray) := by decide +kernel
theorem blank_is : strL (leS 2 0) ++ strL (leS 2 0) ++ strL (leS 2 0) ++ strL (leS 4 0) = (⟨#[0, 0, 0, 0, 0, 0, 0, 0, 0, 0]⟩ : ByteArray) := by decide +kernel
end Go.Proofs.YtgpghapnmalipaaGreatDoor
namespace Go.Proofs.YtgpghapnmalipaaGreatDoor
open Go.RowKit Corb
set_option maxRecDepth 100000
def encLh (e : En) : List Value := [.int .i64 (howN e.t : Nat), .int .i64 (eN e : Nat), .int .i64 (crcMore 0 e.t.data.toList : Nat), .int .i64 ((bodyB e.t).size : Nat), .int .i64 (e.t.size : Nat), .string e.n, .string (bodyB e.t)]
def encHd (q : En × Nat) : List Value := [.int .i64 (howN q.1.t : Nat), .int .i64 (eN q.1 : Nat), .int .i64 (crcMore 0 q.1.t.data.toList : Nat), .int .i64 ((bodyB q.1.t).size : Nat), .int .i64 (q.1.t.size : Nat), .string q.1.n, .int .i64 (q.2 : Nat)]
theorem encLh_len (e : En) : (encLh e).length = 7 := rfl
theorem encHd_len (e : En × Nat) : (encHd e).length = 7 := rfl
theorem encLh_one (e : En) : ∀ u ∈ encLh e, u.oneCell' = true := by
  intro u hu
  simp only [encLh, List.mem_cons, List.not_mem_nil, or_false] at hu
  rcases hu with rfl | rfl | rfl | rfl | rfl | rfl | rfl <;> rfl
theorem encHd_one (e : En × Nat) : ∀ u ∈ encHd e, u.oneCell' = true := by
  intro u hu
  simp only [encHd, List.mem_cons, List.not_mem_nil, or_false] at hu
  rcases hu with rfl | rfl | rfl | rfl | rfl | rfl | rfl <;> rfl
theorem new_cells (w : World) (cs : Array Value) (t : TypeId) : ∀ (j : Nat) (u : Value), cs.toList[j]? = some u → (w.alloc (.cells cs t)).cell? ((⟨w.heap.size, 0, none⟩ : Addr).add j) = some u := by
  intro j u h
  have := (blk_alloc w cs t).cell j u h
  have e : ((⟨w.heap.size, 0, none⟩ : Addr).add j) = ⟨w.heap.size, j, none⟩ := by
    unfold Addr.add
    split
    · rename_i h0
      rw [h0]
    · simp
  rw [e]; exact this
theorem stI_eN {e : En} (k : entE e = true) : stI e.y e.mo e.d e.h e.mi e.s = ((eN e : Nat) : Int) := by
  obtain ⟨_, _, f3⟩ := ent_facts (n := e.n) (t := e.t) k
  obtain ⟨_, _, _, g4⟩ := st_facts f3
  rw [g4]; rfl
theorem Tryz.infoLh : (Tryz.prog.info? 50).map (fun i => (i.zero, i.size, i.bytes)) = some (some (.agg #[.int .i64 0, .int .i64 0, .int .i64 0, .int .i64 0, .int .i64 0, .string ⟨#[]⟩, .string ⟨#[]⟩]), 7, 72) := by kernel_rfl
abbrev LOwn := GOwn (α := En) 50 7 encLh
set_option maxHeartbeats 3200000 in
theorem eachLh_any (a : Option Addr) (cap n : Nat) (l : List En) (w : World) (hn : l.length = n) (h : ERow w a l) (hm : n ≤ 6) (hs : ∀ i, i < n → entE (l.getD i default) = true) (hO : OrdC w) :
    Calls Tryz.prog 19 #[.slice a n cap, .func (.func 20) #[] #[]] w fun e w' => ∃ v, e = .returned v ∧ LOwn w' w.heap.size v l ∧ Below w.heap.size w w' := by
  have hmI : (n : Int) ≤ 6 := by omega
  have Hn := hide hn
  have Hm := hide hm
  have HS := hide hs
  have HR := hide h
  have HO := hide hO
  clear hn hm hs h hO
  obtain ⟨i0, hi, hz0, hz1, hz2⟩ := info_parts Tryz.infoLh
  go_enter Tryz.func19, Tryz.ntmps19
  go_wp2_with fail
  go_loopw [5, 7, 10] (fun o _ i wr => ∃ k : Nat, k ≤ n ∧ i = .int .i64 k ∧ LOwn wr w.heap.size o (l.take k) ∧ Below w.heap.size w wr) (fun _ _ i _ => n - (intOf i).toNat)
  case atStart => exact ⟨0, Nat.zero_le _, rfl, GOwn.nil _ _, Below.refl _ _⟩
  case round =>
    obtain ⟨k, hk, rfl, hq, hbel⟩ := hrel
    have hbs := hbel.size
    by_cases hlt : k < n
    · obtain ⟨g, o, rfl, hg, hcc⟩ := (unhide HR).later hbel (by have := unhide Hn; omega)
      obtain ⟨c0, c1, c2, c3, c4, c5, c6, c7⟩ := hcc k (by have := unhide Hn; omega)
      have hst := hide (take_snocE l default k (by have := unhide Hn; omega))
      have hlk : Hid ((l.take k).length = k) := by show _ = _; have := unhide Hn; simp; omega
      have Hk := hide hk
      have HE := unhide HS k hlt
      have hsI := stI_eN HE
      have htz := (ent_facts (n := (l.getD k default).n) (t := (l.getD k default).t) HE).2.1
      clear hcc hk HE
      generalize l.getD k default = en at *
      have HP := hide (fun W (hb : Below w.heap.size w W) => localHeadOf_any en.n en.t en.y en.mo en.d en.h en.mi en.s W (by omega) ((unhide HO).later hb))
      rw [hsI] at HP
      clear hsI htz
      have hA : Below wr.heap.size wr (wr.alloc (.cells #[.string en.n, .int .i64 en.y, .int .i64 en.mo, .int .i64 en.d, .int .i64 en.h, .int .i64 en.mi, .int .i64 en.s, .string en.t] 42)) := (Below.refl _ _).alloc (Nat.le_refl _) _
      have HA := hide hA
      have HQ := hide hq
      have HBel := hide hbel
      clear hA hq hbel
      go_wp2_with fail
      refine (unhide HP _ (bnext (unhide HBel) (unhide HA))).mono ?_
      rintro e x1 ⟨rfl, hb1⟩
      have hW := bnext (unhide HA) hb1
      have hq1 := GOwn.own (unhide hlk) ((unhide HQ).later hW (Nat.le_refl _))
      have hbel1 := bnext (unhide HBel) hW
      have hbs1 := hbel1.size
      have hlen1 : Hid (k + 1 ≤ maxLen ∧ (k + 1) * 72 ≤ 140737488355328) := by
        show _ ∧ _
        have := unhide Hm
        unfold maxLen
        omega
      clear HQ HBel HA hb1 hW HP
      go_wp2_with (at_builtin; refine wpList_append_own _ rfl _ _ 45 rfl w.heap.size 50 i0 (.agg #[.int .i64 0, .int .i64 0, .int .i64 0, .int .i64 0, .int .i64 0, .string ⟨#[]⟩, .string ⟨#[]⟩]) 7 72 Tryz.underlying45 hi hz0 hz1 hz2 rfl (by decide) _ _ _ rfl (World.ownsRow.alloc hq1 _) ⟨x1.heap.size, 0, none⟩ 1 1 (encLh en) rfl rfl (new_cells x1 _ _) (encLh_one en) (unhide hlen1).1 (unhide hlen1).2 (size_alloc_le hbs1 _) ?_; intro v' x2 hown hgrow hnil; clear hnil)
      have hb2 := grown_step (v := u5) hgrow hq1 (Nat.le_refl _) hbs1 hbel1
      have hq2 : LOwn x2 w.heap.size v' _ := GOwn.snoc (unhide hlk) hown
      rw [← unhide hst] at hq2
      clear hown hgrow hq1
      go_wp2
      go_roundw
      case rel => exact ⟨k + 1, by have := unhide Hk; omega, by go_num, hq2, hb2⟩
      case measure => simp [intOf]; omega
    · have hkn : l.take k = l := List.take_of_length_le (by rw [unhide Hn]; omega)
      rw [hkn] at hq
      have HQ := hide hq
      have HB := hide hbel
      clear hq hbel hkn
      go_wp2
      go_ret
      exact ⟨_, rfl, unhide HQ, unhide HB⟩
end Go.Proofs.YtgpghapnmalipaaGreatDoor
namespace Go.Proofs.YtgpghapnmalipaaGreatDoor
open Go.RowKit Corb
set_option maxRecDepth 100000
def BlS (w : World) (vs : List Value) (W : World) : Prop := Below w.heap.size w W ∧ Blk W w.heap.size vs
theorem BlS.later {w W W' : World} {vs : List Value} (k : BlS w vs W) (hb : Below W.heap.size W W') : BlS w vs W' := ⟨bnext k.1 hb, k.2.later hb k.2.1⟩
theorem BlS.drew {w W : World} {vs : List Value} (k : BlS w vs W) : BlS w vs W.drew := ⟨k.1.drew, k.2.drew⟩
theorem one_row (W : World) (x : Nat) : IRow (W.alloc (.cells #[.int .i64 ((x : Nat) : Int)] 3)) (some ⟨W.heap.size, 0, none⟩) (wordI [x]) := by
  intro _
  refine ⟨W.heap.size, 0, rfl, by simp, fun i hi => ?_⟩
  match i, hi with
  | 0, _ => simp [wordI]
theorem four_row (W : World) (x y z u : Nat) : IRow (W.alloc (.cells #[.int .i64 ((x : Nat) : Int), .int .i64 ((y : Nat) : Int), .int .i64 ((z : Nat) : Int), .int .i64 ((u : Nat) : Int)] 3)) (some ⟨W.heap.size, 0, none⟩) (wordI [x, y, z, u]) := by
  intro _
  refine ⟨W.heap.size, 0, rfl, by simp, fun i hi => ?_⟩
  match i, hi with
  | 0, _ => simp [wordI]
  | 1, _ => simp [wordI]
  | 2, _ => simp [wordI]
  | 3, _ => simp [wordI]
set_option maxHeartbeats 6400000 in
theorem listPut_any (how st crc pk lg pl : Nat) (nm : ByteArray) (w : World) (h0 : how < 65536) (h1 : st < 4294967296) (h2 : crc < 4294967296) (h3 : pk < 4294967296) (h4 : lg < 4294967296) (h5 : nm.size < 65536) (h6 : pl < 4294967296) :
    Calls Tryz.prog 45 #[.agg #[.int .i64 (how : Nat), .int .i64 (st : Nat), .int .i64 (crc : Nat), .int .i64 (pk : Nat), .int .i64 (lg : Nat), .string nm, .int .i64 (pl : Nat)]] w fun e w' => e = .returned (.string (centB how st crc pk lg nm pl)) ∧ Below w.heap.size w w' := by
  have hmix : Tryz.prog.follows .mixedOrders = true := by kernel_rfl
  have CW : Hid (∀ g W, IRow W (some ⟨g, 0, none⟩) (wordI [20]) → Calls Tryz.prog 46 #[.slice (some ⟨g, 0, none⟩) 1 1] W fun e w' => e = .returned (.string (strL (leS 2 20))) ∧ Below W.heap.size W w') := fun g W h => by
    have := wordsPut_any (some ⟨g, 0, none⟩) 1 1 [20] W rfl h (by decide) (by decide)
    rw [show ([20] : List Nat).flatMap (leS 2) = leS 2 20 by simp] at this
    exact this
  have CT : Hid (∀ W, Calls Tryz.prog 67 #[.agg #[.int .i64 (how : Nat), .int .i64 (st : Nat), .int .i64 (crc : Nat), .int .i64 (pk : Nat), .int .i64 (lg : Nat), .string nm]] W fun e w' => e = .returned (.string (toldB how st crc pk lg nm.size)) ∧ Below W.heap.size W w') := fun W => told_any how st crc pk lg nm W h0 h1 h2 h3 h4 h5
  have CL : Hid (∀ W, Calls Tryz.prog 47 #[.int .i64 (pl : Int)] W fun e w' => e = .returned (.string (strL (leS 4 pl))) ∧ Below W.heap.size W w') := fun W => longPut_any pl W h6
  have z0 : ((strL (leS 2 20)).size : Int) ≤ 100 := by rw [strL_size, leS_len]; omega
  have z1 : ((toldB how st crc pk lg nm.size).size : Int) ≤ 100 := by rw [toldB_size]; omega
  have z2 : ((strL (leS 4 pl)).size : Int) ≤ 100 := by rw [strL_size, leS_len]; omega
  have hnI : (nm.size : Int) < 65536 := by omega
  unfold centB
  generalize strL (leS 2 20) = A0 at *
  generalize toldB how st crc pk lg nm.size = A1 at *
  generalize strL (leS 4 pl) = A2 at *
  have T0' : Hid (BlS w [.int .i64 (how : Nat), .int .i64 (st : Nat), .int .i64 (crc : Nat), .int .i64 (pk : Nat), .int .i64 (lg : Nat), .string nm, .int .i64 (pl : Nat)] (w.alloc (.cells #[.int .i64 (how : Nat), .int .i64 (st : Nat), .int .i64 (crc : Nat), .int .i64 (pk : Nat), .int .i64 (lg : Nat), .string nm, .int .i64 (pl : Nat)] 66))) := ⟨(Below.refl _ _).alloc (Nat.le_refl _) _, blk_alloc w _ _⟩
  clear h0 h1 h2 h3 h4 h5 h6
  go_enter Tryz.func45, Tryz.ntmps45
  go_wp2_with fail
  obtain ⟨W0, hW0⟩ : ∃ x, w.alloc (.cells #[.int .i64 (how : Nat), .int .i64 (st : Nat), .int .i64 (crc : Nat), .int .i64 (pk : Nat), .int .i64 (lg : Nat), .string nm, .int .i64 (pl : Nat)] 66) = x := ⟨_, rfl⟩
  rw [hW0] at T0'
  rw [hW0]
  have T0 := T0'
  clear T0' hW0
  refine wp_region_held_drew (S := BlS w [.int .i64 (how : Nat), .int .i64 (st : Nat), .int .i64 (crc : Nat), .int .i64 (pk : Nat), .int .i64 (lg : Nat), .string nm, .int .i64 (pl : Nat)]) hmix (unhide T0).drew (fun hS => ?_)
  refine wpAnyH_take (i := 3) (v := .pointer (some ⟨w.heap.size, 0, none⟩)) rfl (by kernel_rfl) (by kernel_rfl) (by kernel_rfl) (fun _ _ _ h => h) (Or.inl ⟨by rfl, fun W hSw => by go_simp⟩) hS ?_
  refine wpAnyH_take (i := 4) (v := .agg #[.int .i64 (how : Nat), .int .i64 (st : Nat), .int .i64 (crc : Nat), .int .i64 (pk : Nat), .int .i64 (lg : Nat), .string nm]) rfl (by kernel_rfl) (by kernel_rfl) (by kernel_rfl) (fun _ _ _ h => h) (Or.inl ⟨by rfl, fun W hSw => by have s0 := hSw.2.cell 0 _ rfl; have s1 := hSw.2.cell 1 _ rfl; have s2 := hSw.2.cell 2 _ rfl; have s3 := hSw.2.cell 3 _ rfl; have s4 := hSw.2.cell 4 _ rfl; have s5 := hSw.2.cell 5 _ rfl; go_simp⟩) hS ?_
  refine wpAnyH_take (i := 8) (v := .pointer (some ⟨w.heap.size, 6, none⟩)) rfl (by kernel_rfl) (by kernel_rfl) (by kernel_rfl) (fun _ _ _ h => h) (Or.inl ⟨by rfl, fun W hSw => by go_simp⟩) hS ?_
  refine wpAnyH_take (i := 9) (v := .int .i64 (pl : Nat)) rfl (by kernel_rfl) (by kernel_rfl) (by kernel_rfl) (fun _ _ _ h => h) (Or.inl ⟨by rfl, fun W hSw => by have s6 := hSw.2.cell 6 _ rfl; go_simp⟩) hS ?_
  refine wpAnyH_take (i := 12) (v := .pointer (some ⟨w.heap.size, 0, none⟩)) rfl (by kernel_rfl) (by kernel_rfl) (by kernel_rfl) (fun _ _ _ h => h) (Or.inl ⟨by rfl, fun W hSw => by go_simp⟩) hS ?_
  refine wpAnyH_take (i := 13) (v := .pointer (some ⟨w.heap.size, 5, none⟩)) rfl (by kernel_rfl) (by kernel_rfl) (by kernel_rfl) (fun _ _ _ h => h) (Or.inl ⟨by rfl, fun W hSw => by go_simp⟩) hS ?_
  refine wpAnyH_take (i := 14) (v := .string nm) rfl (by kernel_rfl) (by kernel_rfl) (by kernel_rfl) (fun _ _ _ h => h) (Or.inl ⟨by rfl, fun W hSw => by have s5 := hSw.2.cell 5 _ rfl; go_simp⟩) hS ?_
  have T1 := hide ((unhide T0).drew)
  generalize W0.drew = W1 at *
  refine wpAnyH_ready (rs := [0]) (by kernel_rfl) (by simp) ?_
  refine AllReadyH.cons rfl (fun K hK => ?_) AllReadyH.nil
  go_simp
  have Bd : Below W1.heap.size W1 (W1.alloc (.cells #[.int .i64 20] 3)) := (Below.refl _ _).alloc (Nat.le_refl _) _
  have T2 := hide ((unhide T1).later Bd)
  have R2 : Hid (IRow (W1.alloc (.cells #[.int .i64 20] 3)) (some ⟨W1.heap.size, 0, none⟩) (wordI [20])) := one_row _ _
  refine Shut.out hK _ _ (unhide T2) (fun hS => ?_)
  clear hK K Bd T1
  obtain ⟨g, hg⟩ : ∃ x, W1.heap.size = x := ⟨_, rfl⟩
  obtain ⟨W2, hW2⟩ : ∃ x, W1.alloc (.cells #[.int .i64 20] 3) = x := ⟨_, rfl⟩
  rw [hW2] at T2 hS
  rw [hg, hW2] at R2
  rw [hg, hW2]
  refine wpAnyH_ready (rs := [1]) (by kernel_rfl) (by simp) ?_
  refine AllReadyH.cons rfl (fun K hK => ?_) AllReadyH.nil
  go_simp
  go_at_call 46
  refine (unhide CW g W2 (unhide R2)).mono ?_
  rintro e W3 ⟨rfl, Bd⟩
  have T3 := hide ((unhide T2).later Bd)
  refine Shut.out hK _ _ (unhide T3) (fun hS => ?_)
  clear hK K Bd T2
  refine wpAnyH_take (i := 2) (v := .string ((⟨#[80, 75, 1, 2]⟩ : ByteArray) ++ A0)) rfl (by kernel_rfl) (by kernel_rfl) (by kernel_rfl) (fun _ _ _ h => h) (Or.inl ⟨by rfl, fun W hSw => by go_simp <;> omega⟩) hS ?_
  refine wpAnyH_ready (rs := [5]) (by kernel_rfl) (by simp) ?_
  refine AllReadyH.cons rfl (fun K hK => ?_) AllReadyH.nil
  go_simp
  go_at_call 67
  refine (unhide CT W3).mono ?_
  rintro e W4 ⟨rfl, Bd⟩
  have T4 := hide ((unhide T3).later Bd)
  refine Shut.out hK _ _ (unhide T4) (fun hS => ?_)
  clear hK K Bd T3
  refine wpAnyH_take (i := 6) (v := .string ((⟨#[80, 75, 1, 2]⟩ : ByteArray) ++ A0 ++ A1)) rfl (by kernel_rfl) (by kernel_rfl) (by kernel_rfl) (fun _ _ _ h => h) (Or.inl ⟨by rfl, fun W hSw => by go_simp <;> omega⟩) hS ?_
  refine wpAnyH_take (i := 7) (v := .string ((⟨#[80, 75, 1, 2]⟩ : ByteArray) ++ A0 ++ A1 ++ (⟨#[0, 0, 0, 0, 0, 0, 0, 0, 0, 0]⟩ : ByteArray))) rfl (by kernel_rfl) (by kernel_rfl) (by kernel_rfl) (fun _ _ _ h => h) (Or.inl ⟨by rfl, fun W hSw => by go_simp <;> omega⟩) hS ?_
  refine wpAnyH_ready (rs := [10]) (by kernel_rfl) (by simp) ?_
  refine AllReadyH.cons rfl (fun K hK => ?_) AllReadyH.nil
  go_simp
  go_at_call 47
  refine (unhide CL W4).mono ?_
  rintro e W5 ⟨rfl, Bd⟩
  have T5 := hide ((unhide T4).later Bd)
  refine Shut.out hK _ _ (unhide T5) (fun hS => ?_)
  clear hK K Bd T4
  refine wpAnyH_take (i := 11) (v := .string ((⟨#[80, 75, 1, 2]⟩ : ByteArray) ++ A0 ++ A1 ++ (⟨#[0, 0, 0, 0, 0, 0, 0, 0, 0, 0]⟩ : ByteArray) ++ A2)) rfl (by kernel_rfl) (by kernel_rfl) (by kernel_rfl) (fun _ _ _ h => h) (Or.inl ⟨by rfl, fun W hSw => by go_simp <;> omega⟩) hS ?_
  refine wpAnyH_take (i := 15) (v := .string ((⟨#[80, 75, 1, 2]⟩ : ByteArray) ++ A0 ++ A1 ++ (⟨#[0, 0, 0, 0, 0, 0, 0, 0, 0, 0]⟩ : ByteArray) ++ A2 ++ nm)) rfl (by kernel_rfl) (by kernel_rfl) (by kernel_rfl) (fun _ _ _ h => h) (Or.inl ⟨by rfl, fun W hSw => by go_simp <;> omega⟩) hS ?_
  refine wpAnyH_ready (rs := [16]) (by kernel_rfl) (by simp) ?_
  refine AllReadyH.cons rfl (fun K hK => ?_) AllReadyH.nil
  go_simp
  refine Shut.out hK _ _ (unhide T5) (fun hS => ?_)
  clear hK K
  refine wpAnyH_done (by kernel_rfl) ?_ _
  clear hS
  generalize hAA : (⟨#[80, 75, 1, 2]⟩ : ByteArray) ++ A0 ++ A1 ++ (⟨#[0, 0, 0, 0, 0, 0, 0, 0, 0, 0]⟩ : ByteArray) ++ A2 ++ nm = AA
  go_wp2
  go_ret
  exact ⟨by rw [← hAA]; rfl, (unhide T5).1⟩
end Go.Proofs.YtgpghapnmalipaaGreatDoor
namespace Go.Proofs.YtgpghapnmalipaaGreatDoor
open Go.RowKit Corb
set_option maxRecDepth 100000
def Row7 (w : World) (a : Option Addr) (n : Nat) (f : Nat → List Value) : Prop := 0 < n → ∃ g, a = some ⟨g, 0, none⟩ ∧ g < w.heap.size ∧ ∀ i, i < n → ∀ j u, (f i)[j]? = some u → w.cell? ⟨g, i * 7 + j, none⟩ = some u
theorem Row7.later {w w' : World} {a : Option Addr} {n : Nat} {f : Nat → List Value} (h : Row7 w a n f) (hb : Below w.heap.size w w') : Row7 w' a n f := by
  intro h0
  obtain ⟨g, e, hg, hc⟩ := h h0
  exact ⟨g, e, Nat.lt_of_lt_of_le hg hb.size, fun i hi j u hu => (hb.cell (p := ⟨g, i * 7 + j, none⟩) hg).trans (hc i hi j u hu)⟩
theorem own_row7 {α : Type} {T : TypeId} {f : α → List Value} (hf : ∀ x, (f x).length = 7) {w : World} {base cap n : Nat} {a : Option Addr} {l : List α} (d : α) (hn : l.length = n) (h : GOwn T 7 f w base (.slice a n cap) l) : Row7 w a n fun i => f (l.getD i d) := by
  intro h0
  obtain ⟨g, rfl⟩ := h.somes (by omega)
  refine ⟨g, rfl, h.below.2, fun i hi j u hu => ?_⟩
  have hj : j < 7 := by
    rw [← hf (l.getD i d)]
    exact (List.getElem?_eq_some_iff.mp hu).1
  rw [(GOwn.at hf d hn h i j hi hj).1]; exact hu
def hdAt (l : List En) (k : Nat) : En × Nat := (l.getD k default, (zipF (l.take k)).1.size)
def hdL (l : List En) (n : Nat) : List (En × Nat) := (List.range n).map (hdAt l)
theorem hdL_len (l : List En) (n : Nat) : (hdL l n).length = n := by simp [hdL]
theorem hdL_snoc (l : List En) (n : Nat) : hdL l (n + 1) = hdL l n ++ [hdAt l n] := by simp [hdL, List.range_succ]
theorem hdL_get (l : List En) (n i : Nat) (d : En × Nat) (h : i < n) : (hdL l n).getD i d = hdAt l i := by simp [hdL, List.getD, h]
theorem end_is (L : ByteArray) (many long pl : Nat) : L ++ (⟨#[80, 75, 5, 6]⟩ : ByteArray) ++ strL ([0, 0, many, many].flatMap (leS 2)) ++ strL (leS 4 long) ++ strL (leS 4 pl) ++ strL ([0].flatMap (leS 2)) = L ++ endB many long pl := by
  unfold endB
  simp only [ByteArray.append_assoc]
set_option maxHeartbeats 6400000 in
theorem zipEnd_any (a : Option Addr) (cap n : Nat) (l : List En) (w : World) (hn : l.length = n) (h : Row7 w a n fun i => encHd (hdAt l i)) (hm : n ≤ 6) (hs : ∀ i, i < n → entE (l.getD i default) = true) :
    Calls Tryz.prog 32 #[.slice a n cap, .int .i64 ((zipF l).1.size : Nat)] w fun e w' => e = .returned (.string ((zipF l).2 ++ endB n (zipF l).2.size (zipF l).1.size)) ∧ Below w.heap.size w w' := by
  have hmI : (n : Int) ≤ 6 := by omega
  have HZ := hide (zipF_size l (fun i hi => hs i (by omega)))
  have hz := unhide HZ n (by omega)
  rw [List.take_of_length_le (by omega)] at hz
  have hP : (zipF l).1.size < 4294967296 := by omega
  have hPI : ((zipF l).1.size : Int) ≤ 2400 := by omega
  have hL : (zipF l).2.size < 4294967296 := by omega
  have hLI : ((zipF l).2.size : Int) ≤ 600 := by omega
  have Hn := hide hn
  have HS := hide hs
  have HR := hide h
  have CW4 : Hid (∀ g W, IRow W (some ⟨g, 0, none⟩) (wordI [0, 0, n, n]) → Calls Tryz.prog 46 #[.slice (some ⟨g, 0, none⟩) 4 4] W fun e w' => e = .returned (.string (strL ([0, 0, n, n].flatMap (leS 2)))) ∧ Below W.heap.size W w') := fun g W h => wordsPut_any (some ⟨g, 0, none⟩) 4 4 [0, 0, n, n] W rfl h (by decide) (by intro x hx; simp at hx; omega)
  have CW1 : Hid (∀ g W, IRow W (some ⟨g, 0, none⟩) (wordI [0]) → Calls Tryz.prog 46 #[.slice (some ⟨g, 0, none⟩) 1 1] W fun e w' => e = .returned (.string (strL ([0].flatMap (leS 2)))) ∧ Below W.heap.size W w') := fun g W h => wordsPut_any (some ⟨g, 0, none⟩) 1 1 [0] W rfl h (by decide) (by decide)
  have CLL : Hid (∀ W, Calls Tryz.prog 47 #[.int .i64 ((zipF l).2.size : Int)] W fun e w' => e = .returned (.string (strL (leS 4 (zipF l).2.size))) ∧ Below W.heap.size W w') := fun W => longPut_any _ W hL
  have CLP : Hid (∀ W, Calls Tryz.prog 47 #[.int .i64 ((zipF l).1.size : Int)] W fun e w' => e = .returned (.string (strL (leS 4 (zipF l).1.size))) ∧ Below W.heap.size W w') := fun W => longPut_any _ W hP
  have z1 : ((strL ([0, 0, n, n].flatMap (leS 2))).size : Int) ≤ 100 := by rw [strL_size]; simp [leS_len]
  have z2 : ((strL ([0].flatMap (leS 2))).size : Int) ≤ 100 := by rw [strL_size]; simp [leS_len]
  have z3 : ((strL (leS 4 (zipF l).2.size)).size : Int) ≤ 100 := by rw [strL_size, leS_len]; omega
  have z4 : ((strL (leS 4 (zipF l).1.size)).size : Int) ≤ 100 := by rw [strL_size, leS_len]; omega
  have HE := hide (end_is (zipF l).2 n (zipF l).2.size (zipF l).1.size)
  generalize (zipF l).2 ++ endB n (zipF l).2.size (zipF l).1.size = RES at *
  generalize strL ([0, 0, n, n].flatMap (leS 2)) = A1 at *
  generalize strL ([0].flatMap (leS 2)) = A2 at *
  generalize strL (leS 4 (zipF l).2.size) = A3 at *
  generalize strL (leS 4 (zipF l).1.size) = A4 at *
  obtain ⟨PL, hPL⟩ : ∃ x, (zipF l).1.size = x := ⟨_, rfl⟩
  obtain ⟨LI, hLI'⟩ : ∃ x, (zipF l).2 = x := ⟨_, rfl⟩
  rw [hPL] at CLP hPI hP
  rw [hLI'] at CLL HE hLI hL
  have HLI := hide hLI'
  rw [hPL]
  clear hn h hs hz hP hL hPL hLI'
  go_enter Tryz.func32, Tryz.ntmps32
  go_wp2_with fail
  go_loopw [5, 7, 10] (fun o _ i wr => ∃ k : Nat, k ≤ n ∧ i = .int .i64 k ∧ o = .string (zipF (l.take k)).2 ∧ Below w.heap.size w wr) (fun _ _ i _ => n - (intOf i).toNat)
  case atStart => exact ⟨0, Nat.zero_le _, rfl, rfl, Below.refl _ _⟩
  case round =>
    obtain ⟨k, hk, rfl, rfl, hbel⟩ := hrel
    by_cases hlt : k < n
    · obtain ⟨g, rfl, hg, hcc⟩ := (unhide HR).later hbel (by omega)
      have c0 := hcc k hlt 0 _ rfl
      have c1 := hcc k hlt 1 _ rfl
      have c2 := hcc k hlt 2 _ rfl
      have c3 := hcc k hlt 3 _ rfl
      have c4 := hcc k hlt 4 _ rfl
      have c5 := hcc k hlt 5 _ rfl
      have c6 := hcc k hlt 6 _ rfl
      simp only [hdAt] at c0 c1 c2 c3 c4 c5 c6
      rw [Nat.add_zero] at c0
      have hst : Hid ((zipF (l.take (k + 1))).2 = (zipF (l.take k)).2 ++ heE (l.getD k default) (zipF (l.take k)).1.size) := by show _ = _; rw [zipF_take l k (by have := unhide Hn; omega)]; rfl
      have hsz := unhide HZ k (by have := unhide Hn; omega)
      have hszI : ((zipF (l.take k)).2.size : Int) ≤ 600 := by omega
      have hplI : (zipF (l.take k)).1.size < 4294967296 := by omega
      have HEn := unhide HS k hlt
      obtain ⟨f1, f2, f3⟩ := ent_facts (n := (l.getD k default).n) (t := (l.getD k default).t) HEn
      have hN := (st_facts f3).2.2
      have hhe := heE_size (l.getD k default) (zipF (l.take k)).1.size
      have hheI : ((heE (l.getD k default) (zipF (l.take k)).1.size).size : Int) ≤ 100 := by omega
      have hcr : crcMore 0 (l.getD k default).t.data.toList < 4294967296 := crcMore_lt _ _ (by omega)
      have hfz := flateB_small (l.getD k default).t
      have hbz : (bodyB (l.getD k default).t).size ≤ 100000 := by unfold bodyB; split <;> omega
      have hwz : howN (l.getD k default).t ≤ 8 := by unfold howN; split <;> omega
      have hN2 : eN (l.getD k default) < 4294967296 := by unfold eN; omega
      have HP := hide (fun W => listPut_any (howN (l.getD k default).t) (eN (l.getD k default)) (crcMore 0 (l.getD k default).t.data.toList) (bodyB (l.getD k default).t).size (l.getD k default).t.size (zipF (l.take k)).1.size (l.getD k default).n W (by omega) hN2 hcr (by omega) (by omega) (by omega) hplI)
      have HX : Hid (centB (howN (l.getD k default).t) (eN (l.getD k default)) (crcMore 0 (l.getD k default).t.data.toList) (bodyB (l.getD k default).t).size (l.getD k default).t.size (l.getD k default).n (zipF (l.take k)).1.size = heE (l.getD k default) (zipF (l.take k)).1.size) := rfl
      rw [unhide HX] at HP
      have HB := hide (And.intro hbel hk)
      clear hcc HEn f1 f2 f3 hN hhe hsz hplI hcr hfz hbz hwz hN2 hbel hk HX
      generalize howN (l.getD k default).t = v0 at *
      generalize eN (l.getD k default) = v1 at *
      generalize crcMore 0 (l.getD k default).t.data.toList = v2 at *
      generalize (bodyB (l.getD k default).t).size = v3 at *
      generalize (l.getD k default).t.size = v4 at *
      generalize (l.getD k default).n = v5 at *
      generalize heE (l.getD k default) (zipF (l.take k)).1.size = HE1 at *
      generalize (zipF (l.take k)).2 = L1 at *
      generalize (zipF (l.take k)).1.size = P1 at *
      have hA : Hid (Below wr.heap.size wr (wr.alloc (.cells #[.int .i64 (v0 : Nat), .int .i64 (v1 : Nat), .int .i64 (v2 : Nat), .int .i64 (v3 : Nat), .int .i64 (v4 : Nat), .string v5, .int .i64 (P1 : Nat)] 66))) := (Below.refl _ _).alloc (Nat.le_refl _) _
      go_wp2_with fail
      refine (unhide HP _).mono ?_
      rintro e x1 ⟨rfl, hb1⟩
      have HB2 := hide (bnext (unhide HB).1 (bnext (unhide hA) hb1))
      clear hb1 hA
      go_wp2
      go_roundw
      case rel => exact ⟨k + 1, by have := (unhide HB).2; omega, by go_num, by rw [unhide hst], unhide HB2⟩
      case measure => simp [intOf]; omega
    · have hkn : l.take k = l := List.take_of_length_le (by rw [unhide Hn]; omega)
      rw [hkn, unhide HLI]
      have HB := hide hbel
      clear hbel hkn
      have hA : Hid (Below wr.heap.size wr (wr.alloc (.cells #[.int .i64 0, .int .i64 0, .int .i64 (n : Nat), .int .i64 (n : Nat)] 3))) := (Below.refl _ _).alloc (Nat.le_refl _) _
      go_wp2_with fail
      refine (unhide CW4 _ _ (four_row wr 0 0 n n)).mono ?_
      rintro e x1 ⟨rfl, hb1⟩
      have HB1 := hide (bnext (unhide HB) (bnext (unhide hA) hb1))
      clear hb1 hA HB
      go_wp2_with fail
      refine (unhide CLL _).mono ?_
      rintro e x2 ⟨rfl, hb2⟩
      have HB2 := hide (bnext (unhide HB1) hb2)
      clear hb2 HB1
      go_wp2_with fail
      refine (unhide CLP _).mono ?_
      rintro e x3 ⟨rfl, hb3⟩
      have HB3 := hide (bnext (unhide HB2) hb3)
      clear hb3 HB2
      have hA3 : Hid (Below x3.heap.size x3 (x3.alloc (.cells #[.int .i64 0] 3))) := (Below.refl _ _).alloc (Nat.le_refl _) _
      go_wp2_with fail
      refine (unhide CW1 _ _ (one_row x3 0)).mono ?_
      rintro e x4 ⟨rfl, hb4⟩
      have HB4 := hide (bnext (unhide HB3) (bnext (unhide hA3) hb4))
      clear hb4 hA3 HB3
      go_wp2
      go_ret
      exact ⟨by rw [← unhide HE]; rfl, unhide HB4⟩
end Go.Proofs.YtgpghapnmalipaaGreatDoor
namespace Go.Proofs.YtgpghapnmalipaaGreatDoor
open Go.RowKit Corb
set_option maxRecDepth 100000
theorem Tryz.infoHd : (Tryz.prog.info? 66).map (fun i => (i.zero, i.size, i.bytes)) = some (some (.agg #[.int .i64 0, .int .i64 0, .int .i64 0, .int .i64 0, .int .i64 0, .string ⟨#[]⟩, .int .i64 0]), 7, 64) := by kernel_rfl
abbrev HOwn := GOwn (α := En × Nat) 66 7 encHd
theorem Blk.grown {w w' : World} {b : Nat} {vs : List Value} {row : Option Nat} (h : Blk w b vs) (hg : w.grownBy w' row) (hr : some b ≠ row) : Blk w' b vs :=
  ⟨Nat.lt_of_lt_of_le h.1 hg.size, fun i v e => ⟨(World.cell?_of_block (hg.block b h.1 hr)).trans (h.2 i v e).1, (World.frozen?_of_block (hg.block b h.1 hr)).trans (h.2 i v e).2⟩⟩
set_option maxHeartbeats 6400000 in
theorem zipLaid_any (a : Option Addr) (cap n : Nat) (l : List En) (w : World) (hn : l.length = n) (h : Row7 w a n fun i => encLh (l.getD i default)) (hm : n ≤ 6) (hs : ∀ i, i < n → entE (l.getD i default) = true) :
    Calls Tryz.prog 18 #[.slice a n cap] w fun e w' => e = .returned (.string ((zipF l).1 ++ (zipF l).2 ++ endB n (zipF l).2.size (zipF l).1.size)) ∧ Below w.heap.size w w' := by
  have hmI : (n : Int) ≤ 6 := by omega
  have HZ := hide (zipF_size l (fun i hi => hs i (by omega)))
  have Hn := hide hn
  have Hm := hide hm
  have HS := hide hs
  have HR := hide h
  have CEnd := hide (fun W b c (h : Row7 W b n fun i => encHd (hdAt l i)) => zipEnd_any b c n l W hn h hm hs)
  have hz := unhide HZ n (by omega)
  rw [List.take_of_length_le (by omega)] at hz
  have HZE : Hid (((zipF l).2 ++ endB n (zipF l).2.size (zipF l).1.size).size ≤ 1000) := by
    show _ ≤ _
    rw [ByteArray.size_append, endB_size]; omega
  have hz1 : ((zipF l).1.size : Int) ≤ 2400 := by omega
  have HAs : Hid ((zipF l).1 ++ (zipF l).2 ++ endB n (zipF l).2.size (zipF l).1.size = (zipF l).1 ++ ((zipF l).2 ++ endB n (zipF l).2.size (zipF l).1.size)) := ByteArray.append_assoc
  rw [unhide HAs]
  clear hn h hs hm hz HAs
  obtain ⟨i0, hi, hy0, hy1, hy2⟩ := info_parts Tryz.infoHd
  go_enter Tryz.func18, Tryz.ntmps18
  go_wp2_with fail
  go_loopw [3, 4, 6, 9] (fun o q _ i wr => ∃ k : Nat, k ≤ n ∧ i = .int .i64 k ∧ o = .string (zipF (l.take k)).1 ∧ HOwn wr w.heap.size q (hdL l k) ∧ Below w.heap.size w wr) (fun _ _ _ i _ => n - (intOf i).toNat)
  case atStart => exact ⟨0, Nat.zero_le _, rfl, rfl, GOwn.nil _ _, Below.refl _ _⟩
  case round =>
    obtain ⟨k, hk, rfl, rfl, hq, hbel⟩ := hrel
    have hbs := hbel.size
    by_cases hlt : k < n
    · obtain ⟨g, rfl, hg, hcc⟩ := (unhide HR).later hbel (by omega)
      have c0 := hcc k hlt 0 _ rfl
      have c1 := hcc k hlt 1 _ rfl
      have c2 := hcc k hlt 2 _ rfl
      have c3 := hcc k hlt 3 _ rfl
      have c4 := hcc k hlt 4 _ rfl
      have c5 := hcc k hlt 5 _ rfl
      have c6 := hcc k hlt 6 _ rfl
      rw [Nat.add_zero] at c0
      have hst : Hid ((zipF (l.take (k + 1))).1 = (zipF (l.take k)).1 ++ loE (l.getD k default)) := by show _ = _; rw [zipF_take l k (by have := unhide Hn; omega)]; rfl
      have hsn := hide (hdL_snoc l k)
      have hsz := unhide HZ k (by have := unhide Hn; omega)
      have hszI : ((zipF (l.take k)).1.size : Int) ≤ 2400 := by omega
      have HEn := unhide HS k hlt
      obtain ⟨f1, f2, f3⟩ := ent_facts (n := (l.getD k default).n) (t := (l.getD k default).t) HEn
      have hN := (st_facts f3).2.2
      have hlo := (loE_size HEn).2
      have hloI : ((loE (l.getD k default)).size : Int) ≤ 400 := by omega
      have hcr : crcMore 0 (l.getD k default).t.data.toList < 4294967296 := crcMore_lt _ _ (by omega)
      have hfz := flateB_small (l.getD k default).t
      have hbz : (bodyB (l.getD k default).t).size ≤ 100000 := by unfold bodyB; split <;> omega
      have hwz : howN (l.getD k default).t ≤ 8 := by unfold howN; split <;> omega
      have hN2 : eN (l.getD k default) < 4294967296 := by unfold eN; omega
      have HP := hide (fun W => headPut_any (howN (l.getD k default).t) (eN (l.getD k default)) (crcMore 0 (l.getD k default).t.data.toList) (bodyB (l.getD k default).t).size (l.getD k default).t.size (l.getD k default).n (bodyB (l.getD k default).t) W (by omega) hN2 hcr (by omega) (by omega) (by omega) hbz)
      have HX : Hid (headB (howN (l.getD k default).t) (eN (l.getD k default)) (crcMore 0 (l.getD k default).t.data.toList) (bodyB (l.getD k default).t).size (l.getD k default).t.size (l.getD k default).n ++ bodyB (l.getD k default).t = loE (l.getD k default)) := rfl
      rw [unhide HX] at HP
      have HK := hide hk
      have HQ := hide hq
      have HBel := hide hbel
      have HA : Hid (hdAt l k = (l.getD k default, (zipF (l.take k)).1.size)) := rfl
      clear hcc HEn f1 f2 f3 hN hsz hlo hcr hfz hbz hwz hN2 hk HX hq hbel
      have HEnc : Hid (encHd (hdAt l k) = [.int .i64 (howN (l.getD k default).t : Nat), .int .i64 (eN (l.getD k default) : Nat), .int .i64 (crcMore 0 (l.getD k default).t.data.toList : Nat), .int .i64 ((bodyB (l.getD k default).t).size : Nat), .int .i64 ((l.getD k default).t.size : Nat), .string (l.getD k default).n, .int .i64 ((zipF (l.take k)).1.size : Nat)]) := rfl
      have HOne := hide (encHd_one (hdAt l k))
      generalize hv0 : howN (l.getD k default).t = v0 at *
      generalize eN (l.getD k default) = v1 at *
      generalize crcMore 0 (l.getD k default).t.data.toList = v2 at *
      generalize (bodyB (l.getD k default).t).size = v3 at *
      generalize (l.getD k default).t.size = v4 at *
      generalize (l.getD k default).n = v5 at *
      generalize bodyB (l.getD k default).t = v6 at *
      generalize loE (l.getD k default) = LO at *
      generalize (zipF (l.take k)).1 = F1 at *
      rw [unhide HEnc] at HOne
      have hA : Hid (Below wr.heap.size wr (wr.alloc (.cells #[.int .i64 (v0 : Nat), .int .i64 (v1 : Nat), .int .i64 (v2 : Nat), .int .i64 (v3 : Nat), .int .i64 (v4 : Nat), .string v5, .string v6] 50))) := (Below.refl _ _).alloc (Nat.le_refl _) _
      have hlen1 : Hid (k + 1 ≤ maxLen ∧ (k + 1) * 64 ≤ 140737488355328) := by
        show _ ∧ _
        have := unhide Hm
        unfold maxLen
        omega
      have hq1 := GOwn.own (hdL_len l k) ((unhide HQ).later (unhide hA) (Nat.le_refl _))
      have hbel1 := bnext (unhide HBel) (unhide hA)
      have hbs1 := hbel1.size
      have HQ0 := hide (GOwn.own (hdL_len l k) (unhide HQ))
      have hP := hide (blk_alloc wr #[.int .i64 (v0 : Nat), .int .i64 (v1 : Nat), .int .i64 (v2 : Nat), .int .i64 (v3 : Nat), .int .i64 (v4 : Nat), .string v5, .string v6] 50)
      clear HQ HBel
      obtain ⟨W1, hW1⟩ : ∃ x, wr.alloc (.cells #[.int .i64 (v0 : Nat), .int .i64 (v1 : Nat), .int .i64 (v2 : Nat), .int .i64 (v3 : Nat), .int .i64 (v4 : Nat), .string v5, .string v6] 50) = x := ⟨_, rfl⟩
      have hZ1 : Hid (W1.heap.size = wr.heap.size + 1) := by show _ = _; rw [← hW1]; simp
      rw [hW1] at hA hq1 hbel1 hbs1 hP
      have HQ1 := hide hq1
      have hap : Hid (∀ j, Value.ownBlock u4 = some j → j < wr.heap.size) := fun j hj => (World.ownsRow.lt (unhide HQ0) j hj).2
      have p0 := (unhide hP).cell 0 _ rfl
      have p1 := (unhide hP).cell 1 _ rfl
      have p2 := (unhide hP).cell 2 _ rfl
      have p3 := (unhide hP).cell 3 _ rfl
      have p4 := (unhide hP).cell 4 _ rfl
      have p5 := (unhide hP).cell 5 _ rfl
      have p6 := (unhide hP).cell 6 _ rfl
      go_wp2_with (at_builtin; refine wpList_append_own _ rfl _ _ 64 rfl w.heap.size 66 i0 (.agg #[.int .i64 0, .int .i64 0, .int .i64 0, .int .i64 0, .int .i64 0, .string ⟨#[]⟩, .int .i64 0]) 7 64 Tryz.underlying64 hi hy0 hy1 hy2 rfl (by decide) _ _ _ rfl (World.ownsRow.alloc hq1 _) ⟨W1.heap.size, 0, none⟩ 1 1 [.int .i64 (v0 : Nat), .int .i64 (v1 : Nat), .int .i64 (v2 : Nat), .int .i64 (v3 : Nat), .int .i64 (v4 : Nat), .string v5, .int .i64 (F1.size : Nat)] rfl rfl (new_cells W1 _ _) (unhide HOne) (unhide hlen1).1 (unhide hlen1).2 (size_alloc_le hbs1 _) ?_; intro v' x2 hown hgrow hnil; clear hnil; have hP2 := hide (Blk.grown (Blk.later (unhide hP) ((Below.refl _ _).alloc (Nat.le_refl _) _) (unhide hP).1) hgrow (fun e => absurd (unhide hap _ e.symm) (Nat.lt_irrefl _))); have r0 := (unhide hP2).cell 0 _ rfl; have r1 := (unhide hP2).cell 1 _ rfl; have r2 := (unhide hP2).cell 2 _ rfl; have r3 := (unhide hP2).cell 3 _ rfl; have r4 := (unhide hP2).cell 4 _ rfl; have r5 := (unhide hP2).cell 5 _ rfl; have r6 := (unhide hP2).cell 6 _ rfl)
      refine (unhide HP _).mono ?_
      rintro e x3 ⟨rfl, hb3⟩
      have hb2 := grown_step (v := u4) hgrow hq1 (Nat.le_refl _) hbs1 hbel1
      have hq2 : HOwn x2 w.heap.size v' (hdL l k ++ [hdAt l k]) := GOwn.snoc (hdL_len l k) (by rw [unhide HEnc]; exact hown)
      rw [← unhide hsn] at hq2
      have HQ3 := hide (hq2.later hb3 (Nat.le_refl _))
      have HB3 := hide (bnext hb2 hb3)
      clear hown hgrow hq1 hq2 hb2 hb3 hP2 r0 r1 r2 r3 r4 r5 r6 p0 p1 p2 p3 p4 p5 p6 hbel1 hbs1 hP hA hW1
      go_wp2
      go_roundw
      case rel => exact ⟨k + 1, by have := unhide HK; omega, by go_num, by rw [unhide hst], unhide HQ3, unhide HB3⟩
      case measure => simp [intOf]; omega
    · have hkn : k = n := by omega
      subst hkn
      rw [List.take_of_length_le (by rw [unhide Hn]; omega)]
      obtain ⟨b, c, rfl, hcap, _⟩ := hq.formN (hdL_len l k)
      have HW := hide (own_row7 encHd_len (default, 0) (hdL_len l k) hq)
      have HB := hide hbel
      clear hq hbel
      have HW2 : Hid (Row7 wr b k fun i => encHd (hdAt l i)) := by
        intro h0
        obtain ⟨g, e, hg, hc⟩ := unhide HW h0
        exact ⟨g, e, hg, fun i hi j u hu => hc i hi j u (by show (encHd ((hdL l k).getD i _))[j]? = _; rw [hdL_get l k i _ hi]; exact hu)⟩
      have hE := unhide HZE
      have hEI : (((zipF l).2 ++ endB k (zipF l).2.size (zipF l).1.size).size : Int) ≤ 1000 := by omega
      clear HW hE HZE HZ HS HR
      generalize hEN : (zipF l).2 ++ endB k (zipF l).2.size (zipF l).1.size = EN at *
      generalize hF1 : (zipF l).1 = F1 at *
      have HEN := hide (And.intro hEN hF1)
      clear hEN hF1
      go_wp2_with fail
      refine (unhide CEnd _ _ _ (unhide HW2)).mono ?_
      rintro e x1 ⟨rfl, hb1⟩
      have HB1 := hide (bnext (unhide HB) hb1)
      clear hb1
      go_wp2
      go_ret
      exact ⟨by rw [← (unhide HEN).1, ← (unhide HEN).2]; rfl, unhide HB1⟩
end Go.Proofs.YtgpghapnmalipaaGreatDoor
namespace Go.Proofs.YtgpghapnmalipaaGreatDoor
open Go.RowKit Corb
set_option maxRecDepth 100000
set_option maxHeartbeats 3200000 in
theorem implZipPut_any (a : Option Addr) (cap : Nat) (l : List En) (n : Nat) (hn : l.length = n) (m : Int) (w : World) (h : ERow w a l) (hl : (n : Int) ≤ 1048576) (hcap : (n : Int) ≤ (cap : Int))
    (hs : ∀ i, i < n → (l.getD i default).n.size ≤ 1048576 ∧ ((l.getD i default).t.size : Int) ≤ 9223372036854775807) (hm : w.cell? ⟨2, 0, none⟩ = some (.int .i64 m)) (hg : ErrT w) (hO : OrdC w) :
    Calls Tryz.prog 8 #[.slice a n cap] w fun e w' => e = .returned (.string (zipP l)) ∧ Below w.heap.size w w' := by
  have CZ := hide (implZipOk_any a cap l n hn m w h hl hcap hs hm hg)
  cases hk : zipB l
  · have HP : Hid (zipP l = ⟨#[]⟩) := by simp [Hid, zipP, hk]
    rw [hk] at CZ
    clear h hs hm hg hO
    go_enter Tryz.func8, Tryz.ntmps8
    go_wp2_with fail
    refine (unhide CZ).mono ?_
    rintro e x1 ⟨rfl, hb1⟩
    have HB1 := hide hb1
    clear hb1
    go_wp2
    go_ret
    exact ⟨by rw [unhide HP]; rfl, unhide HB1⟩
  · obtain ⟨hal, h6⟩ := zip_all hk
    have HP : Hid (zipP l = (zipF l).1 ++ (zipF l).2 ++ endB n (zipF l).2.size (zipF l).1.size) := by
      show _ = _
      rw [zipP, if_pos hk, hn]
    have HAL : Hid (∀ i, i < n → entE (l.getD i default) = true) := fun i hi => hal i (by omega)
    have HN := hide hn
    have H6 : Hid (n ≤ 6) := by show _ ≤ _; omega
    have HR := hide h
    have HO := hide hO
    rw [hk] at CZ
    clear h hs hm hg hO hal h6 hn
    go_enter Tryz.func8, Tryz.ntmps8
    go_wp2_with fail
    refine (unhide CZ).mono ?_
    rintro e x1 ⟨rfl, hb1⟩
    have HB1 := hide hb1
    clear hb1 CZ
    go_wp2_with fail
    refine (eachLh_any a cap n l _ (unhide HN) ((unhide HR).later (unhide HB1)) (unhide H6) (unhide HAL) ((unhide HO).later (unhide HB1))).mono ?_
    rintro e x2 ⟨v, rfl, hq, hb2⟩
    obtain ⟨b, c, rfl, _, _⟩ := hq.formN (unhide HN)
    have HB2 := hide (bnext (unhide HB1) hb2)
    have HW := hide (own_row7 encLh_len default (unhide HN) hq)
    clear hq hb2 HB1
    go_wp2_with fail
    refine (zipLaid_any b c n l _ (unhide HN) (unhide HW) (unhide H6) (unhide HAL)).mono ?_
    rintro e x3 ⟨rfl, hb3⟩
    have HB3 := hide (bnext (unhide HB2) hb3)
    rw [← unhide HP]
    clear hb3 HB2 HW
    go_wp2
    go_ret
    exact ⟨rfl, unhide HB3⟩
end Go.Proofs.YtgpghapnmalipaaGreatDoor
namespace Go.Proofs.YtgpghapnmalipaaGreatDoor
open Go.RowKit Corb
set_option maxRecDepth 100000
theorem l7end_is (many long pl : Nat) : strL (leS 4 101010256) ++ strL (leS 2 0) ++ strL (leS 2 0) ++ strL (leS 2 many) ++ strL (leS 2 many) ++ strL (leS 4 long) ++ strL (leS 4 pl) ++ strL (leS 2 0) = endB many long pl := by
  unfold endB
  rw [emark_is]
  apply ba_of_list
  simp [strL, List.flatMap_cons]
theorem l7cent_is (n T A4 : ByteArray) : strL (leS 4 33639248) ++ strL (leS 2 20) ++ T ++ strL (leS 2 0) ++ strL (leS 2 0) ++ strL (leS 2 0) ++ strL (leS 4 0) ++ A4 ++ n = (⟨#[80, 75, 1, 2]⟩ : ByteArray) ++ strL (leS 2 20) ++ T ++ (⟨#[0, 0, 0, 0, 0, 0, 0, 0, 0, 0]⟩ : ByteArray) ++ A4 ++ n := by
  rw [cmark_is, ← blank_is]
  simp only [ByteArray.append_assoc]
set_option maxHeartbeats 3200000 in
theorem l7End_any (many long pl : Nat) (w : World) (h0 : many < 65536) (h1 : long < 4294967296) (h2 : pl < 4294967296) :
    Calls Tryz.prog 27 #[.int .i64 (many : Nat), .int .i64 (long : Nat), .int .i64 (pl : Nat)] w fun e w' => e = .returned (.string (endB many long pl)) ∧ Below w.heap.size w w' := by
  have CE : Hid (∀ W, Calls Tryz.prog 39 #[.int .i64 101010256, .int .i64 4] W fun e w' => e = .returned (.string (strL (leS 4 101010256))) ∧ Below W.heap.size W w') := fun W => l6Bytes_any 101010256 4 W (by omega) (by omega)
  have C0 : Hid (∀ W, Calls Tryz.prog 39 #[.int .i64 0, .int .i64 2] W fun e w' => e = .returned (.string (strL (leS 2 0))) ∧ Below W.heap.size W w') := fun W => l6Bytes_any 0 2 W (by omega) (by omega)
  have CM : Hid (∀ W, Calls Tryz.prog 39 #[.int .i64 (many : Nat), .int .i64 2] W fun e w' => e = .returned (.string (strL (leS 2 many))) ∧ Below W.heap.size W w') := fun W => l6Bytes_any many 2 W (by omega) (by omega)
  have CL : Hid (∀ W, Calls Tryz.prog 39 #[.int .i64 (long : Nat), .int .i64 4] W fun e w' => e = .returned (.string (strL (leS 4 long))) ∧ Below W.heap.size W w') := fun W => l6Bytes_any long 4 W (by omega) (by omega)
  have CP : Hid (∀ W, Calls Tryz.prog 39 #[.int .i64 (pl : Nat), .int .i64 4] W fun e w' => e = .returned (.string (strL (leS 4 pl))) ∧ Below W.heap.size W w') := fun W => l6Bytes_any pl 4 W (by omega) (by omega)
  have HE := hide (l7end_is many long pl)
  have zz : ∀ many V, many ≤ 4 → ((strL (leS many V)).size : Int) ≤ 4 := fun many V hm => by rw [strL_size, leS_len]; omega
  have z1 := zz 4 101010256 (by omega)
  have z2 := zz 2 0 (by omega)
  have z3 := zz 2 many (by omega)
  have z4 := zz 4 long (by omega)
  have z5 := zz 4 pl (by omega)
  generalize strL (leS 4 101010256) = A1 at *
  generalize strL (leS 2 0) = A2 at *
  generalize strL (leS 2 many) = A3 at *
  generalize strL (leS 4 long) = A4 at *
  generalize strL (leS 4 pl) = A5 at *
  generalize endB many long pl = RES at *
  clear h0 h1 h2 zz
  go_enter Tryz.func27, Tryz.ntmps27
  go_wp2_with fail
  refine (unhide CE _).mono ?_
  rintro e x1 ⟨rfl, B1⟩
  go_wp2_with fail
  refine (unhide C0 _).mono ?_
  rintro e x2 ⟨rfl, b2⟩
  have B2 := bnext B1 b2
  clear B1 b2
  go_wp2_with fail
  refine (unhide C0 _).mono ?_
  rintro e x3 ⟨rfl, b3⟩
  have B3 := bnext B2 b3
  clear B2 b3
  go_wp2_with fail
  refine (unhide CM _).mono ?_
  rintro e x4 ⟨rfl, b4⟩
  have B4 := bnext B3 b4
  clear B3 b4
  go_wp2_with fail
  refine (unhide CM _).mono ?_
  rintro e x5 ⟨rfl, b5⟩
  have B5 := bnext B4 b5
  clear B4 b5
  go_wp2_with fail
  refine (unhide CL _).mono ?_
  rintro e x6 ⟨rfl, b6⟩
  have B6 := bnext B5 b6
  clear B5 b6
  go_wp2_with fail
  refine (unhide CP _).mono ?_
  rintro e x7 ⟨rfl, b7⟩
  have B7 := bnext B6 b7
  clear B6 b7
  go_wp2_with fail
  refine (unhide C0 _).mono ?_
  rintro e x8 ⟨rfl, b8⟩
  have B8 := bnext B7 b8
  clear B7 b8
  go_wp2
  go_ret
  exact ⟨by rw [← unhide HE]; rfl, B8⟩
set_option maxHeartbeats 6400000 in
theorem l7Central_any (n t : ByteArray) (y mo d h mi s : Int) (N pl : Nat) (w : World) (k : (0 ≤ y ∧ y ≤ 100000) ∧ (0 ≤ mo ∧ mo ≤ 100) ∧ (0 ≤ d ∧ d ≤ 100) ∧ (0 ≤ h ∧ h ≤ 100) ∧ (0 ≤ mi ∧ mi ≤ 100) ∧ -100 ≤ s ∧ s ≤ 100)
    (hN : (((((y - 1980) * 16 + mo) * 32 + d) * 32 + h) * 64 + mi) * 32 + Int.tdiv s 2 = (N : Int)) (hN2 : N < 4294967296) (hn : n.size < 65536) (ht : t.size ≤ 1048576) (hp : pl < 4294967296) :
    Calls Tryz.prog 25 #[.agg #[.string n, .int .i64 y, .int .i64 mo, .int .i64 d, .int .i64 h, .int .i64 mi, .int .i64 s, .string t], .int .i64 (pl : Nat)] w fun e w' => e = .returned (.string (centB (howN t) N (crcMore 0 t.data.toList) (bodyB t).size t.size n pl)) ∧ Below w.heap.size w w' := by
  have hmix : Tryz.prog.follows .mixedOrders = true := by kernel_rfl
  have CF := hide (fun W => l6Fields_any n t y mo d h mi s N W k hN hN2 hn ht)
  have CM : Hid (∀ W, Calls Tryz.prog 39 #[.int .i64 33639248, .int .i64 4] W fun e w' => e = .returned (.string (strL (leS 4 33639248))) ∧ Below W.heap.size W w') := fun W => l6Bytes_any 33639248 4 W (by omega) (by omega)
  have CV : Hid (∀ W, Calls Tryz.prog 39 #[.int .i64 20, .int .i64 2] W fun e w' => e = .returned (.string (strL (leS 2 20))) ∧ Below W.heap.size W w') := fun W => l6Bytes_any 20 2 W (by omega) (by omega)
  have C0 : Hid (∀ W, Calls Tryz.prog 39 #[.int .i64 0, .int .i64 2] W fun e w' => e = .returned (.string (strL (leS 2 0))) ∧ Below W.heap.size W w') := fun W => l6Bytes_any 0 2 W (by omega) (by omega)
  have C4 : Hid (∀ W, Calls Tryz.prog 39 #[.int .i64 0, .int .i64 4] W fun e w' => e = .returned (.string (strL (leS 4 0))) ∧ Below W.heap.size W w') := fun W => l6Bytes_any 0 4 W (by omega) (by omega)
  have CP : Hid (∀ W, Calls Tryz.prog 39 #[.int .i64 (pl : Nat), .int .i64 4] W fun e w' => e = .returned (.string (strL (leS 4 pl))) ∧ Below W.heap.size W w') := fun W => l6Bytes_any pl 4 W (by omega) (by omega)
  have hnI : (n.size : Int) < 65536 := by omega
  have HE := hide (l7cent_is n (toldB (howN t) N (crcMore 0 t.data.toList) (bodyB t).size t.size n.size) (strL (leS 4 pl)))
  unfold centB
  have zz : ∀ many V, many ≤ 4 → ((strL (leS many V)).size : Int) ≤ 4 := fun many V hm => by rw [strL_size, leS_len]; omega
  have z1 := zz 4 33639248 (by omega)
  have z2 := zz 2 20 (by omega)
  have z3 : ((toldB (howN t) N (crcMore 0 t.data.toList) (bodyB t).size t.size n.size).size : Int) ≤ 26 := by rw [toldB_size]; omega
  have z4 := zz 2 0 (by omega)
  have z5 := zz 4 0 (by omega)
  have z6 := zz 4 pl (by omega)
  generalize (⟨#[80, 75, 1, 2]⟩ : ByteArray) ++ strL (leS 2 20) ++ toldB (howN t) N (crcMore 0 t.data.toList) (bodyB t).size t.size n.size ++ (⟨#[0, 0, 0, 0, 0, 0, 0, 0, 0, 0]⟩ : ByteArray) ++ strL (leS 4 pl) ++ n = RES at *
  generalize strL (leS 4 33639248) = A1 at *
  generalize strL (leS 2 20) = A2 at *
  generalize toldB (howN t) N (crcMore 0 t.data.toList) (bodyB t).size t.size n.size = A3 at *
  generalize strL (leS 2 0) = A4 at *
  generalize strL (leS 4 0) = A5 at *
  generalize strL (leS 4 pl) = A6 at *
  have T0' : Hid (EigS w n y mo d h mi s t (w.alloc (.cells #[.string n, .int .i64 y, .int .i64 mo, .int .i64 d, .int .i64 h, .int .i64 mi, .int .i64 s, .string t] 42))) := ⟨(Below.refl _ _).alloc (Nat.le_refl _) _, by simp, by simp, by simp, by simp, by simp, by simp, by simp, by simp, by simp⟩
  clear k hN hN2 hn ht hp zz
  go_enter Tryz.func25, Tryz.ntmps25
  go_wp2_with fail
  obtain ⟨W1, hW1⟩ : ∃ x, w.alloc (.cells #[.string n, .int .i64 y, .int .i64 mo, .int .i64 d, .int .i64 h, .int .i64 mi, .int .i64 s, .string t] 42) = x := ⟨_, rfl⟩
  rw [hW1] at T0'
  rw [hW1]
  have T1 := T0'
  clear T0' hW1
  obtain ⟨c0, c1, c2, c3, c4, c5, c6, c7⟩ := (unhide T1).2.2
  have k0 := cell_regrown c0
  have k1 := cell_regrown c1
  have k2 := cell_regrown c2
  have k3 := cell_regrown c3
  have k4 := cell_regrown c4
  have k5 := cell_regrown c5
  have k6 := cell_regrown c6
  have k7 := cell_regrown c7
  have q1 := fun d os => Calls.regrown_of (w := W1) (d := d) (os := os) (unhide CM _)
  have q2 := fun d os => Calls.regrown_of (w := W1) (d := d) (os := os) (unhide CV _)
  have q3 := fun d os => Calls.regrown_of (w := W1) (d := d) (os := os) (unhide CF _)
  have q4 := fun d os => Calls.regrown_of (w := W1) (d := d) (os := os) (unhide C0 _)
  have q5 := fun d os => Calls.regrown_of (w := W1) (d := d) (os := os) (unhide C4 _)
  have q6 := fun d os => Calls.regrown_of (w := W1) (d := d) (os := os) (unhide CP _)
  have n1 : ¬ 9223372036854775807 < A1.size + A2.size := by omega
  have n2 : ¬ 9223372036854775807 < A1.size + A2.size + A3.size := by omega
  have n3 : ¬ 9223372036854775807 < A1.size + A2.size + A3.size + A4.size := by omega
  have n4 : ¬ 9223372036854775807 < A1.size + A2.size + A3.size + A4.size + A4.size := by omega
  have n5 : ¬ 9223372036854775807 < A1.size + A2.size + A3.size + A4.size + A4.size + A4.size := by omega
  have n6 : ¬ 9223372036854775807 < A1.size + A2.size + A3.size + A4.size + A4.size + A4.size + A5.size := by omega
  have n7 : ¬ 9223372036854775807 < A1.size + A2.size + A3.size + A4.size + A4.size + A4.size + A5.size + A6.size := by omega
  have n8 : ¬ 9223372036854775807 < A1.size + A2.size + A3.size + A4.size + A4.size + A4.size + A5.size + A6.size + n.size := by omega
  refine wp_region_quiet_below hmix (by kernel_rfl) ?_
  quiet_step (exact q1 _ _)
  quiet_step (exact q2 _ _)
  quiet_step (fail)
  quiet_step (fail)
  quiet_step (exact q3 _ _)
  quiet_step (fail)
  quiet_step (exact q4 _ _)
  quiet_step (fail)
  quiet_step (exact q4 _ _)
  quiet_step (fail)
  quiet_step (exact q4 _ _)
  quiet_step (fail)
  quiet_step (exact q5 _ _)
  quiet_step (fail)
  quiet_step (fail)
  quiet_step (exact q6 _ _)
  quiet_step (fail)
  quiet_step (fail)
  quiet_step (fail)
  quiet_step (fail)
  quiet_step (fail)
  refine wpQuiet_nil ?_
  intro zw hw'
  obtain ⟨⟨dq, osq⟩, hw2⟩ := hw'
  have HZ := below_regrown W1 dq osq
  rw [← hw2] at HZ
  have T9 := hide (bnext (unhide T1).1 HZ)
  clear n1 n2 n3 n4 n5 n6 n7 n8 hw2 HZ k0 k1 k2 k3 k4 k5 k6 k7 q1 q2 q3 q4 q5 q6 c0 c1 c2 c3 c4 c5 c6 c7
  go_wp2
  go_ret
  exact ⟨by rw [← unhide HE]; rfl, unhide T9⟩
end Go.Proofs.YtgpghapnmalipaaGreatDoor
namespace Go.Proofs.YtgpghapnmalipaaGreatDoor
open Go.RowKit Corb
set_option maxRecDepth 100000
set_option maxHeartbeats 6400000 in
theorem l7Put_any (a : Option Addr) (cap n : Nat) (l : List En) (w : World) (hn : l.length = n) (h : ERow w a l) (hm : n ≤ 6) (hs : ∀ i, i < n → entE (l.getD i default) = true) :
    Calls Tryz.prog 15 #[.slice a n cap] w fun e w' => e = .returned (.string ((zipF l).1 ++ (zipF l).2 ++ endB n (zipF l).2.size (zipF l).1.size)) ∧ Below w.heap.size w w' := by
  have hmI : (n : Int) ≤ 6 := by omega
  have HZ := hide (zipF_size l (fun i hi => hs i (by omega)))
  have Hn := hide hn
  have HS := hide hs
  have HR := hide h
  have hz := unhide HZ n (by omega)
  rw [List.take_of_length_le (by omega)] at hz
  have CE := hide (fun W => l7End_any n (zipF l).2.size (zipF l).1.size W (by omega) (by omega) (by omega))
  have hz1 : ((zipF l).1.size : Int) ≤ 2400 := by omega
  have hz2 : ((zipF l).2.size : Int) ≤ 600 := by omega
  have hz3 : ((endB n (zipF l).2.size (zipF l).1.size).size : Int) ≤ 22 := by rw [endB_size]; omega
  clear hn h hs hm hz
  go_enter Tryz.func15, Tryz.ntmps15
  go_wp2_with fail
  go_loopw [3, 4, 5] (fun o q i wr => ∃ k : Nat, k ≤ n ∧ i = .int .i64 k ∧ o = .string (zipF (l.take k)).1 ∧ q = .string (zipF (l.take k)).2 ∧ Below w.heap.size w wr) (fun _ _ i _ => n - (intOf i).toNat)
  case atStart => exact ⟨0, Nat.zero_le _, rfl, rfl, rfl, Below.refl _ _⟩
  case round =>
    obtain ⟨k, hk, rfl, rfl, rfl, hbel⟩ := hrel
    by_cases hlt : k < n
    · obtain ⟨g, o, rfl, hg, hcc⟩ := (unhide HR).later hbel (by have := unhide Hn; omega)
      obtain ⟨c0, c1, c2, c3, c4, c5, c6, c7⟩ := hcc k (by have := unhide Hn; omega)
      have hst1 : Hid ((zipF (l.take (k + 1))).1 = (zipF (l.take k)).1 ++ loE (l.getD k default)) := by show _ = _; rw [zipF_take l k (by have := unhide Hn; omega)]; rfl
      have hst2 : Hid ((zipF (l.take (k + 1))).2 = (zipF (l.take k)).2 ++ heE (l.getD k default) (zipF (l.take k)).1.size) := by show _ = _; rw [zipF_take l k (by have := unhide Hn; omega)]; rfl
      have hsz := unhide HZ k (by have := unhide Hn; omega)
      have hy1 : ((zipF (l.take k)).1.size : Int) ≤ 2400 := by omega
      have hy2 : ((zipF (l.take k)).2.size : Int) ≤ 600 := by omega
      have HEn := unhide HS k hlt
      obtain ⟨f1, f2, f3⟩ := ent_facts (n := (l.getD k default).n) (t := (l.getD k default).t) HEn
      obtain ⟨g1, g2, g3, _⟩ := st_facts f3
      have hlo := (loE_size HEn).2
      have hloI : ((loE (l.getD k default)).size : Int) ≤ 400 := by omega
      have hhe := heE_size (l.getD k default) (zipF (l.take k)).1.size
      have hheI : ((heE (l.getD k default) (zipF (l.take k)).1.size).size : Int) ≤ 100 := by omega
      have CC := hide (fun W => l7Central_any (l.getD k default).n (l.getD k default).t (l.getD k default).y (l.getD k default).mo (l.getD k default).d (l.getD k default).h (l.getD k default).mi (l.getD k default).s (eN (l.getD k default)) (zipF (l.take k)).1.size W g1 g2 g3 (by omega) (by omega) (by omega))
      have CL := hide (fun W => l6Local_any (l.getD k default).n (l.getD k default).t (l.getD k default).y (l.getD k default).mo (l.getD k default).d (l.getD k default).h (l.getD k default).mi (l.getD k default).s (eN (l.getD k default)) W g1 g2 g3 (by omega) (by omega))
      have HX1 : Hid (centB (howN (l.getD k default).t) (eN (l.getD k default)) (crcMore 0 (l.getD k default).t.data.toList) (bodyB (l.getD k default).t).size (l.getD k default).t.size (l.getD k default).n (zipF (l.take k)).1.size = heE (l.getD k default) (zipF (l.take k)).1.size) := rfl
      have HX2 : Hid (localB (l.getD k default).n (l.getD k default).t (eN (l.getD k default)) = loE (l.getD k default)) := rfl
      rw [unhide HX1] at CC
      rw [unhide HX2] at CL
      have HB := hide (And.intro hbel hk)
      clear hcc HEn f1 f2 f3 g1 g2 g3 hsz hlo hhe hbel hk HX1 HX2
      generalize loE (l.getD k default) = LO at *
      generalize heE (l.getD k default) (zipF (l.take k)).1.size = HE at *
      generalize (zipF (l.take k)).1 = F1 at *
      generalize (zipF (l.take k)).2 = F2 at *
      generalize l.getD k default = en at *
      go_wp2_with fail
      refine (unhide CC _).mono ?_
      rintro e x1 ⟨rfl, hb1⟩
      have HB1 := hide (bnext (unhide HB).1 hb1)
      have d0 := (hb1.cell (p := ⟨g, o + k * 8, none⟩) hg).trans c0
      have d1 := (hb1.cell (p := ⟨g, o + k * 8 + 1, none⟩) hg).trans c1
      have d2 := (hb1.cell (p := ⟨g, o + k * 8 + 2, none⟩) hg).trans c2
      have d3 := (hb1.cell (p := ⟨g, o + k * 8 + 3, none⟩) hg).trans c3
      have d4 := (hb1.cell (p := ⟨g, o + k * 8 + 4, none⟩) hg).trans c4
      have d5 := (hb1.cell (p := ⟨g, o + k * 8 + 5, none⟩) hg).trans c5
      have d6 := (hb1.cell (p := ⟨g, o + k * 8 + 6, none⟩) hg).trans c6
      have d7 := (hb1.cell (p := ⟨g, o + k * 8 + 7, none⟩) hg).trans c7
      clear hb1 CC
      go_wp2_with fail
      refine (unhide CL _).mono ?_
      rintro e x2 ⟨rfl, hb2⟩
      have HB2 := hide (bnext (unhide HB1) hb2)
      clear hb2 HB1 CL
      go_wp2
      go_roundw
      case rel => exact ⟨k + 1, by have := (unhide HB).2; omega, by go_num, by rw [unhide hst1], by rw [unhide hst2], unhide HB2⟩
      case measure => simp [intOf]; omega
    · have hkn : k = n := by omega
      subst hkn
      rw [List.take_of_length_le (by rw [unhide Hn]; omega)]
      have HB := hide hbel
      clear hbel
      generalize hEB : endB k (zipF l).2.size (zipF l).1.size = EB at *
      generalize hF1 : (zipF l).1 = F1 at *
      generalize hF2 : (zipF l).2 = F2 at *
      have HEN := hide (And.intro hEB (And.intro hF1 hF2))
      clear hEB hF1 hF2
      go_wp2_with fail
      refine (unhide CE _).mono ?_
      rintro e x1 ⟨rfl, hb1⟩
      have HB1 := hide (bnext (unhide HB) hb1)
      clear hb1
      go_wp2
      go_ret
      exact ⟨by rw [(unhide HEN).2.1, (unhide HEN).2.2, (unhide HEN).1]; rfl, unhide HB1⟩
set_option maxHeartbeats 3200000 in
theorem specZipPut_any (a : Option Addr) (cap : Nat) (l : List En) (n : Nat) (hn : l.length = n) (w : World) (h : ERow w a l) (hl : (n : Int) ≤ 1048576)
    (hs : ∀ i, i < n → (l.getD i default).n.size ≤ 1048576 ∧ ((l.getD i default).t.size : Int) ≤ 9223372036854775807) :
    Calls Tryz.prog 6 #[.slice a n cap] w fun e w' => e = .returned (.string (zipP l)) ∧ Below w.heap.size w w' := by
  have CZ := hide (specZipOk_any a cap l n hn w h hl hs)
  cases hk : zipB l
  · have HP : Hid (zipP l = ⟨#[]⟩) := by simp [Hid, zipP, hk]
    rw [hk] at CZ
    clear h hs
    go_enter Tryz.func6, Tryz.ntmps6
    go_wp2_with fail
    refine (unhide CZ).mono ?_
    rintro e x1 ⟨rfl, hb1⟩
    have HB1 := hide hb1
    clear hb1
    go_wp2
    go_ret
    exact ⟨by rw [unhide HP]; rfl, unhide HB1⟩
  · obtain ⟨hal, h6⟩ := zip_all hk
    have HP : Hid (zipP l = (zipF l).1 ++ (zipF l).2 ++ endB n (zipF l).2.size (zipF l).1.size) := by
      show _ = _
      rw [zipP, if_pos hk, hn]
    have HAL : Hid (∀ i, i < n → entE (l.getD i default) = true) := fun i hi => hal i (by omega)
    have HN := hide hn
    have H6 : Hid (n ≤ 6) := by show _ ≤ _; omega
    have HR := hide h
    rw [hk] at CZ
    clear h hs hal h6 hn
    go_enter Tryz.func6, Tryz.ntmps6
    go_wp2_with fail
    refine (unhide CZ).mono ?_
    rintro e x1 ⟨rfl, hb1⟩
    have HB1 := hide hb1
    clear hb1 CZ
    go_wp2_with fail
    refine (l7Put_any a cap n l _ (unhide HN) ((unhide HR).later (unhide HB1)) (unhide H6) (unhide HAL)).mono ?_
    rintro e x3 ⟨rfl, hb3⟩
    have HB3 := hide (bnext (unhide HB1) hb3)
    rw [← unhide HP]
    clear hb3 HB1
    go_wp2
    go_ret
    exact ⟨rfl, unhide HB3⟩
end Go.Proofs.YtgpghapnmalipaaGreatDoor
namespace Go.Proofs.YtgpghapnmalipaaGreatDoor
open Go.RowKit Corb
set_option maxRecDepth 100000
set_option maxHeartbeats 1600000 in
theorem exZipPut_walk (a : Option Addr) (len cap : Nat) (l : List En) (m : Int) (w : World) (w0 : ERow w a l ∧ l.length = len ∧ len ≤ maxLen ∧ ∀ i, i < len → (l.getD i default).n.size ≤ maxLen ∧ (l.getD i default).t.size ≤ maxLen) (hm : w.cell? ⟨2, 0, none⟩ = some (.int .i64 m)) (hg : ErrT w) (hO : OrdC w) :
    Calls Tryz.prog 3 #[.slice a len cap] w fun e w' => e = .returned (.bool true) ∧ Below w.heap.size w w' := by
  obtain ⟨hrow, hn, hlen, hsm⟩ := w0
  unfold maxLen at hlen hsm
  have hlI : (len : Int) ≤ 9223372036854775807 := by omega
  have HS : Hid (ESmall l len) := fun i hi => by have := hsm i hi; omega
  have CM := hide (fun W (hb : Below w.heap.size w W) => (hb.cell (p := ⟨2, 0, none⟩) (World.block_lt_of_cell? _ _ hm)).trans hm)
  have CG : Hid (∀ W, Below w.heap.size w W → ErrT W) := fun W hb => (hb.cell (p := ⟨0, 0, none⟩) (World.block_lt_of_cell? _ _ hg)).trans hg
  have CO := hide (fun W (hb : Below w.heap.size w W) => hO.later hb)
  have Hn := hide hn
  have HR := hide hrow
  clear hm hg hn hrow hlen hsm hO
  go_enter Tryz.func3, Tryz.ntmps3
  go_wp2_with fail
  refine (szEntryS_any a cap len l _ (unhide Hn) (unhide HR) hlI (unhide HS)).mono ?_
  rintro e x1 ⟨⟨k, rfl, k0, k1, hk⟩, hb1⟩
  have HB1 := hide hb1
  have HK := hide hk
  clear hb1 hk
  by_cases kn : k < 0
  · go_wp2
    go_ret
    exact ⟨rfl, unhide HB1⟩
  · obtain ⟨hL, hN⟩ := unhide HK (by omega)
    have HL : Hid (len ≤ 1048576) := by show _ ≤ _; omega
    have HZ : Hid (∀ i, i < len → (l.getD i default).n.size ≤ 1048576 ∧ ((l.getD i default).t.size : Int) ≤ 9223372036854775807) := fun i hi => ⟨hN i hi, by have := (unhide HS i hi).2; omega⟩
    clear hN
    go_wp2_with fail
    refine (toEntryS_any a cap len l _ (unhide Hn) ((unhide HR).later (unhide HB1)) (unhide HL)).mono ?_
    rintro e x2 ⟨rfl, h2, hb2⟩
    have HB2 := hide (bnext (unhide HB1) hb2)
    have HR2 := hide (eown_row (unhide Hn) h2)
    clear h2 hb2
    go_wp2_with fail
    refine (specZipPut_any _ _ l len (unhide Hn) _ (unhide HR2) hL (unhide HZ)).mono ?_
    rintro e x3 ⟨rfl, hb3⟩
    have HB3 := hide (bnext (unhide HB2) hb3)
    clear hb3 HR2
    go_wp2_with fail
    refine (toEntryS_any a cap len l _ (unhide Hn) ((unhide HR).later (unhide HB3)) (unhide HL)).mono ?_
    rintro e x4 ⟨rfl, h4, hb4⟩
    have HB4 := hide (bnext (unhide HB3) hb4)
    have HO4 := hide h4
    have HR4 := hide (eown_row (unhide Hn) h4)
    clear h4 hb4
    go_wp2_with fail
    refine (implZipPut_any _ _ l len (unhide Hn) m _ (unhide HR4) hL (by omega) (unhide HZ) (unhide CM _ (unhide HB4)) (unhide CG _ (unhide HB4)) (unhide CO _ (unhide HB4))).mono ?_
    rintro e x5 ⟨rfl, hb5⟩
    have HB5 := hide (bnext (unhide HB4) hb5)
    have HR5 := hide ((unhide HR4).later hb5)
    clear hb5 HR4 HO4
    generalize zipP l = B
    go_wp2_with fail
    refine (toEntryS_any a cap len l _ (unhide Hn) ((unhide HR).later (unhide HB5)) (unhide HL)).mono ?_
    rintro e x6 ⟨rfl, h6, hb6⟩
    have HB6 := hide (bnext (unhide HB5) hb6)
    have HR6 := hide (eown_row (unhide Hn) h6)
    have HR56 := hide ((unhide HR5).later hb6)
    clear h6 hb6 HR5
    go_wp2_with fail
    refine (eqEntryS_same _ _ _ _ len l _ (unhide Hn) (unhide HR56) (unhide HR6) (by have := unhide HL; omega)).mono ?_
    rintro e x7 ⟨rfl, hb7⟩
    have HB7 := hide (bnext (unhide HB6) hb7)
    clear hb7
    go_wp2
    go_ret
    exact ⟨rfl, unhide HB7⟩
end Go.Proofs.YtgpghapnmalipaaGreatDoor
namespace Go.Proofs.YtgpghapnmalipaaGreatDoor
open Go.RowKit Corb
set_option maxRecDepth 100000
set_option maxHeartbeats 3200000 in
theorem specDiskNew_any (a : Option Addr) (cap : Nat) (l : List En) (n : Nat) (hn : l.length = n) (w : World) (h : ERow w a l) (hl : (n : Int) ≤ 1048576)
    (hs : ∀ i, i < n → (l.getD i default).n.size ≤ 1048576 ∧ ((l.getD i default).t.size : Int) ≤ 9223372036854775807) :
    Calls Tryz.prog 10 #[.slice a n cap] w fun e w' => e = .returned (.tuple #[.agg #[.string (zipP l), .string ⟨#[]⟩], .bool (zipB l)]) ∧ Below w.heap.size w w' := by
  have CZ := hide (fun W (hb : Below w.heap.size w W) => specZipOk_any a cap l n hn W (h.later hb) hl hs)
  have hA : Hid (Below w.heap.size w (w.alloc (.cells #[.string ⟨#[]⟩, .string ⟨#[]⟩] 30))) := (Below.refl _ _).alloc (Nat.le_refl _) _
  have hP := hide (blk_alloc w #[.string ⟨#[]⟩, .string ⟨#[]⟩] 30)
  obtain ⟨W1, hW1⟩ : ∃ x, w.alloc (.cells #[.string ⟨#[]⟩, .string ⟨#[]⟩] 30) = x := ⟨_, rfl⟩
  rw [hW1] at hA hP
  cases hk : zipB l
  · have HP : Hid (zipP l = ⟨#[]⟩) := by simp [Hid, zipP, hk]
    rw [hk] at CZ
    rw [unhide HP]
    clear h hs
    go_enter Tryz.func10, Tryz.ntmps10
    go_wp2_with fail
    refine (unhide CZ _ (unhide hA)).mono ?_
    rintro e x1 ⟨rfl, hb1⟩
    have HB1 := hide (bnext (unhide hA) hb1)
    have P1 := hide ((unhide hP).later hb1 (unhide hP).1)
    have p0 := (unhide P1).cell 0 _ rfl
    have p1 := (unhide P1).cell 1 _ rfl
    have f0 := (unhide P1).free 0 (by decide)
    have f1 := (unhide P1).free 1 (by decide)
    have hlt := (unhide P1).1
    clear hb1 CZ hA hP hW1
    have TZ := hide (below_set (o := 1) (below_set (o := 0) (unhide HB1) (Nat.le_refl _) (.string ⟨#[]⟩)) (Nat.le_refl _) (.string ⟨#[]⟩))
    have ZZ := hide (((unhide P1).set 0 (.string ⟨#[]⟩)).set 1 (.string ⟨#[]⟩))
    go_wp2
    have z0 := (unhide ZZ).cell 0 _ rfl
    have z1 := (unhide ZZ).cell 1 _ rfl
    exact bodyPost_ret (v := .tuple #[.agg #[.string ⟨#[]⟩, .string ⟨#[]⟩], .bool false]) (by simp [results, Tryz.results10, go_sem, z0, z1]) rfl ⟨rfl, unhide TZ⟩
  · obtain ⟨hal, h6⟩ := zip_all hk
    rw [hn] at h6
    have CP := hide (fun W (hb : Below w.heap.size w W) => l7Put_any a cap n l W hn (h.later hb) h6 (fun i hi => hal i (by omega)))
    have HP : Hid ((zipF l).1 ++ (zipF l).2 ++ endB n (zipF l).2.size (zipF l).1.size = zipP l) := by
      show _ = _
      rw [zipP, if_pos hk, hn]
    rw [unhide HP] at CP
    rw [hk] at CZ
    clear h hs hal h6
    generalize zipP l = Z at *
    go_enter Tryz.func10, Tryz.ntmps10
    go_wp2_with fail
    refine (unhide CZ _ (unhide hA)).mono ?_
    rintro e x1 ⟨rfl, hb1⟩
    have HB1 := hide (bnext (unhide hA) hb1)
    have P1 := hide ((unhide hP).later hb1 (unhide hP).1)
    clear hb1 CZ hA hP hW1
    go_wp2_with fail
    refine (unhide CP _ (unhide HB1)).mono ?_
    rintro e x2 ⟨rfl, hb2⟩
    have HB2 := hide (bnext (unhide HB1) hb2)
    have P2 := hide ((unhide P1).later hb2 (unhide P1).1)
    have p0 := (unhide P2).cell 0 _ rfl
    have p1 := (unhide P2).cell 1 _ rfl
    have f0 := (unhide P2).free 0 (by decide)
    have f1 := (unhide P2).free 1 (by decide)
    have hlt := (unhide P2).1
    clear hb2 HB1 P1 CP
    have TZ := hide (below_set (o := 1) (below_set (o := 0) (unhide HB2) (Nat.le_refl _) (.string Z)) (Nat.le_refl _) (.string ⟨#[]⟩))
    have ZZ := hide (((unhide P2).set 0 (.string Z)).set 1 (.string ⟨#[]⟩))
    go_wp2
    have z0 := (unhide ZZ).cell 0 _ rfl
    have z1 := (unhide ZZ).cell 1 _ rfl
    exact bodyPost_ret (v := .tuple #[.agg #[.string Z, .string ⟨#[]⟩], .bool true]) (by simp [results, Tryz.results10, go_sem, z0, z1]) rfl ⟨rfl, unhide TZ⟩
set_option maxHeartbeats 3200000 in
theorem implDiskNew_any (a : Option Addr) (cap : Nat) (l : List En) (n : Nat) (hn : l.length = n) (m : Int) (w : World) (h : ERow w a l) (hl : (n : Int) ≤ 1048576) (hcap : (n : Int) ≤ (cap : Int))
    (hs : ∀ i, i < n → (l.getD i default).n.size ≤ 1048576 ∧ ((l.getD i default).t.size : Int) ≤ 9223372036854775807) (hm : w.cell? ⟨2, 0, none⟩ = some (.int .i64 m)) (hg : ErrT w) (hO : OrdC w) :
    Calls Tryz.prog 11 #[.slice a n cap] w fun e w' => e = .returned (.tuple #[.agg #[.string (zipP l), .string ⟨#[]⟩], .bool (zipB l)]) ∧ Below w.heap.size w w' := by
  have CM := hide (fun W (hb : Below w.heap.size w W) => (hb.cell (p := ⟨2, 0, none⟩) (World.block_lt_of_cell? _ _ hm)).trans hm)
  have CG : Hid (∀ W, Below w.heap.size w W → ErrT W) := fun W hb => (hb.cell (p := ⟨0, 0, none⟩) (World.block_lt_of_cell? _ _ hg)).trans hg
  have CZ := hide (fun W (hb : Below w.heap.size w W) => implZipOk_any a cap l n hn m W (h.later hb) hl hcap hs (unhide CM W hb) (unhide CG W hb))
  have hA : Hid (Below w.heap.size w (w.alloc (.cells #[.string ⟨#[]⟩, .string ⟨#[]⟩] 30))) := (Below.refl _ _).alloc (Nat.le_refl _) _
  have hP := hide (blk_alloc w #[.string ⟨#[]⟩, .string ⟨#[]⟩] 30)
  obtain ⟨W1, hW1⟩ : ∃ x, w.alloc (.cells #[.string ⟨#[]⟩, .string ⟨#[]⟩] 30) = x := ⟨_, rfl⟩
  rw [hW1] at hA hP
  cases hk : zipB l
  · have HP : Hid (zipP l = ⟨#[]⟩) := by simp [Hid, zipP, hk]
    rw [hk] at CZ
    rw [unhide HP]
    clear h hs hm hg hO CM CG
    go_enter Tryz.func11, Tryz.ntmps11
    go_wp2_with fail
    refine (unhide CZ _ (unhide hA)).mono ?_
    rintro e x1 ⟨rfl, hb1⟩
    have HB1 := hide (bnext (unhide hA) hb1)
    have P1 := hide ((unhide hP).later hb1 (unhide hP).1)
    have p0 := (unhide P1).cell 0 _ rfl
    have p1 := (unhide P1).cell 1 _ rfl
    have f0 := (unhide P1).free 0 (by decide)
    have f1 := (unhide P1).free 1 (by decide)
    have hlt := (unhide P1).1
    clear hb1 CZ hA hP hW1
    have TZ := hide (below_set (o := 1) (below_set (o := 0) (unhide HB1) (Nat.le_refl _) (.string ⟨#[]⟩)) (Nat.le_refl _) (.string ⟨#[]⟩))
    have ZZ := hide (((unhide P1).set 0 (.string ⟨#[]⟩)).set 1 (.string ⟨#[]⟩))
    go_wp2
    have z0 := (unhide ZZ).cell 0 _ rfl
    have z1 := (unhide ZZ).cell 1 _ rfl
    exact bodyPost_ret (v := .tuple #[.agg #[.string ⟨#[]⟩, .string ⟨#[]⟩], .bool false]) (by simp [results, Tryz.results11, go_sem, z0, z1]) rfl ⟨rfl, unhide TZ⟩
  · obtain ⟨hal, h6⟩ := zip_all hk
    rw [hn] at h6
    have CP := hide (fun W (hb : Below w.heap.size w W) => implZipPut_any a cap l n hn m W (h.later hb) hl hcap hs (unhide CM W hb) (unhide CG W hb) (hO.later hb))
    rw [hk] at CZ
    clear h hs hm hg hO CM CG hal h6
    generalize zipP l = Z at *
    go_enter Tryz.func11, Tryz.ntmps11
    go_wp2_with fail
    refine (unhide CZ _ (unhide hA)).mono ?_
    rintro e x1 ⟨rfl, hb1⟩
    have HB1 := hide (bnext (unhide hA) hb1)
    have P1 := hide ((unhide hP).later hb1 (unhide hP).1)
    clear hb1 CZ hA hP hW1
    go_wp2_with fail
    refine (unhide CP _ (unhide HB1)).mono ?_
    rintro e x2 ⟨rfl, hb2⟩
    have HB2 := hide (bnext (unhide HB1) hb2)
    have P2 := hide ((unhide P1).later hb2 (unhide P1).1)
    have p0 := (unhide P2).cell 0 _ rfl
    have p1 := (unhide P2).cell 1 _ rfl
    have f0 := (unhide P2).free 0 (by decide)
    have f1 := (unhide P2).free 1 (by decide)
    have hlt := (unhide P2).1
    clear hb2 HB1 P1 CP
    have TZ := hide (below_set (o := 1) (below_set (o := 0) (unhide HB2) (Nat.le_refl _) (.string Z)) (Nat.le_refl _) (.string ⟨#[]⟩))
    have ZZ := hide (((unhide P2).set 0 (.string Z)).set 1 (.string ⟨#[]⟩))
    go_wp2
    have z0 := (unhide ZZ).cell 0 _ rfl
    have z1 := (unhide ZZ).cell 1 _ rfl
    exact bodyPost_ret (v := .tuple #[.agg #[.string Z, .string ⟨#[]⟩], .bool true]) (by simp [results, Tryz.results11, go_sem, z0, z1]) rfl ⟨rfl, unhide TZ⟩
theorem eqDisk_same (s t : ByteArray) (w : World) :
    Calls Tryz.prog 12 #[.agg #[.string s, .string t], .agg #[.string s, .string t]] w fun e w' => e = .returned (.bool true) ∧ Below w.heap.size w w' := by
  go_enter Tryz.func12, Tryz.ntmps12
  go_wp2
  go_ret
  exact ⟨rfl, ((Below.refl _ _).alloc (Nat.le_refl _) _).alloc (by simp) _⟩
set_option maxHeartbeats 3200000 in
theorem exDiskNew_walk (a : Option Addr) (len cap : Nat) (l : List En) (m : Int) (w : World) (w0 : ERow w a l ∧ l.length = len ∧ len ≤ maxLen ∧ ∀ i, i < len → (l.getD i default).n.size ≤ maxLen ∧ (l.getD i default).t.size ≤ maxLen) (hm : w.cell? ⟨2, 0, none⟩ = some (.int .i64 m)) (hg : ErrT w) (hO : OrdC w) :
    Calls Tryz.prog 4 #[.slice a len cap] w fun e w' => e = .returned (.bool true) ∧ Below w.heap.size w w' := by
  obtain ⟨hrow, hn, hlen, hsm⟩ := w0
  unfold maxLen at hlen hsm
  have hlI : (len : Int) ≤ 9223372036854775807 := by omega
  have HS : Hid (ESmall l len) := fun i hi => by have := hsm i hi; omega
  have CM := hide (fun W (hb : Below w.heap.size w W) => (hb.cell (p := ⟨2, 0, none⟩) (World.block_lt_of_cell? _ _ hm)).trans hm)
  have CG : Hid (∀ W, Below w.heap.size w W → ErrT W) := fun W hb => (hb.cell (p := ⟨0, 0, none⟩) (World.block_lt_of_cell? _ _ hg)).trans hg
  have CO := hide (fun W (hb : Below w.heap.size w W) => hO.later hb)
  have Hn := hide hn
  have HR := hide hrow
  clear hm hg hn hrow hlen hsm hO
  go_enter Tryz.func4, Tryz.ntmps4
  go_wp2_with fail
  refine (szEntryS_any a cap len l _ (unhide Hn) (unhide HR) hlI (unhide HS)).mono ?_
  rintro e x1 ⟨⟨k, rfl, k0, k1, hk⟩, hb1⟩
  have HB1 := hide hb1
  have HK := hide hk
  clear hb1 hk
  by_cases kn : k < 0
  · go_wp2
    go_ret
    exact ⟨rfl, unhide HB1⟩
  · obtain ⟨hL, hN⟩ := unhide HK (by omega)
    have HL : Hid (len ≤ 1048576) := by show _ ≤ _; omega
    have HZ : Hid (∀ i, i < len → (l.getD i default).n.size ≤ 1048576 ∧ ((l.getD i default).t.size : Int) ≤ 9223372036854775807) := fun i hi => ⟨hN i hi, by have := (unhide HS i hi).2; omega⟩
    clear hN
    go_wp2_with fail
    refine (toEntryS_any a cap len l _ (unhide Hn) ((unhide HR).later (unhide HB1)) (unhide HL)).mono ?_
    rintro e x2 ⟨rfl, h2, hb2⟩
    have HB2 := hide (bnext (unhide HB1) hb2)
    have HR2 := hide (eown_row (unhide Hn) h2)
    clear h2 hb2
    go_wp2_with fail
    refine (specDiskNew_any _ _ l len (unhide Hn) _ (unhide HR2) hL (unhide HZ)).mono ?_
    rintro e x3 ⟨rfl, hb3⟩
    have HB3 := hide (bnext (unhide HB2) hb3)
    clear hb3 HR2
    generalize hZ : zipP l = Z at *
    generalize hB : zipB l = B at *
    have HZB := hide (And.intro hZ hB)
    clear hZ hB
    have hA3 := hide ((unhide HB3).alloc (unhide HB3).size (.cells #[.string Z, .string ⟨#[]⟩] 30))
    have P3 := hide (blk_alloc x3 #[.string Z, .string ⟨#[]⟩] 30)
    go_wp2_with fail
    refine (toEntryS_any a cap len l _ (unhide Hn) ((unhide HR).later (unhide hA3)) (unhide HL)).mono ?_
    rintro e x4 ⟨rfl, h4, hb4⟩
    have HB4 := hide (bnext (unhide hA3) hb4)
    have P4 := hide ((unhide P3).later hb4 (unhide P3).1)
    have HR4 := hide (eown_row (unhide Hn) h4)
    clear h4 hb4 P3 hA3
    generalize (x3.alloc (.cells #[.string Z, .string ⟨#[]⟩] 30)).heap.size = G4 at *
    go_wp2_with fail
    refine (implDiskNew_any _ _ l len (unhide Hn) m _ (unhide HR4) hL (by omega) (unhide HZ) (unhide CM _ (unhide HB4)) (unhide CG _ (unhide HB4)) (unhide CO _ (unhide HB4))).mono ?_
    rintro e x5 ⟨rfl, hb5⟩
    rw [(unhide HZB).1, (unhide HZB).2]
    have HB5 := hide (bnext (unhide HB4) hb5)
    have P5 := hide ((unhide P4).later hb5 (unhide P4).1)
    have HR5 := hide ((unhide HR4).later hb5)
    clear hb5 HR4 P4
    have hA5 := hide ((unhide HB5).alloc (unhide HB5).size (.cells #[.string Z, .string ⟨#[]⟩] 30))
    have hA6 : Hid (Below x5.heap.size x5 (x5.alloc (.cells #[.string Z, .string ⟨#[]⟩] 30))) := (Below.refl _ _).alloc (Nat.le_refl _) _
    have Q5 := hide (blk_alloc x5 #[.string Z, .string ⟨#[]⟩] 30)
    have P6 := hide ((unhide P5).later (unhide hA6) (unhide P5).1)
    have HR6 := hide ((unhide HR5).later (unhide hA6))
    have p0 := (unhide P6).cell 0 _ rfl
    have p1 := (unhide P6).cell 1 _ rfl
    have q0 := (unhide P5).cell 0 _ rfl
    have q1 := (unhide P5).cell 1 _ rfl
    clear hA6 HR5
    go_wp2_with fail
    refine (eqDisk_same _ _ _).mono ?_
    rintro e x6 ⟨rfl, hb6⟩
    have HB6 := hide (bnext (unhide hA5) hb6)
    have HR7 := hide ((unhide HR6).later hb6)
    clear hb6 HR6 hA5 p0 p1 q0 q1
    cases B
    all_goals
      go_wp2_with fail
      refine (toEntryS_any a cap len l _ (unhide Hn) ((unhide HR).later (unhide HB6)) (unhide HL)).mono ?_
      rintro e x7 ⟨rfl, h7, hb7⟩
      have HB7 := hide (bnext (unhide HB6) hb7)
      have HR8 := hide (eown_row (unhide Hn) h7)
      have HR9 := hide ((unhide HR7).later hb7)
      clear h7 hb7
      go_wp2_with fail
      refine (eqEntryS_same _ _ _ _ len l _ (unhide Hn) (unhide HR9) (unhide HR8) (by have := unhide HL; omega)).mono ?_
      rintro e x8 ⟨rfl, hb8⟩
      have HB8 := hide (bnext (unhide HB7) hb8)
      clear hb8
      go_wp2
      go_ret
      exact ⟨rfl, unhide HB8⟩
end Go.Proofs.YtgpghapnmalipaaGreatDoor
