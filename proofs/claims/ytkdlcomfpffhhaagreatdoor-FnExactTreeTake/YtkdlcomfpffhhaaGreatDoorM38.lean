/- Of what the proof is made: 5 texts, one behind the other. -/
import Derived.Test.YtkdlcomfpffhhaaGreatDoorM17
import Derived.Test.YtkdlcomfpffhhaaGreatDoorM36
import Derived.Test.YtkdlcomfpffhhaaGreatDoorM24
import Derived.Test.YtkdlcomfpffhhaaGreatDoorM3
import Derived.Lib.QuietBelow
import Derived.Test.YtkdlcomfpffhhaaGreatDoorShelf
import Derived.Test.YtkdlcomfpffhhaaGreatDoorM13
import Derived.Test.YtkdlcomfpffhhaaGreatDoorM7
import Derived.Test.YtkdlcomfpffhhaaGreatDoorM6
namespace Go.Proofs.YtkdlcomfpffhhaaGreatDoor
set_option linter.unusedVariables false
open Go.RowKit Corb
set_option maxRecDepth 100000
def RdS (w W:World):Prop:=Below w.heap.size w W∧Blk W w.heap.size [.string ⟨#[]⟩,.int .i64 0,.int .i64 0,.int .i64 0,.int .i64 0,.int .i64 0,.int .i64 0,.string ⟨#[]⟩]
theorem RdS.later {w W W':World} (k:RdS w W) (hb:Below W.heap.size W W'):RdS w W':=⟨bnext k.1 hb,k.2.later hb k.2.1⟩
theorem RdS.drew {w W:World} (k:RdS w W):RdS w W.drew:=⟨k.1.drew,k.2.drew⟩
theorem RdS.set {w W:World} (k:RdS w W) {A:Nat} (hA:w.heap.size<A) (o:Nat) (v:Value):RdS w (W.setCell ⟨A,o,none⟩ v):=⟨below_set k.1 (Nat.le_of_lt hA) _,k.2.set_other v (by omega)⟩
theorem hd_no {s:ByteArray} (h:hdB s=false):locV s = .tuple #[noE,.int .i64 0,.bool false]:=by simp [locV,locG,h]
theorem head_no {s:ByteArray} (h:¬ (numI s 0 4=67324752∧numI s 4 2=20∧numI s 6 2=0∧numI s 28 2=0)):locV s = .tuple #[noE,.int .i64 0,.bool false]:=by
 refine hd_no ?_
 cases hb:hdB s
 ·
  rfl
 ·
  obtain ⟨h1,h2,h3⟩:=hdB_is.1 hb
  simp only [fixB,Bool.and_eq_true,decide_eq_true_eq] at h2
  obtain ⟨e1,e2,e3,e4⟩:=h2
  refine absurd ?_ h
  rw [numI_yes (by omega),numI_yes (by omega),numI_yes (by omega),numI_yes (by omega),e1,e2,e3,e4]
  exact ⟨rfl,rfl,rfl,rfl⟩
theorem head_yes {s:ByteArray} (q1:numI s 0 4=67324752) (q2:numI s 4 2=20) (q3:numI s 6 2=0) (q4:numI s 28 2=0):30≤s.size∧fixB s.data.toList=true:=by
 have h30:28+2≤s.size:=by
  by_cases h:28+2≤s.size
  ·
   exact h
  ·
   rw [numI_no h] at q4; omega
 rw [numI_yes (by omega)] at q1 q2 q3 q4
 refine ⟨h30,?_⟩
 simp only [fixB,Bool.and_eq_true,decide_eq_true_eq]
 omega
theorem tot_no {s:ByteArray} (h:¬ 30+wd s.data.toList 26 2+wd s.data.toList 18 4≤s.size):locV s = .tuple #[noE,.int .i64 0,.bool false]:=hd_no (by simp [hdB,h])
theorem loc_is {s:ByteArray} (h:hdB s=true):locV s=if ((txO (wd s.data.toList 8 2) (bdB s)&&(decide (wd s.data.toList 14 4=crcMore 0 (txT (wd s.data.toList 8 2) (bdB s)).data.toList)&&decide (wd s.data.toList 22 4=(txT (wd s.data.toList 8 2) (bdB s)).size)))&&entG s (txT (wd s.data.toList 8 2) (bdB s)))=true then .tuple #[locE s (txT (wd s.data.toList 8 2) (bdB s)),.int .i64 ((30+wd s.data.toList 26 2+wd s.data.toList 18 4:Nat):Int),.bool true] else .tuple #[noE,.int .i64 0,.bool false]:=by
 unfold locV locG
 rw [if_pos h,unp_tx]
 cases ho:txO (wd s.data.toList 8 2) (bdB s)
 ·
  simp
 ·
  simp only [if_true,fitB]
  by_cases c1:wd s.data.toList 14 4=crcMore 0 (txT (wd s.data.toList 8 2) (bdB s)).data.toList
  ·
   by_cases c2:wd s.data.toList 22 4=(txT (wd s.data.toList 8 2) (bdB s)).size
   ·
    by_cases c3:entG s (txT (wd s.data.toList 8 2) (bdB s))=true <;> simp [c1,c2,c3]
   ·
    simp [c2]
  ·
   simp [c1]
def RdP (s:ByteArray) (e:Ending):Prop:=∃ n y mo d h mi c t k ok,e = .returned (.tuple #[.agg #[.string n,.int .i64 y,.int .i64 mo,.int .i64 d,.int .i64 h,.int .i64 mi,.int .i64 c,.string t],.int .i64 k,.bool ok])∧locV s=if ok=true then .tuple #[.agg #[.string n,.int .i64 y,.int .i64 mo,.int .i64 d,.int .i64 h,.int .i64 mi,.int .i64 c,.string t],.int .i64 k,.bool true] else .tuple #[noE,.int .i64 0,.bool false]
set_option maxHeartbeats 12800000 in
theorem l6Read_any (s:ByteArray) (w:World) (hs:s.size≤1048576) :
  Calls Tryz.prog 72 #[.string s] w fun e w'=>RdP s e∧Below w.heap.size w w':=by
 have hmix:Tryz.prog.follows .mixedOrders=true:=by kernel_rfl
 have C26:Hid (∀ W,Calls Tryz.prog 68 #[.string s,.int .i64 26,.int .i64 2] W fun e w'=>e = .returned (.int .i64 (numI s 26 2))∧Below W.heap.size W w'):=fun W=>l6Num_any s 26 2 W (by decide) (by decide) (by omega)
 have C18:Hid (∀ W,Calls Tryz.prog 68 #[.string s,.int .i64 18,.int .i64 4] W fun e w'=>e = .returned (.int .i64 (numI s 18 4))∧Below W.heap.size W w'):=fun W=>l6Num_any s 18 4 W (by decide) (by decide) (by omega)
 have C0:Hid (∀ W,Calls Tryz.prog 68 #[.string s,.int .i64 0,.int .i64 4] W fun e w'=>e = .returned (.int .i64 (numI s 0 4))∧Below W.heap.size W w'):=fun W=>l6Num_any s 0 4 W (by decide) (by decide) (by omega)
 have C4:Hid (∀ W,Calls Tryz.prog 68 #[.string s,.int .i64 4,.int .i64 2] W fun e w'=>e = .returned (.int .i64 (numI s 4 2))∧Below W.heap.size W w'):=fun W=>l6Num_any s 4 2 W (by decide) (by decide) (by omega)
 have C6:Hid (∀ W,Calls Tryz.prog 68 #[.string s,.int .i64 6,.int .i64 2] W fun e w'=>e = .returned (.int .i64 (numI s 6 2))∧Below W.heap.size W w'):=fun W=>l6Num_any s 6 2 W (by decide) (by decide) (by omega)
 have C28:Hid (∀ W,Calls Tryz.prog 68 #[.string s,.int .i64 28,.int .i64 2] W fun e w'=>e = .returned (.int .i64 (numI s 28 2))∧Below W.heap.size W w'):=fun W=>l6Num_any s 28 2 W (by decide) (by decide) (by omega)
 have C10:Hid (∀ W,Calls Tryz.prog 68 #[.string s,.int .i64 10,.int .i64 4] W fun e w'=>e = .returned (.int .i64 (numI s 10 4))∧Below W.heap.size W w'):=fun W=>l6Num_any s 10 4 W (by decide) (by decide) (by omega)
 have C8:Hid (∀ W,Calls Tryz.prog 68 #[.string s,.int .i64 8,.int .i64 2] W fun e w'=>e = .returned (.int .i64 (numI s 8 2))∧Below W.heap.size W w'):=fun W=>l6Num_any s 8 2 W (by decide) (by decide) (by omega)
 have C14:Hid (∀ W,Calls Tryz.prog 68 #[.string s,.int .i64 14,.int .i64 4] W fun e w'=>e = .returned (.int .i64 (numI s 14 4))∧Below W.heap.size W w'):=fun W=>l6Num_any s 14 4 W (by decide) (by decide) (by omega)
 have C22:Hid (∀ W,Calls Tryz.prog 68 #[.string s,.int .i64 22,.int .i64 4] W fun e w'=>e = .returned (.int .i64 (numI s 22 4))∧Below W.heap.size W w'):=fun W=>l6Num_any s 22 4 W (by decide) (by decide) (by omega)
 have T0:Hid (RdS w (w.alloc (.cells #[.string ⟨#[]⟩,.int .i64 0,.int .i64 0,.int .i64 0,.int .i64 0,.int .i64 0,.int .i64 0,.string ⟨#[]⟩] 32))):=⟨(Below.refl _ _).alloc (Nat.le_refl _) _,blk_alloc w #[.string ⟨#[]⟩,.int .i64 0,.int .i64 0,.int .i64 0,.int .i64 0,.int .i64 0,.int .i64 0,.string ⟨#[]⟩] 32⟩
 by_cases q1:numI s 0 4=67324752
 ·
  by_cases q2:numI s 4 2=20
  ·
   by_cases q3:numI s 6 2=0
   ·
    by_cases q4:numI s 28 2=0
    ·
     obtain ⟨h30,hfx⟩:=head_yes q1 q2 q3 q4
     rw [q1] at C0
     rw [q2] at C4
     rw [q3] at C6
     rw [q4] at C28
     rw [numI_yes (by omega)] at C26 C18 C10 C8 C14 C22
     have hNL:=wd_two s.data.toList 26
     have hLG:=wd_four s.data.toList 18
     have hST:=wd_four s.data.toList 10
     have hHW:=wd_two s.data.toList 8
     by_cases hto:30+wd s.data.toList 26 2+wd s.data.toList 18 4≤s.size
     ·
      have hnm:=nmB_size (s:=s) (by omega)
      have hbd:=bdB_size (s:=s) hto
      have HL:=hide (loc_is (hdB_is.2 ⟨h30,hfx,hto⟩))
      have hx1:s.extract 30 (30+wd s.data.toList 26 2)=nmB s:=rfl
      have hx2:s.extract (30+wd s.data.toList 26 2) (30+wd s.data.toList 26 2+wd s.data.toList 18 4)=bdB s:=rfl
      have CT:Hid (∀ W,Calls Tryz.prog 105 #[.int .i64 (wd s.data.toList 8 2:Nat),.string (bdB s)] W fun e w'=>e = .returned (.tuple #[.string (txT (wd s.data.toList 8 2) (bdB s)),.bool (txO (wd s.data.toList 8 2) (bdB s))])∧Below W.heap.size W w'):=fun W=>l6Text_any _ _ W (by omega) hHW
      have htx:=tx_small (how:=wd s.data.toList 8 2) (b:=bdB s) (by omega)
      have CC:=hide (fun W=>specCrc_any (txT (wd s.data.toList 8 2) (bdB s)) W (by unfold maxLen; omega))
      have CE:=hide (fun W=>specEntryOk_any (nmB s) (gY (wd s.data.toList 10 4:Nat)) (gM (wd s.data.toList 10 4:Nat)) (gD (wd s.data.toList 10 4:Nat)) (gH (wd s.data.toList 10 4:Nat)) (gI (wd s.data.toList 10 4:Nat)) (gS (wd s.data.toList 10 4:Nat)) (txT (wd s.data.toList 8 2) (bdB s)) W (by omega) (by omega))
      have CG:Hid (∀ W,Calls Tryz.prog 104 #[.int .i64 (wd s.data.toList 10 4:Nat)] W fun e w'=>e = .returned (.agg #[.int .i64 (gY (wd s.data.toList 10 4:Nat)),.int .i64 (gM (wd s.data.toList 10 4:Nat)),.int .i64 (gD (wd s.data.toList 10 4:Nat)),.int .i64 (gH (wd s.data.toList 10 4:Nat)),.int .i64 (gI (wd s.data.toList 10 4:Nat)),.int .i64 (gS (wd s.data.toList 10 4:Nat))])∧Below W.heap.size W w'):=fun W=>l6Get_any _ W (by omega) (by omega)
      unfold locE entG at HL
      have hcr:crcMore 0 (txT (wd s.data.toList 8 2) (bdB s)).data.toList<4294967296:=crcMore_lt _ _ (by omega)
      generalize hTO:txO (wd s.data.toList 8 2) (bdB s)=OK at *
      generalize hTX:txT (wd s.data.toList 8 2) (bdB s)=TX at *
      generalize hBD:bdB s=BD at *
      generalize hNM:nmB s=NM at *
      generalize hyy:gY (wd s.data.toList 10 4:Nat)=yy at *
      generalize hmo:gM (wd s.data.toList 10 4:Nat)=mo at *
      generalize hdd:gD (wd s.data.toList 10 4:Nat)=dd at *
      generalize hhh:gH (wd s.data.toList 10 4:Nat)=hh at *
      generalize hmi:gI (wd s.data.toList 10 4:Nat)=mi at *
      generalize hss:gS (wd s.data.toList 10 4:Nat)=ss at *
      generalize entB NM yy mo dd hh mi ss TX=EB at *
      generalize crcMore 0 TX.data.toList=cr at *
      generalize wd s.data.toList 26 2=NL at *
      generalize wd s.data.toList 18 4=LG at *
      generalize wd s.data.toList 10 4=ST at *
      generalize wd s.data.toList 8 2=HW at *
      generalize wd s.data.toList 14 4=CR at *
      generalize wd s.data.toList 22 4=LN at *
      have hN30:0≤30+(NL:Int):=by omega
      have hNL1:decide ((NL:Int)<0)=false:=by simp
      have hLG1:decide ((LG:Int)<0)=false:=by simp
      have htoI:30+(NL:Int)+(LG:Int)≤(s.size:Int):=by omega
      have hw30:IntKind.i64.wrap (30+(NL:Int))=30+(NL:Int):=by rw [IntKind.wrap_i64]; omega
      have hw31:IntKind.i64.wrap (30+(NL:Int)+(LG:Int))=30+(NL:Int)+(LG:Int):=by rw [IntKind.wrap_i64]; omega
      have hn30:(30+(NL:Int)).toNat=30+NL:=by omega
      have hn31:(30+(NL:Int)+(LG:Int)).toNat=30+NL+LG:=by omega
      have hq30:30≤30+(NL:Int):=by omega
      have hq31:30+(NL:Int)≤30+(NL:Int)+(LG:Int):=by omega
      have hq33:30+(NL:Int)≤(s.size:Int):=by omega
      have htoJ:decide ((s.size:Int)<30+(NL:Int)+(LG:Int))=false:=by simpa using htoI
      have hcrI:(cr:Int)<4294967296:=by omega
      clear q1 q2 q3 q4 h30 hfx hTO hTX hBD hNM hyy hmo hdd hhh hmi hss hNL hLG hST hHW hcr hnm hbd htx hto
      go_enter Tryz.func72,Tryz.ntmps72
      go_wp2_with fail
      refine (unhide C26 _).mono ?_
      rintro e x1 ⟨rfl,hb⟩
      have T1:=hide ((unhide T0).later hb)
      clear hb T0
      go_wp2_with fail
      refine (unhide C18 _).mono ?_
      rintro e x2 ⟨rfl,hb⟩
      have T2:=hide ((unhide T1).later hb)
      clear hb T1
      go_wp2_with fail
      refine (unhide C0 _).mono ?_
      rintro e x3 ⟨rfl,hb⟩
      have T3:=hide ((unhide T2).later hb)
      clear hb T2
      go_wp2_with fail
      refine (unhide C4 _).mono ?_
      rintro e x4 ⟨rfl,hb⟩
      have T4:=hide ((unhide T3).later hb)
      clear hb T3
      go_wp2_with fail
      refine (unhide C6 _).mono ?_
      rintro e x5 ⟨rfl,hb⟩
      have T5:=hide ((unhide T4).later hb)
      clear hb T4
      go_wp2_with fail
      refine (unhide C28 _).mono ?_
      rintro e x6 ⟨rfl,hb⟩
      have T6:=hide ((unhide T5).later hb)
      clear hb T5
      go_wp2_with fail
      go_cut [8] (fun v wx=>∃ A,v = .pointer (some ⟨A,0,none⟩)∧w.heap.size<A∧RdS w wx∧Blk wx A [.string NM,.int .i64 yy,.int .i64 mo,.int .i64 dd,.int .i64 hh,.int .i64 mi,.int .i64 ss,.string ⟨#[]⟩])
      case first=>
       refine wp_region_held_drew (S:=fun _=>True) hmix trivial (fun _=>?_)
       refine wpAnyH_take (i:=0) (v:=.string s) rfl (by kernel_rfl) (by kernel_rfl) (by kernel_rfl) (fun _ _ _ h=>h) (Or.inl ⟨by rfl,fun W hSw=>by go_simp⟩) trivial ?_
       refine wpAnyH_take (i:=1) (v:=.int .i64 (NL:Nat)) rfl (by kernel_rfl) (by kernel_rfl) (by kernel_rfl) (fun _ _ _ h=>h) (Or.inl ⟨by rfl,fun W hSw=>by go_simp⟩) trivial ?_
       refine wpAnyH_take (i:=2) (v:=.int .i64 (30+(NL:Int))) rfl (by kernel_rfl) (by kernel_rfl) (by kernel_rfl) (fun _ _ _ h=>h) (Or.inl ⟨by rfl,fun W hSw=>by go_simp⟩) trivial ?_
       refine wpAnyH_take (i:=3) (v:=.string NM) rfl (by kernel_rfl) (by kernel_rfl) (by kernel_rfl) (fun _ _ _ h=>h) (Or.inl ⟨by rfl,fun W hSw=>by go_simp⟩) trivial ?_
       refine wpAnyH_take (i:=4) (v:=.string s) rfl (by kernel_rfl) (by kernel_rfl) (by kernel_rfl) (fun _ _ _ h=>h) (Or.inl ⟨by rfl,fun W hSw=>by go_simp⟩) trivial ?_
       have T7:=hide (unhide T6).drew
       clear T6
       generalize x6.drew=W7 at *
       refine wpAnyH_ready (rs:=[5,8]) (by kernel_rfl) (by simp) ?_
       refine AllReadyH.cons rfl (fun K hK=>?_) (AllReadyH.cons rfl (fun K hK=>?_) (AllReadyH.nil))
       ·
        go_simp
        go_at_call 68
        refine (unhide C10 W7).mono ?_
        rintro e W8 ⟨rfl,Bd⟩
        have T8:=hide ((unhide T7).later Bd)
        refine Shut.out hK _ _ trivial (fun _=>?_)
        clear hK K Bd T7
        refine wpAnyH_ready (rs:=[6,8]) (by kernel_rfl) (by simp) ?_
        refine AllReadyH.cons rfl (fun K hK=>?_) (AllReadyH.cons rfl (fun K hK=>?_) (AllReadyH.nil))
        ·
         go_simp
         go_at_call 104
         refine (unhide CG W8).mono ?_
         rintro e W9 ⟨rfl,Bd⟩
         have T9:=hide ((unhide T8).later Bd)
         refine Shut.out hK _ _ trivial (fun _=>?_)
         clear hK K Bd T8
         refine wpAnyH_take (i:=7) (v:=.agg #[.string NM,.int .i64 yy,.int .i64 mo,.int .i64 dd,.int .i64 hh,.int .i64 mi,.int .i64 ss,.string ⟨#[]⟩]) rfl (by kernel_rfl) (by kernel_rfl) (by kernel_rfl) (fun _ _ _ h=>h) (Or.inl ⟨by rfl,fun W hSw=>by go_simp⟩) trivial ?_
         refine wpAnyH_ready (rs:=[8]) (by kernel_rfl) (by simp) ?_
         refine AllReadyH.cons rfl (fun K hK=>?_) (AllReadyH.nil)
         go_simp
         have Bd:Below W9.heap.size W9 (W9.alloc (.cells #[.string ⟨#[]⟩,.int .i64 0,.int .i64 0,.int .i64 0,.int .i64 0,.int .i64 0,.int .i64 0,.string ⟨#[]⟩] 32)):=(Below.refl _ _).alloc (Nat.le_refl _) _
         have T10:=hide ((unhide T9).later Bd)
         have R10:Hid (Blk (W9.alloc (.cells #[.string ⟨#[]⟩,.int .i64 0,.int .i64 0,.int .i64 0,.int .i64 0,.int .i64 0,.int .i64 0,.string ⟨#[]⟩] 32)) W9.heap.size [.string ⟨#[]⟩,.int .i64 0,.int .i64 0,.int .i64 0,.int .i64 0,.int .i64 0,.int .i64 0,.string ⟨#[]⟩]):=blk_alloc _ _ _
         have hA:w.heap.size<W9.heap.size:=(unhide T9).2.1
         refine Shut.out hK _ _ trivial (fun _=>?_)
         clear hK K
         obtain ⟨A,hAe⟩:∃ x,W9.heap.size=x:=⟨_,rfl⟩
         obtain ⟨W10,hW10⟩:∃ x,W9.alloc (.cells #[.string ⟨#[]⟩,.int .i64 0,.int .i64 0,.int .i64 0,.int .i64 0,.int .i64 0,.int .i64 0,.string ⟨#[]⟩] 32)=x:=⟨_,rfl⟩
         rw [hW10] at T10
         rw [hAe,hW10] at R10
         rw [hAe] at hA
         rw [hAe,hW10]
         clear Bd hAe hW10 T9
         refine wpAnyH_ready (rs:=[9]) (by kernel_rfl) (by simp) ?_
         refine AllReadyH.cons rfl (fun K hK=>?_) (AllReadyH.nil)
         have aA:=(unhide R10).cells (n:=8) rfl
         have fA:=(unhide R10).frees (n:=8) rfl
         go_simp
         have ZX:=hide (put8 (unhide T10).1 (Nat.le_of_lt hA) (unhide R10) (.string NM) (.int .i64 yy) (.int .i64 mo) (.int .i64 dd) (.int .i64 hh) (.int .i64 mi) (.int .i64 ss) (.string ⟨#[]⟩))
         have OX:=hide (other8 (unhide T10).2 (Nat.ne_of_lt hA) (.string NM) (.int .i64 yy) (.int .i64 mo) (.int .i64 dd) (.int .i64 hh) (.int .i64 mi) (.int .i64 ss) (.string ⟨#[]⟩))
         clear aA fA
         refine Shut.out hK _ _ trivial (fun _=>?_)
         clear hK K
         refine wpAnyH_done (by kernel_rfl) ?_ _
         go_wp2_with fail
         go_meet
         case rel=>exact ⟨A,rfl,hA,⟨(unhide ZX).1,unhide OX⟩,(unhide ZX).2⟩
        ·
         go_simp
         have Bd:Below W8.heap.size W8 (W8.alloc (.cells #[.string ⟨#[]⟩,.int .i64 0,.int .i64 0,.int .i64 0,.int .i64 0,.int .i64 0,.int .i64 0,.string ⟨#[]⟩] 32)):=(Below.refl _ _).alloc (Nat.le_refl _) _
         have T9:=hide ((unhide T8).later Bd)
         have R9:Hid (Blk (W8.alloc (.cells #[.string ⟨#[]⟩,.int .i64 0,.int .i64 0,.int .i64 0,.int .i64 0,.int .i64 0,.int .i64 0,.string ⟨#[]⟩] 32)) W8.heap.size [.string ⟨#[]⟩,.int .i64 0,.int .i64 0,.int .i64 0,.int .i64 0,.int .i64 0,.int .i64 0,.string ⟨#[]⟩]):=blk_alloc _ _ _
         have hA:w.heap.size<W8.heap.size:=(unhide T8).2.1
         refine Shut.out hK _ _ trivial (fun _=>?_)
         clear hK K
         obtain ⟨A,hAe⟩:∃ x,W8.heap.size=x:=⟨_,rfl⟩
         obtain ⟨W9,hW9⟩:∃ x,W8.alloc (.cells #[.string ⟨#[]⟩,.int .i64 0,.int .i64 0,.int .i64 0,.int .i64 0,.int .i64 0,.int .i64 0,.string ⟨#[]⟩] 32)=x:=⟨_,rfl⟩
         rw [hW9] at T9
         rw [hAe,hW9] at R9
         rw [hAe] at hA
         rw [hAe,hW9]
         clear Bd hAe hW9 T8
         refine wpAnyH_ready (rs:=[6]) (by kernel_rfl) (by simp) ?_
         refine AllReadyH.cons rfl (fun K hK=>?_) (AllReadyH.nil)
         go_simp
         go_at_call 104
         refine (unhide CG W9).mono ?_
         rintro e W10 ⟨rfl,Bd⟩
         have T10:=hide ((unhide T9).later Bd)
         have R10:=hide ((unhide R9).later Bd (unhide R9).1)
         refine Shut.out hK _ _ trivial (fun _=>?_)
         clear hK K Bd T9 R9
         refine wpAnyH_take (i:=7) (v:=.agg #[.string NM,.int .i64 yy,.int .i64 mo,.int .i64 dd,.int .i64 hh,.int .i64 mi,.int .i64 ss,.string ⟨#[]⟩]) rfl (by kernel_rfl) (by kernel_rfl) (by kernel_rfl) (fun _ _ _ h=>h) (Or.inl ⟨by rfl,fun W hSw=>by go_simp⟩) trivial ?_
         refine wpAnyH_ready (rs:=[9]) (by kernel_rfl) (by simp) ?_
         refine AllReadyH.cons rfl (fun K hK=>?_) (AllReadyH.nil)
         have aA:=(unhide R10).cells (n:=8) rfl
         have fA:=(unhide R10).frees (n:=8) rfl
         go_simp
         have ZX:=hide (put8 (unhide T10).1 (Nat.le_of_lt hA) (unhide R10) (.string NM) (.int .i64 yy) (.int .i64 mo) (.int .i64 dd) (.int .i64 hh) (.int .i64 mi) (.int .i64 ss) (.string ⟨#[]⟩))
         have OX:=hide (other8 (unhide T10).2 (Nat.ne_of_lt hA) (.string NM) (.int .i64 yy) (.int .i64 mo) (.int .i64 dd) (.int .i64 hh) (.int .i64 mi) (.int .i64 ss) (.string ⟨#[]⟩))
         clear aA fA
         refine Shut.out hK _ _ trivial (fun _=>?_)
         clear hK K
         refine wpAnyH_done (by kernel_rfl) ?_ _
         go_wp2_with fail
         go_meet
         case rel=>exact ⟨A,rfl,hA,⟨(unhide ZX).1,unhide OX⟩,(unhide ZX).2⟩
       ·
        go_simp
        have Bd:Below W7.heap.size W7 (W7.alloc (.cells #[.string ⟨#[]⟩,.int .i64 0,.int .i64 0,.int .i64 0,.int .i64 0,.int .i64 0,.int .i64 0,.string ⟨#[]⟩] 32)):=(Below.refl _ _).alloc (Nat.le_refl _) _
        have T8:=hide ((unhide T7).later Bd)
        have R8:Hid (Blk (W7.alloc (.cells #[.string ⟨#[]⟩,.int .i64 0,.int .i64 0,.int .i64 0,.int .i64 0,.int .i64 0,.int .i64 0,.string ⟨#[]⟩] 32)) W7.heap.size [.string ⟨#[]⟩,.int .i64 0,.int .i64 0,.int .i64 0,.int .i64 0,.int .i64 0,.int .i64 0,.string ⟨#[]⟩]):=blk_alloc _ _ _
        have hA:w.heap.size<W7.heap.size:=(unhide T7).2.1
        refine Shut.out hK _ _ trivial (fun _=>?_)
        clear hK K
        obtain ⟨A,hAe⟩:∃ x,W7.heap.size=x:=⟨_,rfl⟩
        obtain ⟨W8,hW8⟩:∃ x,W7.alloc (.cells #[.string ⟨#[]⟩,.int .i64 0,.int .i64 0,.int .i64 0,.int .i64 0,.int .i64 0,.int .i64 0,.string ⟨#[]⟩] 32)=x:=⟨_,rfl⟩
        rw [hW8] at T8
        rw [hAe,hW8] at R8
        rw [hAe] at hA
        rw [hAe,hW8]
        clear Bd hAe hW8 T7
        refine wpAnyH_ready (rs:=[5]) (by kernel_rfl) (by simp) ?_
        refine AllReadyH.cons rfl (fun K hK=>?_) (AllReadyH.nil)
        go_simp
        go_at_call 68
        refine (unhide C10 W8).mono ?_
        rintro e W9 ⟨rfl,Bd⟩
        have T9:=hide ((unhide T8).later Bd)
        have R9:=hide ((unhide R8).later Bd (unhide R8).1)
        refine Shut.out hK _ _ trivial (fun _=>?_)
        clear hK K Bd T8 R8
        refine wpAnyH_ready (rs:=[6]) (by kernel_rfl) (by simp) ?_
        refine AllReadyH.cons rfl (fun K hK=>?_) (AllReadyH.nil)
        go_simp
        go_at_call 104
        refine (unhide CG W9).mono ?_
        rintro e W10 ⟨rfl,Bd⟩
        have T10:=hide ((unhide T9).later Bd)
        have R10:=hide ((unhide R9).later Bd (unhide R9).1)
        refine Shut.out hK _ _ trivial (fun _=>?_)
        clear hK K Bd T9 R9
        refine wpAnyH_take (i:=7) (v:=.agg #[.string NM,.int .i64 yy,.int .i64 mo,.int .i64 dd,.int .i64 hh,.int .i64 mi,.int .i64 ss,.string ⟨#[]⟩]) rfl (by kernel_rfl) (by kernel_rfl) (by kernel_rfl) (fun _ _ _ h=>h) (Or.inl ⟨by rfl,fun W hSw=>by go_simp⟩) trivial ?_
        refine wpAnyH_ready (rs:=[9]) (by kernel_rfl) (by simp) ?_
        refine AllReadyH.cons rfl (fun K hK=>?_) (AllReadyH.nil)
        have aA:=(unhide R10).cells (n:=8) rfl
        have fA:=(unhide R10).frees (n:=8) rfl
        go_simp
        have ZX:=hide (put8 (unhide T10).1 (Nat.le_of_lt hA) (unhide R10) (.string NM) (.int .i64 yy) (.int .i64 mo) (.int .i64 dd) (.int .i64 hh) (.int .i64 mi) (.int .i64 ss) (.string ⟨#[]⟩))
        have OX:=hide (other8 (unhide T10).2 (Nat.ne_of_lt hA) (.string NM) (.int .i64 yy) (.int .i64 mo) (.int .i64 dd) (.int .i64 hh) (.int .i64 mi) (.int .i64 ss) (.string ⟨#[]⟩))
        clear aA fA
        refine Shut.out hK _ _ trivial (fun _=>?_)
        clear hK K
        refine wpAnyH_done (by kernel_rfl) ?_ _
        go_wp2_with fail
        go_meet
        case rel=>exact ⟨A,rfl,hA,⟨(unhide ZX).1,unhide OX⟩,(unhide ZX).2⟩
      case rest=>
       obtain ⟨A,rfl,hA,TA',RA'⟩:=hcut
       have TA:=hide TA'
       have RA:=hide RA'
       clear TA' RA' T6
       go_wp2_with fail
       have c8:=fun d os=>Calls.regrown_of (w:=wc) (d:=d) (os:=os) (unhide C8 _)
       have cT:=fun d os=>Calls.regrown_of (w:=wc) (d:=d) (os:=os) (unhide CT _)
       refine wp_region_quiet_below hmix (by kernel_rfl) ?_
       repeat (quiet_step (first | exact c8 _ _ | exact cT _ _))
       refine wpQuiet_nil ?_
       intro zw hw'
       obtain ⟨⟨dq,osq⟩,hw2⟩:=hw'
       have HZ:=below_regrown wc dq osq
       rw [←hw2] at HZ
       have T7:=hide ((unhide TA).later HZ)
       have R7:=hide ((unhide RA).later HZ (unhide RA).1)
       clear hw2 HZ c8 cT TA RA
       have a7:=(unhide R7).cell 7 _ rfl
       have f7:=(unhide R7).free 7 (by simp)
       go_upto_region 9 with fail
       have T8:=hide ((unhide T7).set hA 7 (.string TX))
       have R8:=hide ((unhide R7).set 7 (.string TX))
       clear a7 f7 T7 R7
       generalize zw.setCell ⟨A,7,none⟩ (.string TX)=Z8 at *
       go_cut [10] (fun v wx=>v = .bool (OK&&(decide (CR=cr)&&decide (LN=TX.size)))∧RdS w wx∧Blk wx A [.string NM,.int .i64 yy,.int .i64 mo,.int .i64 dd,.int .i64 hh,.int .i64 mi,.int .i64 ss,.string TX])
       case first=>
        cases OK
        ·
         go_wp2_with fail
         go_meet
         case rel=>exact ⟨rfl,unhide T8,unhide R8⟩
        ·
         go_wp2_with fail
         refine (unhide C14 _).mono ?_
         rintro e x9 ⟨rfl,hb⟩
         have T9:=hide ((unhide T8).later hb)
         have R9:=hide ((unhide R8).later hb (unhide R8).1)
         clear hb T8 R8
         go_wp2_with fail
         refine (unhide CC _).mono ?_
         rintro e x10 ⟨rfl,rfl⟩
         by_cases k1:CR=cr
         ·
          subst k1
          go_wp2_with fail
          refine (unhide C22 _).mono ?_
          rintro e x11 ⟨rfl,hb⟩
          have T11:=hide ((unhide T9).later hb)
          have R11:=hide ((unhide R9).later hb (unhide R9).1)
          clear hb T9 R9
          by_cases k2:LN=TX.size
          ·
           have k2I:(LN:Int)=(TX.size:Int):=by omega
           go_wp2_with fail
           go_meet
           case rel=>exact ⟨by simp [k2],unhide T11,unhide R11⟩
          ·
           have k2I:¬ (LN:Int)=(TX.size:Int):=by omega
           go_wp2_with fail
           go_meet
           case rel=>exact ⟨by simp [k2,k2I],unhide T11,unhide R11⟩
         ·
          have k1I:¬ (CR:Int)=(cr:Int):=by omega
          go_wp2_with fail
          go_meet
          case rel=>exact ⟨by simp [k1],unhide T9,unhide R9⟩
       case rest=>
        obtain ⟨rfl,TB',RB'⟩:=hcut
        have TB:=hide TB'
        have RB:=hide RB'
        clear TB' RB' T8 R8
        have HV:Hid (locV s=if ((OK&&(decide (CR=cr)&&decide (LN=TX.size)))&&EB)=true then .tuple #[.agg #[.string NM,.int .i64 yy,.int .i64 mo,.int .i64 dd,.int .i64 hh,.int .i64 mi,.int .i64 ss,.string TX],.int .i64 (30+(NL:Int)+(LG:Int)),.bool true] else .tuple #[noE,.int .i64 0,.bool false]):=by
         have:=unhide HL
         show _=_
         rw [this,Int.natCast_add,Int.natCast_add]
         congr 1
        generalize (OK&&(decide (CR=cr)&&decide (LN=TX.size)))=OB at *
        go_wp2_with fail
        cases OB
        ·
         have HV:=hide (show locV s = .tuple #[noE,.int .i64 0,.bool false] from unhide HV)
         refine wp_region_held_drew (S:=fun W=>Blk W A [.string NM,.int .i64 yy,.int .i64 mo,.int .i64 dd,.int .i64 hh,.int .i64 mi,.int .i64 ss,.string TX]) hmix (unhide RB).drew (fun hS=>?_)
         refine wpAnyH_take (i:=0) (v:=.agg #[.string NM,.int .i64 yy,.int .i64 mo,.int .i64 dd,.int .i64 hh,.int .i64 mi,.int .i64 ss,.string TX]) rfl (by kernel_rfl) (by kernel_rfl) (by kernel_rfl) (fun _ _ _ h=>h) (Or.inl ⟨by rfl,fun W hSw=>by have sA:=Blk.cells hSw (n:=8) rfl; go_simp⟩) hS ?_
         refine wpAnyH_take (i:=1) (v:=.int .i64 (NL:Nat)) rfl (by kernel_rfl) (by kernel_rfl) (by kernel_rfl) (fun _ _ _ h=>h) (Or.inl ⟨by rfl,fun W hSw=>by go_simp⟩) hS ?_
         refine wpAnyH_take (i:=2) (v:=.int .i64 (30+(NL:Int))) rfl (by kernel_rfl) (by kernel_rfl) (by kernel_rfl) (fun _ _ _ h=>h) (Or.inl ⟨by rfl,fun W hSw=>by go_simp⟩) hS ?_
         refine wpAnyH_take (i:=3) (v:=.int .i64 (LG:Nat)) rfl (by kernel_rfl) (by kernel_rfl) (by kernel_rfl) (fun _ _ _ h=>h) (Or.inl ⟨by rfl,fun W hSw=>by go_simp⟩) hS ?_
         refine wpAnyH_take (i:=4) (v:=.int .i64 (30+(NL:Int)+(LG:Int))) rfl (by kernel_rfl) (by kernel_rfl) (by kernel_rfl) (fun _ _ _ h=>h) (Or.inl ⟨by rfl,fun W hSw=>by go_simp⟩) hS ?_
         refine wpAnyH_take (i:=5) (v:=.bool false) rfl (by kernel_rfl) (by kernel_rfl) (by kernel_rfl) (fun _ _ _ h=>h) (Or.inl ⟨by rfl,fun W hSw=>by go_simp⟩) hS ?_
         refine wpAnyH_take (i:=6) (v:=.bool false) rfl (by kernel_rfl) (by kernel_rfl) (by kernel_rfl) (fun _ _ _ h=>h) (Or.inl ⟨by rfl,fun W hSw=>by go_simp⟩) hS ?_
         refine wpAnyH_ready (rs:=[7]) (by kernel_rfl) (by simp) ?_
         refine AllReadyH.cons rfl (fun K hK=>?_) (AllReadyH.nil)
         go_simp
         refine Shut.out hK _ _ hS (fun hS=>?_)
         clear hK K
         refine wpAnyH_ready (rs:=[8]) (by kernel_rfl) (by simp) ?_
         refine AllReadyH.cons rfl (fun K hK=>?_) (AllReadyH.nil)
         go_simp
         refine Shut.out hK _ _ hS (fun hS=>?_)
         clear hK K
         refine wpAnyH_take (i:=9) (v:=.bool false) rfl (by kernel_rfl) (by kernel_rfl) (by kernel_rfl) (fun _ _ _ h=>h) (Or.inl ⟨by rfl,fun W hSw=>by go_simp⟩) hS ?_
         have TD:=hide (unhide TB).drew
         have RD:=hide (unhide RB).drew
         clear TB RB
         generalize wc.drew=V1 at *
         refine wpAnyH_ready (rs:=[10]) (by kernel_rfl) (by simp) ?_
         refine AllReadyH.cons rfl (fun K hK=>?_) (AllReadyH.nil)
         have bA:=(unhide TD).2.cells (n:=8) rfl
         have gA:=(unhide TD).2.frees (n:=8) rfl
         go_simp
         have ZZ:=hide (put8 (unhide TD).1 (Nat.le_refl _) (unhide TD).2 (.string NM) (.int .i64 yy) (.int .i64 mo) (.int .i64 dd) (.int .i64 hh) (.int .i64 mi) (.int .i64 ss) (.string TX))
         have RZ:=hide (other8 (unhide RD) (Nat.ne_of_gt hA) (.string NM) (.int .i64 yy) (.int .i64 mo) (.int .i64 dd) (.int .i64 hh) (.int .i64 mi) (.int .i64 ss) (.string TX))
         clear bA gA
         refine Shut.out hK _ _ (unhide RZ) (fun hS=>?_)
         clear hK K
         refine wpAnyH_ready (rs:=[11]) (by kernel_rfl) (by simp) ?_
         refine AllReadyH.cons rfl (fun K hK=>?_) (AllReadyH.nil)
         go_simp
         refine Shut.out hK _ _ (unhide RZ) (fun hS=>?_)
         clear hK K
         refine wpAnyH_ready (rs:=[12]) (by kernel_rfl) (by simp) ?_
         refine AllReadyH.cons rfl (fun K hK=>?_) (AllReadyH.nil)
         go_simp
         refine Shut.out hK _ _ (unhide RZ) (fun hS=>?_)
         clear hK K
         refine wpAnyH_done (by kernel_rfl) ?_ _
         go_wp2
         have zA:=(unhide ZZ).2.cells (n:=8) rfl
         refine bodyPost_ret (v:=.tuple #[.agg #[.string NM,.int .i64 yy,.int .i64 mo,.int .i64 dd,.int .i64 hh,.int .i64 mi,.int .i64 ss,.string TX],.int .i64 (30+(NL:Int)+(LG:Int)),.bool false]) (by simp [results,Tryz.results72,go_sem,zA]) rfl ⟨⟨_,_,_,_,_,_,_,_,_,_,rfl,?_⟩,(unhide ZZ).1⟩
         exact unhide HV
        ·
         refine wp_region_held_drew (S:=fun W=>Blk W A [.string NM,.int .i64 yy,.int .i64 mo,.int .i64 dd,.int .i64 hh,.int .i64 mi,.int .i64 ss,.string TX]) hmix (unhide RB).drew (fun hS=>?_)
         refine wpAnyH_take (i:=0) (v:=.agg #[.string NM,.int .i64 yy,.int .i64 mo,.int .i64 dd,.int .i64 hh,.int .i64 mi,.int .i64 ss,.string TX]) rfl (by kernel_rfl) (by kernel_rfl) (by kernel_rfl) (fun _ _ _ h=>h) (Or.inl ⟨by rfl,fun W hSw=>by have sA:=Blk.cells hSw (n:=8) rfl; go_simp⟩) hS ?_
         refine wpAnyH_take (i:=1) (v:=.int .i64 (NL:Nat)) rfl (by kernel_rfl) (by kernel_rfl) (by kernel_rfl) (fun _ _ _ h=>h) (Or.inl ⟨by rfl,fun W hSw=>by go_simp⟩) hS ?_
         refine wpAnyH_take (i:=2) (v:=.int .i64 (30+(NL:Int))) rfl (by kernel_rfl) (by kernel_rfl) (by kernel_rfl) (fun _ _ _ h=>h) (Or.inl ⟨by rfl,fun W hSw=>by go_simp⟩) hS ?_
         refine wpAnyH_take (i:=3) (v:=.int .i64 (LG:Nat)) rfl (by kernel_rfl) (by kernel_rfl) (by kernel_rfl) (fun _ _ _ h=>h) (Or.inl ⟨by rfl,fun W hSw=>by go_simp⟩) hS ?_
         refine wpAnyH_take (i:=4) (v:=.int .i64 (30+(NL:Int)+(LG:Int))) rfl (by kernel_rfl) (by kernel_rfl) (by kernel_rfl) (fun _ _ _ h=>h) (Or.inl ⟨by rfl,fun W hSw=>by go_simp⟩) hS ?_
         refine wpAnyH_take (i:=5) (v:=.bool true) rfl (by kernel_rfl) (by kernel_rfl) (by kernel_rfl) (fun _ _ _ h=>h) (Or.inl ⟨by rfl,fun W hSw=>by go_simp⟩) hS ?_
         refine wpAnyH_take (i:=6) (v:=.bool true) rfl (by kernel_rfl) (by kernel_rfl) (by kernel_rfl) (fun _ _ _ h=>h) (Or.inl ⟨by rfl,fun W hSw=>by go_simp⟩) hS ?_
         have sA:=Blk.cells hS (n:=8) rfl
         refine wpAnyH_ready (rs:=[7]) (by kernel_rfl) (by simp) ?_
         refine AllReadyH.cons rfl (fun K hK=>?_) (AllReadyH.nil)
         go_simp
         refine Shut.out hK _ _ hS (fun hS=>?_)
         clear hK K
         clear sA
         have TC:=hide (unhide TB).drew
         have RC:=hide (unhide RB).drew
         clear TB RB
         generalize wc.drew=V0 at *
         refine wpAnyH_ready (rs:=[8]) (by kernel_rfl) (by simp) ?_
         refine AllReadyH.cons rfl (fun K hK=>?_) (AllReadyH.nil)
         go_simp
         go_at_call 101
         refine (unhide CE V0).mono ?_
         rintro e V1 ⟨rfl,Bd⟩
         have TD:=hide ((unhide TC).later Bd)
         have RD:=hide ((unhide RC).later Bd (unhide RC).1)
         refine Shut.out hK _ _ (unhide RD) (fun hS=>?_)
         clear hK K Bd TC RC
         refine wpAnyH_take (i:=9) (v:=.bool EB) rfl (by kernel_rfl) (by kernel_rfl) (by kernel_rfl) (fun _ _ _ h=>h) (Or.inl ⟨by rfl,fun W hSw=>by go_simp⟩) hS ?_
         refine wpAnyH_ready (rs:=[10]) (by kernel_rfl) (by simp) ?_
         refine AllReadyH.cons rfl (fun K hK=>?_) (AllReadyH.nil)
         have bA:=(unhide TD).2.cells (n:=8) rfl
         have gA:=(unhide TD).2.frees (n:=8) rfl
         go_simp
         have ZZ:=hide (put8 (unhide TD).1 (Nat.le_refl _) (unhide TD).2 (.string NM) (.int .i64 yy) (.int .i64 mo) (.int .i64 dd) (.int .i64 hh) (.int .i64 mi) (.int .i64 ss) (.string TX))
         have RZ:=hide (other8 (unhide RD) (Nat.ne_of_gt hA) (.string NM) (.int .i64 yy) (.int .i64 mo) (.int .i64 dd) (.int .i64 hh) (.int .i64 mi) (.int .i64 ss) (.string TX))
         clear bA gA
         refine Shut.out hK _ _ (unhide RZ) (fun hS=>?_)
         clear hK K
         refine wpAnyH_ready (rs:=[11]) (by kernel_rfl) (by simp) ?_
         refine AllReadyH.cons rfl (fun K hK=>?_) (AllReadyH.nil)
         go_simp
         refine Shut.out hK _ _ (unhide RZ) (fun hS=>?_)
         clear hK K
         refine wpAnyH_ready (rs:=[12]) (by kernel_rfl) (by simp) ?_
         refine AllReadyH.cons rfl (fun K hK=>?_) (AllReadyH.nil)
         go_simp
         refine Shut.out hK _ _ (unhide RZ) (fun hS=>?_)
         clear hK K
         refine wpAnyH_done (by kernel_rfl) ?_ _
         go_wp2
         have zA:=(unhide ZZ).2.cells (n:=8) rfl
         refine bodyPost_ret (v:=.tuple #[.agg #[.string NM,.int .i64 yy,.int .i64 mo,.int .i64 dd,.int .i64 hh,.int .i64 mi,.int .i64 ss,.string TX],.int .i64 (30+(NL:Int)+(LG:Int)),.bool EB]) (by simp [results,Tryz.results72,go_sem,zA]) rfl ⟨⟨_,_,_,_,_,_,_,_,_,_,rfl,?_⟩,(unhide ZZ).1⟩
         exact unhide HV
     ·
      have HV:=hide (tot_no (s:=s) hto)
      generalize wd s.data.toList 26 2=NL at *
      generalize wd s.data.toList 18 4=LG at *
      have hNLI:(NL:Int)<65536:=by omega
      have hLGI:(LG:Int)<4294967296:=by omega
      have hNL1:decide ((NL:Int)<0)=false:=by simp
      have hLG1:decide ((LG:Int)<0)=false:=by simp
      have htoI:(s.size:Int)<30+(NL:Int)+(LG:Int):=by omega
      clear q1 q2 q3 q4 h30 hfx hto hNL hLG hST hHW
      go_enter Tryz.func72,Tryz.ntmps72
      go_wp2_with fail
      refine (unhide C26 _).mono ?_
      rintro e x1 ⟨rfl,hb⟩
      have T1:=hide ((unhide T0).later hb)
      clear hb T0
      go_wp2_with fail
      refine (unhide C18 _).mono ?_
      rintro e x2 ⟨rfl,hb⟩
      have T2:=hide ((unhide T1).later hb)
      clear hb T1
      go_wp2_with fail
      refine (unhide C0 _).mono ?_
      rintro e x3 ⟨rfl,hb⟩
      have T3:=hide ((unhide T2).later hb)
      clear hb T2
      go_wp2_with fail
      refine (unhide C4 _).mono ?_
      rintro e x4 ⟨rfl,hb⟩
      have T4:=hide ((unhide T3).later hb)
      clear hb T3
      go_wp2_with fail
      refine (unhide C6 _).mono ?_
      rintro e x5 ⟨rfl,hb⟩
      have T5:=hide ((unhide T4).later hb)
      clear hb T4
      go_wp2_with fail
      refine (unhide C28 _).mono ?_
      rintro e x6 ⟨rfl,hb⟩
      have T6:=hide ((unhide T5).later hb)
      clear hb T5
      have bA:=(unhide T6).2.cells (n:=8) rfl
      have gA:=(unhide T6).2.frees (n:=8) rfl
      have ZZ:=hide (put8 (unhide T6).1 (Nat.le_refl _) (unhide T6).2 (.string ⟨#[]⟩) (.int .i64 0) (.int .i64 0) (.int .i64 0) (.int .i64 0) (.int .i64 0) (.int .i64 0) (.string ⟨#[]⟩))
      go_wp2
      have zA:=(unhide ZZ).2.cells (n:=8) rfl
      refine bodyPost_ret (v:=.tuple #[.agg #[.string ⟨#[]⟩,.int .i64 0,.int .i64 0,.int .i64 0,.int .i64 0,.int .i64 0,.int .i64 0,.string ⟨#[]⟩],.int .i64 0,.bool false]) (by simp [results,Tryz.results72,go_sem,zA]) rfl ⟨⟨_,_,_,_,_,_,_,_,_,_,rfl,unhide HV⟩,(unhide ZZ).1⟩
    ·
     have HV:=hide (head_no (s:=s) (fun h=>q4 h.2.2.2))
     rw [q1] at C0
     rw [q2] at C4
     rw [q3] at C6
     clear q1 q2 q3
     have qb:(numI s 28 2 == 0)=false:=by simpa using q4
     clear q4
     generalize numI s 28 2=i3 at *
     generalize numI s 26 2=i26 at *
     generalize numI s 18 4=i18 at *
     go_enter Tryz.func72,Tryz.ntmps72
     go_wp2_with fail
     refine (unhide C26 _).mono ?_
     rintro e x1 ⟨rfl,hb⟩
     have T1:=hide ((unhide T0).later hb)
     clear hb T0
     go_wp2_with fail
     refine (unhide C18 _).mono ?_
     rintro e x2 ⟨rfl,hb⟩
     have T2:=hide ((unhide T1).later hb)
     clear hb T1
     go_wp2_with fail
     refine (unhide C0 _).mono ?_
     rintro e x3 ⟨rfl,hb⟩
     have T3:=hide ((unhide T2).later hb)
     clear hb T2
     go_wp2_with fail
     refine (unhide C4 _).mono ?_
     rintro e x4 ⟨rfl,hb⟩
     have T4:=hide ((unhide T3).later hb)
     clear hb T3
     go_wp2_with fail
     refine (unhide C6 _).mono ?_
     rintro e x5 ⟨rfl,hb⟩
     have T5:=hide ((unhide T4).later hb)
     clear hb T4
     go_wp2_with fail
     refine (unhide C28 _).mono ?_
     rintro e x6 ⟨rfl,hb⟩
     have T6:=hide ((unhide T5).later hb)
     clear hb T5
     have bA:=(unhide T6).2.cells (n:=8) rfl
     have gA:=(unhide T6).2.frees (n:=8) rfl
     have ZZ:=hide (put8 (unhide T6).1 (Nat.le_refl _) (unhide T6).2 (.string ⟨#[]⟩) (.int .i64 0) (.int .i64 0) (.int .i64 0) (.int .i64 0) (.int .i64 0) (.int .i64 0) (.string ⟨#[]⟩))
     go_wp2
     have zA:=(unhide ZZ).2.cells (n:=8) rfl
     refine bodyPost_ret (v:=.tuple #[.agg #[.string ⟨#[]⟩,.int .i64 0,.int .i64 0,.int .i64 0,.int .i64 0,.int .i64 0,.int .i64 0,.string ⟨#[]⟩],.int .i64 0,.bool false]) (by simp [results,Tryz.results72,go_sem,zA]) rfl ⟨⟨_,_,_,_,_,_,_,_,_,_,rfl,unhide HV⟩,(unhide ZZ).1⟩
   ·
    have HV:=hide (head_no (s:=s) (fun h=>q3 h.2.2.1))
    rw [q1] at C0
    rw [q2] at C4
    clear q1 q2
    have qb:(numI s 6 2 == 0)=false:=by simpa using q3
    clear q3
    generalize numI s 6 2=i2 at *
    generalize numI s 26 2=i26 at *
    generalize numI s 18 4=i18 at *
    go_enter Tryz.func72,Tryz.ntmps72
    go_wp2_with fail
    refine (unhide C26 _).mono ?_
    rintro e x1 ⟨rfl,hb⟩
    have T1:=hide ((unhide T0).later hb)
    clear hb T0
    go_wp2_with fail
    refine (unhide C18 _).mono ?_
    rintro e x2 ⟨rfl,hb⟩
    have T2:=hide ((unhide T1).later hb)
    clear hb T1
    go_wp2_with fail
    refine (unhide C0 _).mono ?_
    rintro e x3 ⟨rfl,hb⟩
    have T3:=hide ((unhide T2).later hb)
    clear hb T2
    go_wp2_with fail
    refine (unhide C4 _).mono ?_
    rintro e x4 ⟨rfl,hb⟩
    have T4:=hide ((unhide T3).later hb)
    clear hb T3
    go_wp2_with fail
    refine (unhide C6 _).mono ?_
    rintro e x5 ⟨rfl,hb⟩
    have T5:=hide ((unhide T4).later hb)
    clear hb T4
    have bA:=(unhide T5).2.cells (n:=8) rfl
    have gA:=(unhide T5).2.frees (n:=8) rfl
    have ZZ:=hide (put8 (unhide T5).1 (Nat.le_refl _) (unhide T5).2 (.string ⟨#[]⟩) (.int .i64 0) (.int .i64 0) (.int .i64 0) (.int .i64 0) (.int .i64 0) (.int .i64 0) (.string ⟨#[]⟩))
    go_wp2
    have zA:=(unhide ZZ).2.cells (n:=8) rfl
    refine bodyPost_ret (v:=.tuple #[.agg #[.string ⟨#[]⟩,.int .i64 0,.int .i64 0,.int .i64 0,.int .i64 0,.int .i64 0,.int .i64 0,.string ⟨#[]⟩],.int .i64 0,.bool false]) (by simp [results,Tryz.results72,go_sem,zA]) rfl ⟨⟨_,_,_,_,_,_,_,_,_,_,rfl,unhide HV⟩,(unhide ZZ).1⟩
  ·
   have HV:=hide (head_no (s:=s) (fun h=>q2 h.2.1))
   rw [q1] at C0
   clear q1
   have qb:(numI s 4 2 == 20)=false:=by simpa using q2
   clear q2
   generalize numI s 4 2=i1 at *
   generalize numI s 26 2=i26 at *
   generalize numI s 18 4=i18 at *
   go_enter Tryz.func72,Tryz.ntmps72
   go_wp2_with fail
   refine (unhide C26 _).mono ?_
   rintro e x1 ⟨rfl,hb⟩
   have T1:=hide ((unhide T0).later hb)
   clear hb T0
   go_wp2_with fail
   refine (unhide C18 _).mono ?_
   rintro e x2 ⟨rfl,hb⟩
   have T2:=hide ((unhide T1).later hb)
   clear hb T1
   go_wp2_with fail
   refine (unhide C0 _).mono ?_
   rintro e x3 ⟨rfl,hb⟩
   have T3:=hide ((unhide T2).later hb)
   clear hb T2
   go_wp2_with fail
   refine (unhide C4 _).mono ?_
   rintro e x4 ⟨rfl,hb⟩
   have T4:=hide ((unhide T3).later hb)
   clear hb T3
   have bA:=(unhide T4).2.cells (n:=8) rfl
   have gA:=(unhide T4).2.frees (n:=8) rfl
   have ZZ:=hide (put8 (unhide T4).1 (Nat.le_refl _) (unhide T4).2 (.string ⟨#[]⟩) (.int .i64 0) (.int .i64 0) (.int .i64 0) (.int .i64 0) (.int .i64 0) (.int .i64 0) (.string ⟨#[]⟩))
   go_wp2
   have zA:=(unhide ZZ).2.cells (n:=8) rfl
   refine bodyPost_ret (v:=.tuple #[.agg #[.string ⟨#[]⟩,.int .i64 0,.int .i64 0,.int .i64 0,.int .i64 0,.int .i64 0,.int .i64 0,.string ⟨#[]⟩],.int .i64 0,.bool false]) (by simp [results,Tryz.results72,go_sem,zA]) rfl ⟨⟨_,_,_,_,_,_,_,_,_,_,rfl,unhide HV⟩,(unhide ZZ).1⟩
 ·
  have HV:=hide (head_no (s:=s) (fun h=>q1 h.1))
  have qb:(numI s 0 4 == 67324752)=false:=by simpa using q1
  clear q1
  generalize numI s 0 4=i0 at *
  generalize numI s 26 2=i26 at *
  generalize numI s 18 4=i18 at *
  go_enter Tryz.func72,Tryz.ntmps72
  go_wp2_with fail
  refine (unhide C26 _).mono ?_
  rintro e x1 ⟨rfl,hb⟩
  have T1:=hide ((unhide T0).later hb)
  clear hb T0
  go_wp2_with fail
  refine (unhide C18 _).mono ?_
  rintro e x2 ⟨rfl,hb⟩
  have T2:=hide ((unhide T1).later hb)
  clear hb T1
  go_wp2_with fail
  refine (unhide C0 _).mono ?_
  rintro e x3 ⟨rfl,hb⟩
  have T3:=hide ((unhide T2).later hb)
  clear hb T2
  have bA:=(unhide T3).2.cells (n:=8) rfl
  have gA:=(unhide T3).2.frees (n:=8) rfl
  have ZZ:=hide (put8 (unhide T3).1 (Nat.le_refl _) (unhide T3).2 (.string ⟨#[]⟩) (.int .i64 0) (.int .i64 0) (.int .i64 0) (.int .i64 0) (.int .i64 0) (.int .i64 0) (.string ⟨#[]⟩))
  go_wp2
  have zA:=(unhide ZZ).2.cells (n:=8) rfl
  refine bodyPost_ret (v:=.tuple #[.agg #[.string ⟨#[]⟩,.int .i64 0,.int .i64 0,.int .i64 0,.int .i64 0,.int .i64 0,.int .i64 0,.string ⟨#[]⟩],.int .i64 0,.bool false]) (by simp [results,Tryz.results72,go_sem,zA]) rfl ⟨⟨_,_,_,_,_,_,_,_,_,_,rfl,unhide HV⟩,(unhide ZZ).1⟩
def Wds (W:World) (B g c:Nat) (s:ByteArray):Prop:=Blk W B [.slice (some ⟨g,0,none⟩) 15 c]∧g<W.heap.size∧∀ j,j<15→W.cell? ⟨g,j,none⟩=some (.int .i64 ((wd s.data.toList (2*j) 2:Nat):Int))
theorem Wds.later {W W':World} {B g c:Nat} {s:ByteArray} (h:Wds W B g c s) (hb:Below W.heap.size W W'):Wds W' B g c s:=
 ⟨h.1.later hb h.1.1,Nat.lt_of_lt_of_le h.2.1 hb.size,fun j hj=>(hb.cell (p:=⟨g,j,none⟩) h.2.1).trans (h.2.2 j hj)⟩
theorem Wds.drew {W:World} {B g c:Nat} {s:ByteArray} (h:Wds W B g c s):Wds W.drew B g c s:=h
theorem Wds.set {W:World} {B g c A:Nat} {s:ByteArray} (h:Wds W B g c s) (h1:B≠A) (h2:g≠A) (o:Nat) (v:Value):Wds (W.setCell ⟨A,o,none⟩ v) B g c s:=
 ⟨h.1.set_other v h1,by simpa using h.2.1,fun j hj=>(World.cell?_of_block (w:=W) (Below.heap_setCell W ⟨A,o,none⟩ v g h2)).trans (h.2.2 j hj)⟩
theorem longW {x y:Nat} (hx:x<65536) (hy:y<65536):bits .or .i64 (x:Int) ((y:Int)*65536)=((x+65536*y:Nat):Int):=by
 rw [or_join' 16 (x:Int) ((y:Int)*65536) (by omega) (by omega) (by omega) (by omega) (by omega) (by omega)]
 omega
set_option maxHeartbeats 1600000 in
theorem longAt_any (k B g c:Nat) (s:ByteArray) (w:World) (h:Wds w B g c s) (hk:k+1<15) (hl:30≤s.size) :
  Calls Tryz.prog 116 #[.int .i64 (k:Int),.pointer (some ⟨B,0,none⟩)] w fun e w'=>e = .returned (.int .i64 ((wd s.data.toList (2*k) 4:Nat):Int))∧Below w.heap.size w w':=by
 have c1:=h.1.cell 0 _ rfl
 have c2:=h.2.2 k (by omega)
 have c3:=h.2.2 (k+1) hk
 have hkI:(k:Int)+1<15:=by omega
 have hk0:0≤(k:Int)+1:=by omega
 have hX:=wd_two s.data.toList (2*k)
 have hY:=wd_two s.data.toList (2*(k+1))
 have HE:Hid (∀ hl:2*k+2≤s.data.toList.length,wd s.data.toList (2*k) 4=wd s.data.toList (2*k) 2+65536*wd s.data.toList (2*(k+1)) 2):=fun hl=>wd_22 hl
 generalize wd s.data.toList (2*k) 2=X at *
 generalize wd s.data.toList (2*(k+1)) 2=Y at *
 have HW:=hide (longW hX hY)
 have hYI:(Y:Int)<65536:=by omega
 clear h hX hY
 go_enter Tryz.func116,Tryz.ntmps116
 go_wp2_with fail
 go_quiet (fail)
 go_wp2
 go_ret
 exact ⟨ret_int (by rw [unhide HW,unhide HE (by simp; omega)]),below_drewN (Below.refl _ _) _⟩
theorem sClone_any (s:ByteArray) (w:World) (hs:s.size≤281474976710656) :
  Calls Tryz.prog 65 #[.string s] w fun e w'=>e = .returned (.string s)∧Below w.heap.size w w':=by
 go_enter Tryz.func65,Tryz.ntmps65
 go_wp2_with fail
 refine (Tryz.stringslite_Clone s _ hs).mono ?_
 rintro e x1 ⟨rfl,hb1⟩
 go_wp2
 go_ret
 exact ⟨rfl,hb1⟩
def uxT (how:Nat) (b:ByteArray):ByteArray:=if how=0∨how=8 then txT how b else ⟨#[]⟩
theorem ux_small {how:Nat} {b:ByteArray} (hb:b.size≤1048576):(uxT how b).size≤1048576:=by
 unfold uxT
 split
 ·
  exact tx_small hb
 ·
  exact Nat.zero_le _
theorem ux_yes {how:Nat} {b:ByteArray} (h:txO how b=true):uxT how b=txT how b:=by
 unfold uxT
 rw [if_pos]
 unfold txO unpB at h
 by_cases h0:how=0
 ·
  exact .inl h0
 ·
  rw [if_neg h0] at h
  by_cases h8:how=8
  ·
   exact .inr h8
  ·
   rw [if_neg h8] at h; cases h
set_option maxHeartbeats 1600000 in
theorem lhUnp_any (how:Nat) (st crc pk lg:Int) (nm b:ByteArray) (w:World) (hb:b.size≤1048576) (hh:how<65536) (hO:OrdC w) :
  Calls Tryz.prog 117 #[.agg #[.int .i64 (how:Int),.int .i64 st,.int .i64 crc,.int .i64 pk,.int .i64 lg,.string nm,.string b]] w fun e w'=>e = .returned (.tuple #[.string (uxT how b),.bool (txO how b)])∧Below w.heap.size w w':=by
 have hmix:Tryz.prog.follows .mixedOrders=true:=by kernel_rfl
 have B0:=hide ((Below.refl w.heap.size w).alloc (Nat.le_refl _) (.cells #[.int .i64 (how:Int),.int .i64 st,.int .i64 crc,.int .i64 pk,.int .i64 lg,.string nm,.string b] 63))
 have R0:=hide (blk_alloc w #[.int .i64 (how:Int),.int .i64 st,.int .i64 crc,.int .i64 pk,.int .i64 lg,.string nm,.string b] 63)
 have hhI:(how:Int)<65536:=by omega
 by_cases h0:how=0
 ·
  subst h0
  have e1:uxT 0 b=b:=by simp [uxT,txT]
  have e2:txO 0 b=true:=by simp [txO,unpB]
  rw [e1,e2]
  have CC:=hide (fun W=>sClone_any b W (by omega))
  clear hO hb hh e1 e2
  go_enter Tryz.func117,Tryz.ntmps117
  go_wp2_with fail
  refine (unhide CC _).mono ?_
  rintro e x1 ⟨rfl,hb1⟩
  have HB1:=hide (bnext (unhide B0) hb1)
  clear hb1
  go_wp2
  go_ret2
  exact ⟨rfl,unhide HB1⟩
 ·
  by_cases h8:how=8
  ·
   subst h8
   have CF:=hide (fun W (hO:OrdC W)=>implFlateGet_any b W (by omega) hO)
   have HO:=hide (hO.later (unhide B0))
   rcases hf:flateG b with _ | ⟨T,q⟩
   ·
    have e1:uxT 8 b=⟨#[]⟩:=by simp [uxT,txT,hf]
    have e2:txO 8 b=false:=by simp [txO,unpB,hf]
    rw [hf] at CF
    rw [e1,e2]
    simp only [getV] at CF
    clear hb hh hf e1 e2 h0 hO
    go_enter Tryz.func117,Tryz.ntmps117
    go_wp2_with fail
    refine (unhide CF _ (unhide HO)).mono ?_
    rintro e x1 ⟨rfl,hb1⟩
    have HB1:=hide (bnext (unhide B0) hb1)
    have c6:=((unhide R0).later hb1 (unhide R0).1).cell 6 _ rfl
    clear hb1
    go_wp2_with fail
    have k6:=cell_regrown c6
    refine wp_region_quiet_below hmix (by kernel_rfl) ?_
    repeat (quiet_step (fail))
    refine wpQuiet_nil ?_
    intro zw hw'
    obtain ⟨⟨dq,osq⟩,hw2⟩:=hw'
    have HZ:=below_regrown x1 dq osq
    rw [←hw2] at HZ
    have BZ:=hide (bnext (unhide HB1) HZ)
    clear hw2 HZ k6 c6
    go_wp2
    go_ret2
    exact ⟨rfl,unhide BZ⟩
   ·
    obtain ⟨hT,hq⟩:=flateG_bd hf
    have e1:uxT 8 b=⟨T.toArray⟩:=by simp [uxT,txT,hf]
    have e2:txO 8 b=decide (((q/8:Nat):Int)=(b.size:Int)):=by
     unfold txO unpB
     rw [if_neg h0,if_pos rfl,hf]
     by_cases h9:q/8=b.size
     ·
      rw [decide_eq_true (by omega)]; simp [h9]
     ·
      rw [decide_eq_false (by omega)]; simp [h9]
    rw [hf] at CF
    rw [e1,e2]
    simp only [getV] at CF
    clear hb hh hf e1 e2 h0 hq hO
    generalize (⟨T.toArray⟩:ByteArray)=X at *
    generalize q/8=q8 at *
    go_enter Tryz.func117,Tryz.ntmps117
    go_wp2_with fail
    refine (unhide CF _ (unhide HO)).mono ?_
    rintro e x1 ⟨rfl,hb1⟩
    have HB1:=hide (bnext (unhide B0) hb1)
    have c6:=((unhide R0).later hb1 (unhide R0).1).cell 6 _ rfl
    clear hb1
    go_wp2_with fail
    have k6:=cell_regrown c6
    refine wp_region_quiet_below hmix (by kernel_rfl) ?_
    repeat (quiet_step (fail))
    refine wpQuiet_nil ?_
    intro zw hw'
    obtain ⟨⟨dq,osq⟩,hw2⟩:=hw'
    have HZ:=below_regrown x1 dq osq
    rw [←hw2] at HZ
    have BZ:=hide (bnext (unhide HB1) HZ)
    clear hw2 HZ k6 c6
    go_wp2
    go_ret2
    exact ⟨rfl,unhide BZ⟩
  ·
   have h8b:((how:Int) == 8)=false:=by simp; omega
   have h0b:((how:Int) == 0)=false:=by simp [h0]
   have e1:uxT how b=⟨#[]⟩:=by simp [uxT,h0,h8]
   have e2:txO how b=false:=by simp [txO,unpB,h0,h8]
   rw [e1,e2]
   clear hb hh e1 e2 h0 h8 hO
   go_enter Tryz.func117,Tryz.ntmps117
   go_wp2
   go_ret2
   exact ⟨rfl,unhide B0⟩
def HgS (w W:World):Prop:=Below w.heap.size w W∧Blk W w.heap.size [.int .i64 0,.int .i64 0,.int .i64 0,.int .i64 0,.int .i64 0,.string ⟨#[]⟩,.string ⟨#[]⟩]
theorem HgS.later {w W W':World} (k:HgS w W) (hb:Below W.heap.size W W'):HgS w W':=⟨bnext k.1 hb,k.2.later hb k.2.1⟩
theorem HgS.drew {w W:World} (k:HgS w W):HgS w W.drew:=⟨k.1.drew,k.2.drew⟩
theorem HgS.set {w W:World} (k:HgS w W) {A:Nat} (hA:w.heap.size<A) (o:Nat) (v:Value):HgS w (W.setCell ⟨A,o,none⟩ v):=⟨below_set k.1 (Nat.le_of_lt hA) _,k.2.set_other v (by omega)⟩
theorem HgS.set6 {w W:World} (k:HgS w W) {A:Nat} (hA:w.heap.size<A) (a0 a1 a2 a3 a4 a5:Value):HgS w ((((((W.setCell ⟨A,0,none⟩ a0).setCell ⟨A,1,none⟩ a1).setCell ⟨A,2,none⟩ a2).setCell ⟨A,3,none⟩ a3).setCell ⟨A,4,none⟩ a4).setCell ⟨A,5,none⟩ a5):=((((((k.set hA 0 a0).set hA 1 a1).set hA 2 a2).set hA 3 a3).set hA 4 a4).set hA 5 a5)
theorem HgS.set7 {w W:World} (k:HgS w W) {A:Nat} (hA:w.heap.size<A) (a0 a1 a2 a3 a4 a5 a6:Value):HgS w (((((((W.setCell ⟨A,0,none⟩ a0).setCell ⟨A,1,none⟩ a1).setCell ⟨A,2,none⟩ a2).setCell ⟨A,3,none⟩ a3).setCell ⟨A,4,none⟩ a4).setCell ⟨A,5,none⟩ a5).setCell ⟨A,6,none⟩ a6):=(((((((k.set hA 0 a0).set hA 1 a1).set hA 2 a2).set hA 3 a3).set hA 4 a4).set hA 5 a5).set hA 6 a6)
theorem Wds.set6 {W:World} {B g c A:Nat} {s:ByteArray} (h:Wds W B g c s) (h1:B≠A) (h2:g≠A) (a0 a1 a2 a3 a4 a5:Value):Wds ((((((W.setCell ⟨A,0,none⟩ a0).setCell ⟨A,1,none⟩ a1).setCell ⟨A,2,none⟩ a2).setCell ⟨A,3,none⟩ a3).setCell ⟨A,4,none⟩ a4).setCell ⟨A,5,none⟩ a5) B g c s:=((((((h.set h1 h2 0 a0).set h1 h2 1 a1).set h1 h2 2 a2).set h1 h2 3 a3).set h1 h2 4 a4).set h1 h2 5 a5)
def Flo (w W:World) (z:List Value) (o:Option Nat) (E:World→Prop) (N:Nat→Prop):Prop:=HgS w W∧E W∧(∀ V V':World,Below V.heap.size V V'→E V→E V')∧∀ A,o=some A→w.heap.size<A∧N A∧Blk W A z
theorem Flo.call {w W W':World} {z:List Value} {o:Option Nat} {E E':World→Prop} {N N':Nat→Prop} (h:Flo w W z o E N) (b:Below W.heap.size W W') (e:E' W') (m:∀ V V':World,Below V.heap.size V V'→E' V→E' V') (n:∀ A,N A→A<W.heap.size→N' A):Flo w W' z o E' N':=
 ⟨h.1.later b,e,m,fun A q=>have r:=h.2.2.2 A q; ⟨r.1,n A r.2.1 r.2.2.1,r.2.2.later b r.2.2.1⟩⟩
theorem Flo.later {w W W':World} {z:List Value} {o:Option Nat} {E:World→Prop} {N:Nat→Prop} (h:Flo w W z o E N) (b:Below W.heap.size W W'):Flo w W' z o E N:=h.call b (h.2.2.1 _ _ b h.2.1) h.2.2.1 (fun _ k _=>k)
theorem Flo.lay {w W:World} {z:List Value} {E:World→Prop} {N:Nat→Prop} (h:Flo w W z none E N) (n:N W.heap.size) (u:TypeId):Flo w (W.alloc (.cells z.toArray u)) z (some W.heap.size) E N:=
 have b:Below W.heap.size W (W.alloc (.cells z.toArray u)):=(Below.refl _ _).alloc (Nat.le_refl _) _
 ⟨h.1.later b,h.2.2.1 _ _ b h.2.1,h.2.2.1,fun A q=>by
  obtain rfl:=Option.some.inj q
  exact ⟨h.1.2.1,n,blk_alloc W z.toArray u⟩⟩
theorem wds_set {W:World} {g A:Nat} {s:ByteArray} (h:g<W.heap.size∧∀ j,j<15→W.cell? ⟨g,j,none⟩=some (.int .i64 ((wd s.data.toList (2*j) 2:Nat):Int))) (hA:g≠A) (o:Nat) (v:Value):g<(W.setCell ⟨A,o,none⟩ v).heap.size∧∀ j,j<15→(W.setCell ⟨A,o,none⟩ v).cell? ⟨g,j,none⟩=some (.int .i64 ((wd s.data.toList (2*j) 2:Nat):Int)):=
 ⟨by simpa using h.1,fun j hj=>(World.cell?_of_block (w:=W) (Below.heap_setCell W ⟨A,o,none⟩ v g hA)).trans (h.2 j hj)⟩
theorem headBits_any (s:ByteArray) (a:Option Addr) (w:World) (h:IRow w a (List.replicate 15 16)) (h30:30≤s.size) :
  Calls Tryz.prog 114 #[.string (s.extract 0 30),.slice a 15 15] w fun e w'=>∃ g c,e = .returned (.tuple #[.slice (some ⟨g,0,none⟩) 15 c,.bool true])∧(w.heap.size≤g∧g<w'.heap.size)∧(∀ j,j<15→w'.cell? ⟨g,j,none⟩=some (.int .i64 ((wd s.data.toList (2*j) 2:Nat):Int)))∧Below w.heap.size w w':=by
 have e0:(s.extract 0 30).data.toList=s.data.toList.take 30:=by rw [ext_list,List.drop_zero]
 have hl:30≤s.data.toList.length:=by simpa using h30
 have hz:(s.extract 0 30).size≤2000000:=by rw [ByteArray.size_extract]; omega
 refine (implBitsGet_any (s.extract 0 30) a 15 (List.replicate 15 16) w h hz (by simp)).mono ?_
 rintro e w' ⟨v,rfl,ho,hb⟩
 rw [e0] at ho
 rw [e0,head_ok hl]
 have hn:=head_len hl
 obtain ⟨b,c,rfl⟩:=ho.formN hn
 obtain ⟨g,rfl⟩:=ho.somes (by rw [hn]; decide)
 refine ⟨g,c,rfl,ho.below,fun j hj=>?_,hb⟩
 have:=(ho.at hn hj).1
 rw [head_words hl j hj] at this
 exact this
def HgO (s:ByteArray) (a b c d f:Nat) (n t:ByteArray):Prop:=a<65536∧b<4294967296∧c<4294967296∧d<4294967296∧f<4294967296∧n.size≤s.size∧t.size≤s.size
def HgP (s:ByteArray) (e:Ending):Prop:=
 (hdB s=true∧e = .returned (.tuple #[.agg #[.int .i64 (wd s.data.toList 8 2:Nat),.int .i64 (wd s.data.toList 10 4:Nat),.int .i64 (wd s.data.toList 14 4:Nat),.int .i64 (wd s.data.toList 18 4:Nat),.int .i64 (wd s.data.toList 22 4:Nat),.string (nmB s),.string (bdB s)],.bool true])) ∨
 (hdB s=false∧∃ (a b c d f:Nat) (n t:ByteArray),HgO s a b c d f n t∧e = .returned (.tuple #[.agg #[.int .i64 (a:Nat),.int .i64 (b:Nat),.int .i64 (c:Nat),.int .i64 (d:Nat),.int .i64 (f:Nat),.string n,.string t],.bool false]))
theorem hg_no {s:ByteArray} (h:hdB s=false) (a b c d f:Nat) (n t:ByteArray) (k:HgO s a b c d f n t):HgP s (.returned (.tuple #[.agg #[.int .i64 (a:Nat),.int .i64 (b:Nat),.int .i64 (c:Nat),.int .i64 (d:Nat),.int .i64 (f:Nat),.string n,.string t],.bool false])):=.inr ⟨h,a,b,c,d,f,n,t,k,rfl⟩
theorem hgo_zero {s:ByteArray} : HgO s 0 0 0 0 0 ⟨#[]⟩ ⟨#[]⟩:=⟨by decide,by decide,by decide,by decide,by decide,Nat.zero_le _,Nat.zero_le _⟩
set_option maxHeartbeats 12800000 in
theorem localHeadGet_any (s:ByteArray) (w:World) (hs:s.size≤1048576) :
  Calls Tryz.prog 78 #[.string s] w fun e w'=>HgP s e∧Below w.heap.size w w':=by
 have hmix:Tryz.prog.follows .mixedOrders=true:=by kernel_rfl
 have hsI:(s.size:Int)≤1048576:=by omega
 have T0:Hid (HgS w (w.alloc (.cells #[.int .i64 0,.int .i64 0,.int .i64 0,.int .i64 0,.int .i64 0,.string ⟨#[]⟩,.string ⟨#[]⟩] 63))):=⟨(Below.refl _ _).alloc (Nat.le_refl _) _,blk_alloc w #[.int .i64 0,.int .i64 0,.int .i64 0,.int .i64 0,.int .i64 0,.string ⟨#[]⟩,.string ⟨#[]⟩] 63⟩
 by_cases h30:30≤s.size
 ·
  have hx0:s.extract 0 30=s.extract 0 30:=rfl
  obtain ⟨HD,hHD⟩:∃ x,s.extract 0 30=x:=⟨_,rfl⟩
  have CRep:Hid (∀ pb W,W.cell? ⟨pb,0,none⟩=some (.int .i64 16)→Calls Tryz.prog 115 #[.slice (some ⟨pb,0,none⟩) 1 1,.int .i64 15] W fun e w'=>e = .returned (.slice (some ⟨W.heap.size,0,none⟩) 15 15)∧IOwn w' W.heap.size (.slice (some ⟨W.heap.size,0,none⟩) 15 15) (List.replicate 15 16)∧Below W.heap.size W w'):=fun pb W h=>repeat_one 16 15 1 pb 0 W h (by omega) (by omega)
  have CB:Hid (∀ a W,IRow W a (List.replicate 15 16)→Calls Tryz.prog 114 #[.string HD,.slice a 15 15] W fun e w'=>∃ g c,e = .returned (.tuple #[.slice (some ⟨g,0,none⟩) 15 c,.bool true])∧(W.heap.size≤g∧g<w'.heap.size)∧(∀ j,j<15→w'.cell? ⟨g,j,none⟩=some (.int .i64 ((wd s.data.toList (2*j) 2:Nat):Int)))∧Below W.heap.size W w'):=by rw [←hHD]; exact fun a W h=>headBits_any s a W h h30
  obtain ⟨HW,hHW⟩:∃ x,wd s.data.toList 8 2=x:=⟨_,rfl⟩
  obtain ⟨ST,hST⟩:∃ x,wd s.data.toList 10 4=x:=⟨_,rfl⟩
  obtain ⟨CR,hCR⟩:∃ x,wd s.data.toList 14 4=x:=⟨_,rfl⟩
  obtain ⟨PK,hPK⟩:∃ x,wd s.data.toList 18 4=x:=⟨_,rfl⟩
  obtain ⟨LN,hLN⟩:∃ x,wd s.data.toList 22 4=x:=⟨_,rfl⟩
  obtain ⟨NL,hNL⟩:∃ x,wd s.data.toList 26 2=x:=⟨_,rfl⟩
  have HALL:=hide (And.intro hHW (And.intro hST (And.intro hCR (And.intro hPK (And.intro hLN hNL)))))
  have lHW:HW<65536:=by rw [←hHW]; exact wd_two _ _
  have lST:ST<4294967296:=by rw [←hST]; exact wd_four _ _
  have lCR:CR<4294967296:=by rw [←hCR]; exact wd_four _ _
  have lPK:PK<4294967296:=by rw [←hPK]; exact wd_four _ _
  have lLN:LN<4294967296:=by rw [←hLN]; exact wd_four _ _
  have lNL:NL<65536:=by rw [←hNL]; exact wd_two _ _
  have h30I:30≤(s.size:Int):=by omega
  have h30b:decide ((s.size:Int)<30)=false:=by simp; omega
  have HLT:=hide (And.intro lHW (And.intro lST (And.intro lCR (And.intro lPK (And.intro lLN lNL)))))
  have hNLI:(NL:Int)<65536:=by omega
  have hPKI:(PK:Int)<4294967296:=by omega
  have H30:=hide h30
  clear hHW hST hCR hPK hLN hNL lHW lST lCR lPK lLN lNL h30 hx0
  go_enter Tryz.func78,Tryz.ntmps78
  go_wp2_with fail
  go_cut [4,5] (fun v u wx=>(∃ B g c,v = .pointer (some ⟨B,0,none⟩)∧w.heap.size<B∧w.heap.size<g∧HgS w wx∧Wds wx B g c s)∧u = .bool true)
  case first=>
   obtain ⟨W0,hW0⟩:∃ x,w.alloc (.cells #[.int .i64 0,.int .i64 0,.int .i64 0,.int .i64 0,.int .i64 0,.string ⟨#[]⟩,.string ⟨#[]⟩] 63)=x:=⟨_,rfl⟩
   rw [hW0] at T0
   rw [hW0]
   clear hW0
   refine wp_region_held_drew (S:=fun _=>True) hmix trivial (fun _=>?_)
   refine wpAnyH_take (i:=0) (v:=.string s) rfl (by kernel_rfl) (by kernel_rfl) (by kernel_rfl) (fun _ _ _ h=>h) (Or.inl ⟨by rfl,fun W hSw=>by go_simp⟩) trivial ?_
   refine wpAnyH_take (i:=1) (v:=.string HD) rfl (by kernel_rfl) (by kernel_rfl) (by kernel_rfl) (fun _ _ _ h=>h) (Or.inl ⟨by rfl,fun W hSw=>by go_simp⟩) trivial ?_
   have T1:=hide (unhide T0).drew
   clear T0
   generalize W0.drew=W1 at *
   have X:Hid (Flo w W1 [.slice none 0 0] none (fun _=>True) (fun _=>True)):=⟨unhide T1,trivial,fun _ _ _ h=>h,nofun⟩
   clear T1
   refine wpAnyH_ready (rs:=[2,8]) (by kernel_rfl) (by simp) ?_
   refine AllReadyH.cons rfl (fun K hK=>?c1) (AllReadyH.cons rfl (fun K hK=>?a1) AllReadyH.nil)
   case' a1=>
    go_simp
    replace X:=hide ((unhide X).lay trivial 146)
    refine Shut.out hK _ _ trivial (fun _=>?_)
    clear hK K
    generalize W1.heap.size=A at *
    generalize W1.alloc (.cells #[.slice none 0 0] 146)=W1 at *
    refine wpAnyH_ready (rs:=[2]) (by kernel_rfl) (by simp) ?_
    refine AllReadyH.cons rfl (fun K hK=>?_) AllReadyH.nil
   all_goals
    go_simp
    have Bd:Below W1.heap.size W1 (W1.alloc (.cells #[.int .i64 16] 3)):=(Below.refl _ _).alloc (Nat.le_refl _) _
    replace X:=hide ((unhide X).call (E':=fun V=>Blk V W1.heap.size [.int .i64 16]) (N':=fun _=>True) Bd (blk_alloc W1 #[.int .i64 16] 3) (fun _ _ b h=>Blk.later h b h.1) (fun _ _ _=>trivial))
    refine Shut.out hK _ _ trivial (fun _=>?_)
    clear hK K Bd
    generalize W1.heap.size=pb at *
    generalize W1.alloc (.cells #[.int .i64 16] 3)=W2 at *
   case' c1=>
    refine wpAnyH_ready (rs:=[3,8]) (by kernel_rfl) (by simp) ?_
    refine AllReadyH.cons rfl (fun K hK=>?c2) (AllReadyH.cons rfl (fun K hK=>?a2) AllReadyH.nil)
    case' a2=>
     go_simp
     replace X:=hide ((unhide X).lay trivial 146)
     refine Shut.out hK _ _ trivial (fun _=>?_)
     clear hK K
     generalize W2.heap.size=A at *
     generalize W2.alloc (.cells #[.slice none 0 0] 146)=W2 at *
     refine wpAnyH_ready (rs:=[3]) (by kernel_rfl) (by simp) ?_
     refine AllReadyH.cons rfl (fun K hK=>?_) AllReadyH.nil
   case' a1=>
    refine wpAnyH_ready (rs:=[3]) (by kernel_rfl) (by simp) ?_
    refine AllReadyH.cons rfl (fun K hK=>?_) AllReadyH.nil
   all_goals
    go_simp
    go_at_call 115
    refine (unhide CRep pb W2 (Blk.cell (unhide X).2.1 0 _ rfl)).mono ?_
    rintro e W3 ⟨rfl,ho,Bd⟩
    replace X:=hide ((unhide X).call (E':=fun V=>IRow V (some ⟨W2.heap.size,0,none⟩) (List.replicate 15 16)) (N':=fun _=>True) Bd (IOwn.rowN (n:=15) (by simp) ho) (fun _ _ b h=>IRow.later h b) (fun _ _ _=>trivial))
    refine Shut.out hK _ _ trivial (fun _=>?_)
    clear hK K ho Bd
    generalize W2.heap.size=rb at *
   case' c2=>
    refine wpAnyH_ready (rs:=[4,8]) (by kernel_rfl) (by simp) ?_
    refine AllReadyH.cons rfl (fun K hK=>?c3) (AllReadyH.cons rfl (fun K hK=>?a3) AllReadyH.nil)
    case' a3=>
     go_simp
     replace X:=hide ((unhide X).lay trivial 146)
     refine Shut.out hK _ _ trivial (fun _=>?_)
     clear hK K
     generalize W3.heap.size=A at *
     generalize W3.alloc (.cells #[.slice none 0 0] 146)=W3 at *
     refine wpAnyH_ready (rs:=[4]) (by kernel_rfl) (by simp) ?_
     refine AllReadyH.cons rfl (fun K hK=>?_) AllReadyH.nil
   case' a1 | a2=>
    refine wpAnyH_ready (rs:=[4]) (by kernel_rfl) (by simp) ?_
    refine AllReadyH.cons rfl (fun K hK=>?_) AllReadyH.nil
   all_goals
    go_simp
    go_at_call 114
    refine (unhide CB (some ⟨rb,0,none⟩) W3 (unhide X).2.1).mono ?_
    rintro e W4 ⟨g,c,rfl,hgl,hcells,Bd⟩
    have hg0:w.heap.size<g:=Nat.lt_of_lt_of_le (unhide X).1.2.1 hgl.1
    replace X:=hide ((unhide X).call (E':=fun V=>g<V.heap.size∧∀ j,j<15→V.cell? ⟨g,j,none⟩=some (.int .i64 ((wd s.data.toList (2*j) 2:Nat):Int))) (N':=fun A=>g≠A) Bd ⟨hgl.2,hcells⟩ (fun _ _ b h=>⟨Nat.lt_of_lt_of_le h.1 b.size,fun j hj=>(b.cell (p:=⟨g,j,none⟩) h.1).trans (h.2 j hj)⟩) (fun A _ hA=>Nat.ne_of_gt (Nat.lt_of_lt_of_le hA hgl.1)))
    refine Shut.out hK _ _ trivial (fun _=>?_)
    clear hK K hgl hcells Bd
    refine wpAnyH_take (i:=5) (v:=.tuple #[.slice (some ⟨g,0,none⟩) 15 c,.bool true]) rfl (by kernel_rfl) (by kernel_rfl) (by kernel_rfl) (fun _ _ _ h=>h) (Or.inl ⟨by rfl,fun W hSw=>by go_simp⟩) trivial ?_
    refine wpAnyH_take (i:=6) (v:=.slice (some ⟨g,0,none⟩) 15 c) rfl (by kernel_rfl) (by kernel_rfl) (by kernel_rfl) (fun _ _ _ h=>h) (Or.inl ⟨by rfl,fun W hSw=>by go_simp⟩) trivial ?_
    refine wpAnyH_take (i:=7) (v:=.bool true) rfl (by kernel_rfl) (by kernel_rfl) (by kernel_rfl) (fun _ _ _ h=>h) (Or.inl ⟨by rfl,fun W hSw=>by go_simp⟩) trivial ?_
   case' c3=>
    refine wpAnyH_ready (rs:=[8]) (by kernel_rfl) (by simp) ?_
    refine AllReadyH.cons rfl (fun K hK=>?_) AllReadyH.nil
    go_simp
    replace X:=hide ((unhide X).lay (Nat.ne_of_lt (unhide X).2.1.1) 146)
    refine Shut.out hK _ _ trivial (fun _=>?_)
    clear hK K
    generalize W4.heap.size=A at *
    generalize W4.alloc (.cells #[.slice none 0 0] 146)=W4 at *
   all_goals
    refine wpAnyH_ready (rs:=[9]) (by kernel_rfl) (by simp) ?_
    refine AllReadyH.cons rfl (fun K hK=>?_) AllReadyH.nil
    obtain ⟨T5,G5,_,R⟩:=unhide X
    obtain ⟨hA,hAg,R5⟩:=R _ rfl
    have a0:=R5.cell 0 _ rfl
    have f0:=R5.free 0 (by decide)
    have T5:=hide T5
    have G5:=hide G5
    have R5:=hide R5
    clear X R
    go_simp
    have TX':=hide ((unhide T5).set hA 0 (.slice (some ⟨g,0,none⟩) 15 c))
    have RX':=hide ((unhide R5).set 0 (.slice (some ⟨g,0,none⟩) 15 c))
    have GX':=hide (wds_set (unhide G5) hAg 0 (.slice (some ⟨g,0,none⟩) 15 c))
    clear a0 f0
    refine Shut.out hK _ _ trivial (fun _=>?_)
    clear hK K
    refine wpAnyH_ready (rs:=[10]) (by kernel_rfl) (by simp) ?_
    refine AllReadyH.cons rfl (fun K hK=>?_) AllReadyH.nil
    go_simp
    refine Shut.out hK _ _ trivial (fun _=>?_)
    clear hK K
    refine wpAnyH_done (by kernel_rfl) ?_ _
    go_wp2_with fail
    go_meet
    case rel=>exact ⟨⟨A,g,c,rfl,hA,hg0,unhide TX',unhide RX',(unhide GX').1,(unhide GX').2⟩,rfl⟩
  case rest=>
   obtain ⟨⟨B,g,c,rfl,hB0,hg0,T1',G1'⟩,rfl⟩:=hcut
   have T1:=hide T1'
   have G1:=hide G1'
   clear T1' G1' T0
   have C5:Hid (∀ W,Wds W B g c s→Calls Tryz.prog 116 #[.int .i64 5,.pointer (some ⟨B,0,none⟩)] W fun e w'=>e = .returned (.int .i64 (ST:Nat))∧Below W.heap.size W w'):=fun W h=>by rw [←(unhide HALL).2.1]; exact longAt_any 5 B g c s W h (by omega) (unhide H30)
   have C7:Hid (∀ W,Wds W B g c s→Calls Tryz.prog 116 #[.int .i64 7,.pointer (some ⟨B,0,none⟩)] W fun e w'=>e = .returned (.int .i64 (CR:Nat))∧Below W.heap.size W w'):=fun W h=>by rw [←(unhide HALL).2.2.1]; exact longAt_any 7 B g c s W h (by omega) (unhide H30)
   have C9:Hid (∀ W,Wds W B g c s→Calls Tryz.prog 116 #[.int .i64 9,.pointer (some ⟨B,0,none⟩)] W fun e w'=>e = .returned (.int .i64 (PK:Nat))∧Below W.heap.size W w'):=fun W h=>by rw [←(unhide HALL).2.2.2.1]; exact longAt_any 9 B g c s W h (by omega) (unhide H30)
   have C11:Hid (∀ W,Wds W B g c s→Calls Tryz.prog 116 #[.int .i64 11,.pointer (some ⟨B,0,none⟩)] W fun e w'=>e = .returned (.int .i64 (LN:Nat))∧Below W.heap.size W w'):=fun W h=>by rw [←(unhide HALL).2.2.2.2.1]; exact longAt_any 11 B g c s W h (by omega) (unhide H30)
   have W4:Hid (∀ W,Wds W B g c s→W.cell? ⟨g,4,none⟩=some (.int .i64 (HW:Nat))):=fun W h=>by rw [←(unhide HALL).1]; exact h.2.2 4 (by omega)
   have W13:Hid (∀ W,Wds W B g c s→W.cell? ⟨g,13,none⟩=some (.int .i64 (NL:Nat))):=fun W h=>by rw [←(unhide HALL).2.2.2.2.2]; exact h.2.2 13 (by omega)
   go_wp2_with fail
   go_cut [7] (fun v wx=>∃ A,v = .pointer (some ⟨A,0,none⟩)∧w.heap.size<A∧B<A∧g<A∧HgS w wx∧Wds wx B g c s∧Blk wx A [.int .i64 (HW:Nat),.int .i64 (ST:Nat),.int .i64 (CR:Nat),.int .i64 (PK:Nat),.int .i64 (LN:Nat),.string ⟨#[]⟩])
   case first=>
    refine wp_region_held_drew (S:=fun W=>Wds W B g c s) hmix (unhide G1).drew (fun hS=>?_)
    refine wpAnyH_take (i:=0) (v:=.slice (some ⟨g,0,none⟩) 15 c) rfl (by kernel_rfl) (by kernel_rfl) (by kernel_rfl) (fun _ _ _ h=>h) (Or.inl ⟨by rfl,fun W hSw=>by have s0:=Blk.cell hSw.1 0 _ rfl; go_simp⟩) hS ?_
    refine wpAnyH_take (i:=1) (v:=.pointer (some ⟨g,4,none⟩)) rfl (by kernel_rfl) (by kernel_rfl) (by kernel_rfl) (fun _ _ _ h=>h) (Or.inl ⟨by rfl,fun W hSw=>by go_simp⟩) hS ?_
    refine wpAnyH_take (i:=2) (v:=.int .i64 (HW:Nat)) rfl (by kernel_rfl) (by kernel_rfl) (by kernel_rfl) (fun _ _ _ h=>h) (Or.inl ⟨by rfl,fun W hSw=>by have s1:=unhide W4 W hSw; go_simp⟩) hS ?_
    refine wpAnyH_take (i:=3) (v:=.func (.func 116) #[] #[.pointer (some ⟨B,0,none⟩)]) rfl (by kernel_rfl) (by kernel_rfl) (by kernel_rfl) (fun _ _ _ h=>h) (Or.inl ⟨by rfl,fun W hSw=>by go_simp⟩) hS ?_
    refine wpAnyH_take (i:=5) (v:=.func (.func 116) #[] #[.pointer (some ⟨B,0,none⟩)]) rfl (by kernel_rfl) (by kernel_rfl) (by kernel_rfl) (fun _ _ _ h=>h) (Or.inl ⟨by rfl,fun W hSw=>by go_simp⟩) hS ?_
    refine wpAnyH_take (i:=7) (v:=.func (.func 116) #[] #[.pointer (some ⟨B,0,none⟩)]) rfl (by kernel_rfl) (by kernel_rfl) (by kernel_rfl) (fun _ _ _ h=>h) (Or.inl ⟨by rfl,fun W hSw=>by go_simp⟩) hS ?_
    refine wpAnyH_take (i:=9) (v:=.func (.func 116) #[] #[.pointer (some ⟨B,0,none⟩)]) rfl (by kernel_rfl) (by kernel_rfl) (by kernel_rfl) (fun _ _ _ h=>h) (Or.inl ⟨by rfl,fun W hSw=>by go_simp⟩) hS ?_
    have T2:=hide (unhide T1).drew
    have G2:=hide (unhide G1).drew
    clear T1 G1
    generalize wc.drew=W2 at *
    have X:Hid (Flo w W2 [.int .i64 0,.int .i64 0,.int .i64 0,.int .i64 0,.int .i64 0,.string ⟨#[]⟩] none (fun V=>Wds V B g c s) (fun A=>B<A∧g<A)):=⟨unhide T2,unhide G2,fun _ _ b h=>Wds.later h b,nofun⟩
    clear T2 G2
    refine wpAnyH_ready (rs:=[4,12]) (by kernel_rfl) (by simp) ?_
    refine AllReadyH.cons rfl (fun K hK=>?d1) (AllReadyH.cons rfl (fun K hK=>?e1) AllReadyH.nil)
    case' e1=>
     go_simp
     replace X:=hide ((unhide X).lay ⟨(unhide X).2.1.1.1,(unhide X).2.1.2.1⟩ 61)
     refine Shut.out hK _ _ (unhide X).2.1 (fun hS=>?_)
     clear hK K
     generalize W2.heap.size=A at *
     generalize W2.alloc (.cells #[.int .i64 0,.int .i64 0,.int .i64 0,.int .i64 0,.int .i64 0,.string ⟨#[]⟩] 61)=W2 at *
     refine wpAnyH_ready (rs:=[4]) (by kernel_rfl) (by simp) ?_
     refine AllReadyH.cons rfl (fun K hK=>?_) AllReadyH.nil
    all_goals
     go_simp
     go_at_call 116
     refine (unhide C5 W2 (unhide X).2.1).mono ?_
     rintro e W3 ⟨rfl,Bd⟩
     replace X:=hide ((unhide X).later Bd)
     refine Shut.out hK _ _ (unhide X).2.1 (fun hS=>?_)
     clear hK K Bd
    case' d1=>
     refine wpAnyH_ready (rs:=[6,12]) (by kernel_rfl) (by simp) ?_
     refine AllReadyH.cons rfl (fun K hK=>?d2) (AllReadyH.cons rfl (fun K hK=>?e2) AllReadyH.nil)
     case' e2=>
      go_simp
      replace X:=hide ((unhide X).lay ⟨(unhide X).2.1.1.1,(unhide X).2.1.2.1⟩ 61)
      refine Shut.out hK _ _ (unhide X).2.1 (fun hS=>?_)
      clear hK K
      generalize W3.heap.size=A at *
      generalize W3.alloc (.cells #[.int .i64 0,.int .i64 0,.int .i64 0,.int .i64 0,.int .i64 0,.string ⟨#[]⟩] 61)=W3 at *
      refine wpAnyH_ready (rs:=[6]) (by kernel_rfl) (by simp) ?_
      refine AllReadyH.cons rfl (fun K hK=>?_) AllReadyH.nil
    case' e1=>
     refine wpAnyH_ready (rs:=[6]) (by kernel_rfl) (by simp) ?_
     refine AllReadyH.cons rfl (fun K hK=>?_) AllReadyH.nil
    all_goals
     go_simp
     go_at_call 116
     refine (unhide C7 W3 (unhide X).2.1).mono ?_
     rintro e W4 ⟨rfl,Bd⟩
     replace X:=hide ((unhide X).later Bd)
     refine Shut.out hK _ _ (unhide X).2.1 (fun hS=>?_)
     clear hK K Bd
    case' d2=>
     refine wpAnyH_ready (rs:=[8,12]) (by kernel_rfl) (by simp) ?_
     refine AllReadyH.cons rfl (fun K hK=>?d3) (AllReadyH.cons rfl (fun K hK=>?e3) AllReadyH.nil)
     case' e3=>
      go_simp
      replace X:=hide ((unhide X).lay ⟨(unhide X).2.1.1.1,(unhide X).2.1.2.1⟩ 61)
      refine Shut.out hK _ _ (unhide X).2.1 (fun hS=>?_)
      clear hK K
      generalize W4.heap.size=A at *
      generalize W4.alloc (.cells #[.int .i64 0,.int .i64 0,.int .i64 0,.int .i64 0,.int .i64 0,.string ⟨#[]⟩] 61)=W4 at *
      refine wpAnyH_ready (rs:=[8]) (by kernel_rfl) (by simp) ?_
      refine AllReadyH.cons rfl (fun K hK=>?_) AllReadyH.nil
    case' e1 | e2=>
     refine wpAnyH_ready (rs:=[8]) (by kernel_rfl) (by simp) ?_
     refine AllReadyH.cons rfl (fun K hK=>?_) AllReadyH.nil
    all_goals
     go_simp
     go_at_call 116
     refine (unhide C9 W4 (unhide X).2.1).mono ?_
     rintro e W5 ⟨rfl,Bd⟩
     replace X:=hide ((unhide X).later Bd)
     refine Shut.out hK _ _ (unhide X).2.1 (fun hS=>?_)
     clear hK K Bd
    case' d3=>
     refine wpAnyH_ready (rs:=[10,12]) (by kernel_rfl) (by simp) ?_
     refine AllReadyH.cons rfl (fun K hK=>?d4) (AllReadyH.cons rfl (fun K hK=>?e4) AllReadyH.nil)
     case' e4=>
      go_simp
      replace X:=hide ((unhide X).lay ⟨(unhide X).2.1.1.1,(unhide X).2.1.2.1⟩ 61)
      refine Shut.out hK _ _ (unhide X).2.1 (fun hS=>?_)
      clear hK K
      generalize W5.heap.size=A at *
      generalize W5.alloc (.cells #[.int .i64 0,.int .i64 0,.int .i64 0,.int .i64 0,.int .i64 0,.string ⟨#[]⟩] 61)=W5 at *
      refine wpAnyH_ready (rs:=[10]) (by kernel_rfl) (by simp) ?_
      refine AllReadyH.cons rfl (fun K hK=>?_) AllReadyH.nil
    case' e1 | e2 | e3=>
     refine wpAnyH_ready (rs:=[10]) (by kernel_rfl) (by simp) ?_
     refine AllReadyH.cons rfl (fun K hK=>?_) AllReadyH.nil
    all_goals
     go_simp
     go_at_call 116
     refine (unhide C11 W5 (unhide X).2.1).mono ?_
     rintro e W6 ⟨rfl,Bd⟩
     replace X:=hide ((unhide X).later Bd)
     refine Shut.out hK _ _ (unhide X).2.1 (fun hS=>?_)
     clear hK K Bd
     refine wpAnyH_take (i:=11) (v:=.agg #[.int .i64 (HW:Nat),.int .i64 (ST:Nat),.int .i64 (CR:Nat),.int .i64 (PK:Nat),.int .i64 (LN:Nat),.string ⟨#[]⟩]) rfl (by kernel_rfl) (by kernel_rfl) (by kernel_rfl) (fun _ _ _ h=>h) (Or.inl ⟨by rfl,fun W hSw=>by go_simp⟩) hS ?_
    case' d4=>
     refine wpAnyH_ready (rs:=[12]) (by kernel_rfl) (by simp) ?_
     refine AllReadyH.cons rfl (fun K hK=>?_) AllReadyH.nil
     go_simp
     replace X:=hide ((unhide X).lay ⟨(unhide X).2.1.1.1,(unhide X).2.1.2.1⟩ 61)
     refine Shut.out hK _ _ (unhide X).2.1 (fun hS=>?_)
     clear hK K
     generalize W6.heap.size=A at *
     generalize W6.alloc (.cells #[.int .i64 0,.int .i64 0,.int .i64 0,.int .i64 0,.int .i64 0,.string ⟨#[]⟩] 61)=W6 at *
    all_goals
     refine wpAnyH_ready (rs:=[13]) (by kernel_rfl) (by simp) ?_
     refine AllReadyH.cons rfl (fun K hK=>?_) AllReadyH.nil
     obtain ⟨T7,G7,_,R⟩:=unhide X
     obtain ⟨hA,⟨hBA,hgA⟩,R7⟩:=R _ rfl
     have aA:=R7.cells (n:=6) rfl
     have fA:=R7.frees (n:=6) rfl
     have T7:=hide T7
     have G7:=hide G7
     have R7:=hide R7
     clear X R
     go_simp
     have TX':=hide ((unhide T7).set6 hA (.int .i64 (HW:Nat)) (.int .i64 (ST:Nat)) (.int .i64 (CR:Nat)) (.int .i64 (PK:Nat)) (.int .i64 (LN:Nat)) (.string ⟨#[]⟩))
     have RX':=hide ((unhide R7).set6 (.int .i64 (HW:Nat)) (.int .i64 (ST:Nat)) (.int .i64 (CR:Nat)) (.int .i64 (PK:Nat)) (.int .i64 (LN:Nat)) (.string ⟨#[]⟩))
     have GX':=hide ((unhide G7).set6 (Nat.ne_of_lt hBA) (Nat.ne_of_lt hgA) (.int .i64 (HW:Nat)) (.int .i64 (ST:Nat)) (.int .i64 (CR:Nat)) (.int .i64 (PK:Nat)) (.int .i64 (LN:Nat)) (.string ⟨#[]⟩))
     clear aA fA
     refine Shut.out hK _ _ (unhide GX') (fun hS=>?_)
     clear hK K
     refine wpAnyH_done (by kernel_rfl) ?_ _
     go_wp2_with fail
     go_meet
     case rel=>exact ⟨A,rfl,hA,hBA,hgA,unhide TX',unhide GX',unhide RX'⟩
   case rest=>
    obtain ⟨A,rfl,hA,hBA,hgA,T2',G2',R2'⟩:=hcut
    have T2:=hide T2'
    have G2:=hide G2'
    have R2:=hide R2'
    clear T2' G2' R2' T1 G1 C5 C7 C9 C11
    have c0:=(unhide G2).1.cell 0 _ rfl
    have c13:=unhide W13 _ (unhide G2)
    have r3:=(unhide R2).cell 3 _ rfl
    have r5:=(unhide R2).cell 5 _ rfl
    have q5:=(unhide R2).free 5 (by simp)
    have hw30:IntKind.i64.wrap (30+(NL:Int))=30+(NL:Int):=by rw [IntKind.wrap_i64]; omega
    have hw31:IntKind.i64.wrap (30+(NL:Int)+(PK:Int))=30+(NL:Int)+(PK:Int):=by rw [IntKind.wrap_i64]; omega
    by_cases hto:30+NL+PK≤s.size
    ·
     have htoI:30+(NL:Int)+(PK:Int)≤(s.size:Int):=by omega
     have htoJ:decide ((s.size:Int)<30+(NL:Int)+(PK:Int))=false:=by simpa using htoI
     have hn30:(30+(NL:Int)).toNat=30+NL:=by omega
     have hn31:(30+(NL:Int)+(PK:Int)).toNat=30+NL+PK:=by omega
     have hq30:30≤30+(NL:Int):=by omega
     have hq31:30+(NL:Int)≤30+(NL:Int)+(PK:Int):=by omega
     have hq32:0≤30+(NL:Int)+(PK:Int):=by omega
     have hq33:30+(NL:Int)≤(s.size:Int):=by omega
     have hq34:0≤30+(NL:Int):=by omega
     have hx1:s.extract 30 (30+NL)=nmB s:=by unfold nmB; rw [(unhide HALL).2.2.2.2.2]
     have hx2:s.extract (30+NL) (30+NL+PK)=bdB s:=by unfold bdB; rw [(unhide HALL).2.2.2.2.2,(unhide HALL).2.2.2.1]
     have HPr:Hid ((headB HW ST CR PK LN (nmB s)).data.toList.isPrefixOf s.data.toList=fixB s.data.toList):=by
      have hh:=head_pre (l:=s.data.toList) (nm:=nmB s) (by rw [(unhide HALL).2.2.2.2.2]; simp; omega) (nmB_list s)
      rw [(unhide HALL).1,(unhide HALL).2.1,(unhide HALL).2.2.1,(unhide HALL).2.2.2.1,(unhide HALL).2.2.2.2.1] at hh
      exact hh
     have hnz:(nmB s).size<65536:=by rw [nmB_size (by rw [(unhide HALL).2.2.2.2.2]; omega)]; exact wd_two _ _
     have HE:Hid (∀ b,fixB s.data.toList=b→HgP s (.returned (.tuple #[.agg #[.int .i64 (HW:Nat),.int .i64 (ST:Nat),.int .i64 (CR:Nat),.int .i64 (PK:Nat),.int .i64 (LN:Nat),.string (nmB s),.string (bdB s)],.bool b]))):=fun b hb=>by
      have hd:hdB s=b:=by
       unfold hdB
       rw [hb,(unhide HALL).2.2.2.2.2,(unhide HALL).2.2.2.1,decide_eq_true (unhide H30),decide_eq_true hto]; simp
      cases b
      ·
       exact hg_no hd _ _ _ _ _ _ _ ⟨(unhide HLT).1,(unhide HLT).2.1,(unhide HLT).2.2.1,(unhide HLT).2.2.2.1,(unhide HLT).2.2.2.2.1,by unfold nmB; rw [ByteArray.size_extract]; omega,by unfold bdB; rw [ByteArray.size_extract]; omega⟩
      ·
       refine .inl ⟨hd,?_⟩
       rw [(unhide HALL).1,(unhide HALL).2.1,(unhide HALL).2.2.1,(unhide HALL).2.2.2.1,(unhide HALL).2.2.2.2.1]
     generalize hNM:nmB s=NM at *
     generalize hBD:bdB s=BD at *
     obtain ⟨l1,l2,l3,l4,l5,l6⟩:=unhide HLT
     have CH:=hide (fun W=>head_any HW ST CR PK LN NM BD W l1 l2 l3 l4 l5 hnz)
     have CP:Hid (∀ W,Calls Tryz.prog 77 #[.string s,.string (headB HW ST CR PK LN NM)] W fun e w'=>e = .returned (.bool (fixB s.data.toList))∧w'=W):=fun W=>by
      have h:=Tryz.strings_HasPrefix s (headB HW ST CR PK LN NM) W
      have e:Lib.hasPrefix s.data.toList (headB HW ST CR PK LN NM).data.toList=fixB s.data.toList:=unhide HPr
      rw [e] at h
      exact h
     generalize fixB s.data.toList=fb at *
     generalize headB HW ST CR PK LN NM=HB at *
     clear hNM hBD l1 l2 l3 l4 l5 l6 hto HPr hnz
     have T3:=hide ((unhide T2).set hA 5 (.string NM))
     have R3:=hide ((unhide R2).set 5 (.string NM))
     clear T2 R2 G2 W4 W13
     go_wp2_with fail
     clear c0 c13 r3 r5 q5
     generalize wc.setCell ⟨A,5,none⟩ (.string NM)=X3 at *
     refine wp_region_held_drew (S:=fun W=>Blk W A [.int .i64 (HW:Nat),.int .i64 (ST:Nat),.int .i64 (CR:Nat),.int .i64 (PK:Nat),.int .i64 (LN:Nat),.string NM]) hmix (unhide R3).drew (fun hS=>?_)
     refine wpAnyH_take (i:=0) (v:=.agg #[.int .i64 (HW:Nat),.int .i64 (ST:Nat),.int .i64 (CR:Nat),.int .i64 (PK:Nat),.int .i64 (LN:Nat),.string NM]) rfl (by kernel_rfl) (by kernel_rfl) (by kernel_rfl) (fun _ _ _ h=>h) (Or.inl ⟨by rfl,fun W hSw=>by have s0:=Blk.cell hSw 0 _ rfl; have s1:=Blk.cell hSw 1 _ rfl; have s2:=Blk.cell hSw 2 _ rfl; have s3:=Blk.cell hSw 3 _ rfl; have s4:=Blk.cell hSw 4 _ rfl; have s5:=Blk.cell hSw 5 _ rfl; go_simp⟩) hS ?_
     refine wpAnyH_take (i:=1) (v:=.string s) rfl (by kernel_rfl) (by kernel_rfl) (by kernel_rfl) (fun _ _ _ h=>h) (Or.inl ⟨by rfl,fun W hSw=>by go_simp⟩) hS ?_
     refine wpAnyH_take (i:=2) (v:=.int .i64 (30+(NL:Int))) rfl (by kernel_rfl) (by kernel_rfl) (by kernel_rfl) (fun _ _ _ h=>h) (Or.inl ⟨by rfl,fun W hSw=>by go_simp⟩) hS ?_
     refine wpAnyH_take (i:=3) (v:=.int .i64 (30+(NL:Int))) rfl (by kernel_rfl) (by kernel_rfl) (by kernel_rfl) (fun _ _ _ h=>h) (Or.inl ⟨by rfl,fun W hSw=>by go_simp⟩) hS ?_
     refine wpAnyH_take (i:=4) (v:=.pointer (some ⟨A,3,none⟩)) rfl (by kernel_rfl) (by kernel_rfl) (by kernel_rfl) (fun _ _ _ h=>h) (Or.inl ⟨by rfl,fun W hSw=>by go_simp⟩) hS ?_
     refine wpAnyH_take (i:=5) (v:=.int .i64 (PK:Nat)) rfl (by kernel_rfl) (by kernel_rfl) (by kernel_rfl) (fun _ _ _ h=>h) (Or.inl ⟨by rfl,fun W hSw=>by have s3:=Blk.cell hSw 3 _ rfl; go_simp⟩) hS ?_
     refine wpAnyH_take (i:=6) (v:=.int .i64 (30+(NL:Int)+(PK:Int))) rfl (by kernel_rfl) (by kernel_rfl) (by kernel_rfl) (fun _ _ _ h=>h) (Or.inl ⟨by rfl,fun W hSw=>by go_simp⟩) hS ?_
     refine wpAnyH_take (i:=7) (v:=.string BD) rfl (by kernel_rfl) (by kernel_rfl) (by kernel_rfl) (fun _ _ _ h=>h) (Or.inl ⟨by rfl,fun W hSw=>by go_simp⟩) hS ?_
     refine wpAnyH_take (i:=8) (v:=.agg #[.int .i64 (HW:Nat),.int .i64 (ST:Nat),.int .i64 (CR:Nat),.int .i64 (PK:Nat),.int .i64 (LN:Nat),.string NM,.string BD]) rfl (by kernel_rfl) (by kernel_rfl) (by kernel_rfl) (fun _ _ _ h=>h) (Or.inl ⟨by rfl,fun W hSw=>by go_simp⟩) hS ?_
     have T4:=hide (unhide T3).drew
     have R4:=hide (unhide R3).drew
     clear T3 R3
     generalize X3.drew=W4 at *
     refine wpAnyH_ready (rs:=[9]) (by kernel_rfl) (by simp) ?_
     refine AllReadyH.cons rfl (fun K hK=>?_) (AllReadyH.nil)
     go_simp
     have Bd:Below W4.heap.size W4 (W4.alloc (.cells #[.int .i64 0,.int .i64 0,.int .i64 0,.int .i64 0,.int .i64 0,.string ⟨#[]⟩,.string ⟨#[]⟩] 63)):=(Below.refl _ _).alloc (Nat.le_refl _) _
     have T5:=hide ((unhide T4).later Bd)
     have R5:=hide ((unhide R4).later Bd (unhide R4).1)
     have L5:Hid (Blk (W4.alloc (.cells #[.int .i64 0,.int .i64 0,.int .i64 0,.int .i64 0,.int .i64 0,.string ⟨#[]⟩,.string ⟨#[]⟩] 63)) W4.heap.size [.int .i64 0,.int .i64 0,.int .i64 0,.int .i64 0,.int .i64 0,.string ⟨#[]⟩,.string ⟨#[]⟩]):=blk_alloc _ _ _
     have hL:w.heap.size<W4.heap.size:=(unhide T4).2.1
     have hLA:A<W4.heap.size:=(unhide R4).1
     refine Shut.out hK _ _ (unhide R5) (fun hS=>?_)
     clear hK K
     obtain ⟨L,hLe⟩:∃ x,W4.heap.size=x:=⟨_,rfl⟩
     obtain ⟨W5,hW5⟩:∃ x,W4.alloc (.cells #[.int .i64 0,.int .i64 0,.int .i64 0,.int .i64 0,.int .i64 0,.string ⟨#[]⟩,.string ⟨#[]⟩] 63)=x:=⟨_,rfl⟩
     rw [hW5] at T5 R5 hS
     rw [hLe,hW5] at L5
     rw [hLe] at hL hLA
     rw [hLe,hW5]
     clear Bd hLe hW5 T4 R4
     refine wpAnyH_ready (rs:=[10]) (by kernel_rfl) (by simp) ?_
     refine AllReadyH.cons rfl (fun K hK=>?_) (AllReadyH.nil)
     have aA:=(unhide L5).cells (n:=7) rfl
     have fA:=(unhide L5).frees (n:=7) rfl
     go_simp
     have T6:=hide ((unhide T5).set7 hL (.int .i64 (HW:Nat)) (.int .i64 (ST:Nat)) (.int .i64 (CR:Nat)) (.int .i64 (PK:Nat)) (.int .i64 (LN:Nat)) (.string NM) (.string BD))
     have L6:=hide ((unhide L5).set7 (.int .i64 (HW:Nat)) (.int .i64 (ST:Nat)) (.int .i64 (CR:Nat)) (.int .i64 (PK:Nat)) (.int .i64 (LN:Nat)) (.string NM) (.string BD))
     have R6:=hide (other7 (unhide R5) (Nat.ne_of_lt hLA) (.int .i64 (HW:Nat)) (.int .i64 (ST:Nat)) (.int .i64 (CR:Nat)) (.int .i64 (PK:Nat)) (.int .i64 (LN:Nat)) (.string NM) (.string BD))
     clear aA fA T5 R5 L5
     refine Shut.out hK _ _ (unhide R6) (fun hS=>?_)
     clear hK K
     refine wpAnyH_done (by kernel_rfl) ?_ _
     clear hS
     obtain ⟨X6,hX6⟩:∃ x,(((((((W5.setCell ⟨L,0,none⟩ (.int .i64 (HW:Nat))).setCell ⟨L,1,none⟩ (.int .i64 (ST:Nat))).setCell ⟨L,2,none⟩ (.int .i64 (CR:Nat))).setCell ⟨L,3,none⟩ (.int .i64 (PK:Nat))).setCell ⟨L,4,none⟩ (.int .i64 (LN:Nat))).setCell ⟨L,5,none⟩ (.string NM)).setCell ⟨L,6,none⟩ (.string BD))=x:=⟨_,rfl⟩
     rw [hX6] at T6 L6
     rw [hX6]
     clear hX6 R6
     go_wp2_with fail
     refine wp_region_held_drew (S:=fun W=>Blk W L [.int .i64 (HW:Nat),.int .i64 (ST:Nat),.int .i64 (CR:Nat),.int .i64 (PK:Nat),.int .i64 (LN:Nat),.string NM,.string BD]) hmix (unhide L6).drew (fun hS=>?_)
     refine wpAnyH_take (i:=0) (v:=.agg #[.int .i64 (HW:Nat),.int .i64 (ST:Nat),.int .i64 (CR:Nat),.int .i64 (PK:Nat),.int .i64 (LN:Nat),.string NM,.string BD]) rfl (by kernel_rfl) (by kernel_rfl) (by kernel_rfl) (fun _ _ _ h=>h) (Or.inl ⟨by rfl,fun W hSw=>by have s0:=Blk.cell hSw 0 _ rfl; have s1:=Blk.cell hSw 1 _ rfl; have s2:=Blk.cell hSw 2 _ rfl; have s3:=Blk.cell hSw 3 _ rfl; have s4:=Blk.cell hSw 4 _ rfl; have s5:=Blk.cell hSw 5 _ rfl; have s6:=Blk.cell hSw 6 _ rfl; go_simp⟩) hS ?_
     refine wpAnyH_take (i:=1) (v:=.string s) rfl (by kernel_rfl) (by kernel_rfl) (by kernel_rfl) (fun _ _ _ h=>h) (Or.inl ⟨by rfl,fun W hSw=>by go_simp⟩) hS ?_
     refine wpAnyH_take (i:=2) (v:=.agg #[.int .i64 (HW:Nat),.int .i64 (ST:Nat),.int .i64 (CR:Nat),.int .i64 (PK:Nat),.int .i64 (LN:Nat),.string NM,.string BD]) rfl (by kernel_rfl) (by kernel_rfl) (by kernel_rfl) (fun _ _ _ h=>h) (Or.inl ⟨by rfl,fun W hSw=>by have s0:=Blk.cell hSw 0 _ rfl; have s1:=Blk.cell hSw 1 _ rfl; have s2:=Blk.cell hSw 2 _ rfl; have s3:=Blk.cell hSw 3 _ rfl; have s4:=Blk.cell hSw 4 _ rfl; have s5:=Blk.cell hSw 5 _ rfl; have s6:=Blk.cell hSw 6 _ rfl; go_simp⟩) hS ?_
     have T7:=hide (unhide T6).drew
     have L7:=hide (unhide L6).drew
     clear T6 L6
     generalize X6.drew=W7 at *
     refine wpAnyH_ready (rs:=[3]) (by kernel_rfl) (by simp) ?_
     refine AllReadyH.cons rfl (fun K hK=>?_) (AllReadyH.nil)
     go_simp
     go_at_call 87
     refine (unhide CH W7).mono ?_
     rintro e W8 ⟨rfl,Bd⟩
     have T8:=hide ((unhide T7).later Bd)
     have L8:=hide ((unhide L7).later Bd (unhide L7).1)
     refine Shut.out hK _ _ (unhide L8) (fun hS=>?_)
     clear hK K
     clear Bd T7 L7
     refine wpAnyH_ready (rs:=[4]) (by kernel_rfl) (by simp) ?_
     refine AllReadyH.cons rfl (fun K hK=>?_) (AllReadyH.nil)
     go_simp
     go_at_call 77
     refine (unhide CP W8).mono ?_
     rintro e W9 ⟨rfl,rfl⟩
     refine Shut.out hK _ _ (unhide L8) (fun hS=>?_)
     clear hK K
     refine wpAnyH_ready (rs:=[5]) (by kernel_rfl) (by simp) ?_
     refine AllReadyH.cons rfl (fun K hK=>?_) (AllReadyH.nil)
     have bA:=(unhide T8).2.cells (n:=7) rfl
     have gA:=(unhide T8).2.frees (n:=7) rfl
     go_simp
     have TZ:=hide (below7 (unhide T8).1 (Nat.le_refl _) (.int .i64 (HW:Nat)) (.int .i64 (ST:Nat)) (.int .i64 (CR:Nat)) (.int .i64 (PK:Nat)) (.int .i64 (LN:Nat)) (.string NM) (.string BD))
     have ZZ:=hide ((unhide T8).2.set7 (.int .i64 (HW:Nat)) (.int .i64 (ST:Nat)) (.int .i64 (CR:Nat)) (.int .i64 (PK:Nat)) (.int .i64 (LN:Nat)) (.string NM) (.string BD))
     have LZ:=hide (other7 (unhide L8) (Nat.ne_of_gt hL) (.int .i64 (HW:Nat)) (.int .i64 (ST:Nat)) (.int .i64 (CR:Nat)) (.int .i64 (PK:Nat)) (.int .i64 (LN:Nat)) (.string NM) (.string BD))
     clear bA gA
     refine Shut.out hK _ _ (unhide LZ) (fun hS=>?_)
     clear hK K
     refine wpAnyH_ready (rs:=[6]) (by kernel_rfl) (by simp) ?_
     refine AllReadyH.cons rfl (fun K hK=>?_) (AllReadyH.nil)
     go_simp
     refine Shut.out hK _ _ (unhide LZ) (fun hS=>?_)
     clear hK K
     refine wpAnyH_done (by kernel_rfl) ?_ _
     go_wp2
     have zA:=(unhide ZZ).cells (n:=7) rfl
     refine bodyPost_ret (v:=.tuple #[.agg #[.int .i64 (HW:Nat),.int .i64 (ST:Nat),.int .i64 (CR:Nat),.int .i64 (PK:Nat),.int .i64 (LN:Nat),.string NM,.string BD],.bool fb]) (by simp [results,Tryz.results78,go_sem,zA]) rfl ⟨unhide HE _ rfl,unhide TZ⟩
    ·
     have htoI:(s.size:Int)<30+(NL:Int)+(PK:Int):=by omega
     have HE:Hid (hdB s=false):=by
      show _=_
      unfold hdB
      rw [(unhide HALL).2.2.2.2.2,(unhide HALL).2.2.2.1,decide_eq_false hto]; simp
     clear hto
     have bA:=(unhide T2).2.cells (n:=7) rfl
     have gA:=(unhide T2).2.frees (n:=7) rfl
     have TZ:=hide (below7 (unhide T2).1 (Nat.le_refl _) (.int .i64 0) (.int .i64 0) (.int .i64 0) (.int .i64 0) (.int .i64 0) (.string ⟨#[]⟩) (.string ⟨#[]⟩))
     have ZZ:=hide ((unhide T2).2.set7 (.int .i64 0) (.int .i64 0) (.int .i64 0) (.int .i64 0) (.int .i64 0) (.string ⟨#[]⟩) (.string ⟨#[]⟩))
     go_wp2
     have zA:=(unhide ZZ).cells (n:=7) rfl
     refine bodyPost_ret (v:=.tuple #[.agg #[.int .i64 0,.int .i64 0,.int .i64 0,.int .i64 0,.int .i64 0,.string ⟨#[]⟩,.string ⟨#[]⟩],.bool false]) (by simp [results,Tryz.results78,go_sem,zA]) rfl ⟨hg_no (unhide HE) 0 0 0 0 0 ⟨#[]⟩ ⟨#[]⟩ hgo_zero,unhide TZ⟩
 ·
  have h30I:(s.size:Int)<30:=by omega
  have HE:Hid (hdB s=false):=by
   show _=_
   unfold hdB
   rw [decide_eq_false h30]; simp
  clear h30
  go_enter Tryz.func78,Tryz.ntmps78
  go_wp2
  refine bodyPost_ret (v:=.tuple #[.agg #[.int .i64 0,.int .i64 0,.int .i64 0,.int .i64 0,.int .i64 0,.string ⟨#[]⟩,.string ⟨#[]⟩],.bool false]) (by simp [results,Tryz.results78,go_sem]) rfl ⟨hg_no (unhide HE) 0 0 0 0 0 ⟨#[]⟩ ⟨#[]⟩ hgo_zero,(unhide T0).1⟩
def EnS (w:World) (vs:List Value) (W:World):Prop:=Below w.heap.size w W∧Blk W w.heap.size vs∧Blk W (w.heap.size+1) [.string ⟨#[]⟩,.int .i64 0,.int .i64 0,.int .i64 0,.int .i64 0,.int .i64 0,.int .i64 0,.string ⟨#[]⟩]
theorem EnS.later {w W W':World} {vs:List Value} (k:EnS w vs W) (hb:Below W.heap.size W W'):EnS w vs W':=⟨bnext k.1 hb,k.2.1.later hb k.2.1.1,k.2.2.later hb k.2.2.1⟩
theorem EnS.drew {w W:World} {vs:List Value} (k:EnS w vs W):EnS w vs W.drew:=⟨k.1.drew,k.2.1.drew,k.2.2.drew⟩
theorem EnS.set {w W:World} {vs:List Value} (k:EnS w vs W) {A:Nat} (hA:w.heap.size+1<A) (o:Nat) (v:Value):EnS w vs (W.setCell ⟨A,o,none⟩ v):=⟨below_set k.1 (by omega) _,k.2.1.set_other v (by omega),k.2.2.set_other v (by omega)⟩
theorem EnS.set8 {w W:World} {vs:List Value} (k:EnS w vs W) {A:Nat} (hA:w.heap.size+1<A) (a0 a1 a2 a3 a4 a5 a6 a7:Value):EnS w vs ((((((((W.setCell ⟨A,0,none⟩ a0).setCell ⟨A,1,none⟩ a1).setCell ⟨A,2,none⟩ a2).setCell ⟨A,3,none⟩ a3).setCell ⟨A,4,none⟩ a4).setCell ⟨A,5,none⟩ a5).setCell ⟨A,6,none⟩ a6).setCell ⟨A,7,none⟩ a7):=((((((((k.set hA 0 a0).set hA 1 a1).set hA 2 a2).set hA 3 a3).set hA 4 a4).set hA 5 a5).set hA 6 a6).set hA 7 a7)
def enB (how st cr lg:Nat) (nm b:ByteArray):Bool:=txO how b&&(gOk (st:Nat)&&(entB nm (zz (gOk (st:Nat)) (gY (st:Nat))) (zz (gOk (st:Nat)) (gM (st:Nat))) (zz (gOk (st:Nat)) (gD (st:Nat))) (zz (gOk (st:Nat)) (gH (st:Nat))) (zz (gOk (st:Nat)) (gI (st:Nat))) (zz (gOk (st:Nat)) (gS (st:Nat))) (uxT how b)&&(decide ((uxT how b).size=lg)&&decide (crcMore 0 (uxT how b).data.toList=cr))))
def enE (st:Nat) (nm T:ByteArray):Value:=.agg #[.string nm,.int .i64 (zz (gOk (st:Nat)) (gY (st:Nat))),.int .i64 (zz (gOk (st:Nat)) (gM (st:Nat))),.int .i64 (zz (gOk (st:Nat)) (gD (st:Nat))),.int .i64 (zz (gOk (st:Nat)) (gH (st:Nat))),.int .i64 (zz (gOk (st:Nat)) (gI (st:Nat))),.int .i64 (zz (gOk (st:Nat)) (gS (st:Nat))),.string T]
theorem six_ways {P:Prop} (a b c:Bool) (x y u v:Nat)
  (h1:(a&&(b&&(c&&(decide (x=y)&&decide (u=v)))))=false→a=false→P)
  (h2:(a&&(b&&(c&&(decide (x=y)&&decide (u=v)))))=false→a=true→b=false→P)
  (h3:(a&&(b&&(c&&(decide (x=y)&&decide (u=v)))))=false→a=true→b=true→c=false→P)
  (h4:(a&&(b&&(c&&(decide (x=y)&&decide (u=v)))))=false→a=true→b=true→c=true→((x:Int) == (y:Int))=false→((x:Int) != (y:Int))=true→P)
  (h5:(a&&(b&&(c&&(decide (x=y)&&decide (u=v)))))=false→a=true→b=true→c=true→((x:Int) == (y:Int))=true→((x:Int) != (y:Int))=false→((u:Int) == (v:Int))=false→((u:Int) != (v:Int))=true→P)
  (h6:(a&&(b&&(c&&(decide (x=y)&&decide (u=v)))))=true→a=true→b=true→c=true→((x:Int) == (y:Int))=true→((x:Int) != (y:Int))=false→((u:Int) == (v:Int))=true→((u:Int) != (v:Int))=false→P):P:=by
 have e:∀ m n:Nat,((m:Int)=(n:Int))↔m=n:=fun m n=>by omega
 cases a
 ·
  exact h1 (by simp) rfl
 cases b
 ·
  exact h2 (by simp) rfl rfl
 cases c
 ·
  exact h3 (by simp) rfl rfl rfl
 by_cases k1:x=y
 ·
  by_cases k2:u=v
  ·
   exact h6 (by simp [k1,k2]) rfl rfl rfl (by simp [k1]) (by simp [k1]) (by simp [k2]) (by simp [k2])
  ·
   exact h5 (by simp [k2]) rfl rfl rfl (by simp [k1]) (by simp [k1]) (by simp [e,k2]) (by simp [e,k2])
 ·
  exact h4 (by simp [k1]) rfl rfl rfl (by simp [e,k1]) (by simp [e,k1])
set_option maxHeartbeats 12800000 in
theorem lhEntry_any (how st cr pk lg:Nat) (nm b:ByteArray) (m:Int) (w:World) (hb:b.size≤1048576) (hh:how<65536) (h1:st<4294967296) (h2:cr<4294967296) (h3:lg<4294967296) (hn:nm.size≤1048576) (hm:w.cell? ⟨2,0,none⟩=some (.int .i64 m)) (hO:OrdC w) :
  Calls Tryz.prog 79 #[.agg #[.int .i64 (how:Nat),.int .i64 (st:Nat),.int .i64 (cr:Nat),.int .i64 (pk:Nat),.int .i64 (lg:Nat),.string nm,.string b]] w fun e w'=>e=Ending.returned (if enB how st cr lg nm b=true then .tuple #[enE st nm (uxT how b),.bool true] else .tuple #[noE,.bool false])∧Below w.heap.size w w':=by
 have hmix:Tryz.prog.follows .mixedOrders=true:=by kernel_rfl
 have hux:=ux_small (how:=how) (b:=b) hb
 have HM:=hide hm
 have hmb:=hide (World.block_lt_of_cell? _ _ hm)
 have CM:=hide (fun W (hb:Below w.heap.size w W)=>(hb.cell (p:=⟨2,0,none⟩) (unhide hmb)).trans (unhide HM))
 have HO:=hide (fun W (hb:Below w.heap.size w W)=>hO.later hb)
 have CU:=hide (fun W (h:OrdC W)=>lhUnp_any how (st:Int) (cr:Int) (pk:Int) (lg:Int) nm b W hb hh h)
 have CC:=hide (fun W=>sClone_any nm W (by omega))
 have CCr:=hide (fun W=>implCrc_any (uxT how b) W (by unfold maxLen; omega))
 have CS:Hid (∀ W,Calls Tryz.prog 118 #[.int .i64 (st:Nat)] W fun e w'=>e = .returned (.tuple #[.agg #[.int .i64 (zz (gOk (st:Nat)) (gY (st:Nat))),.int .i64 (zz (gOk (st:Nat)) (gM (st:Nat))),.int .i64 (zz (gOk (st:Nat)) (gD (st:Nat))),.int .i64 (zz (gOk (st:Nat)) (gH (st:Nat))),.int .i64 (zz (gOk (st:Nat)) (gI (st:Nat))),.int .i64 (zz (gOk (st:Nat)) (gS (st:Nat)))],.bool (gOk (st:Nat))])∧Below W.heap.size W w'):=fun W=>implStampGet_any _ W (WalkArith.wf_i64 (by omega))
 have CE:=hide (fun W (hb:Below w.heap.size w W)=>implEntryOk_any nm (zz (gOk (st:Nat)) (gY (st:Nat))) (zz (gOk (st:Nat)) (gM (st:Nat))) (zz (gOk (st:Nat)) (gD (st:Nat))) (zz (gOk (st:Nat)) (gH (st:Nat))) (zz (gOk (st:Nat)) (gI (st:Nat))) (zz (gOk (st:Nat)) (gS (st:Nat))) (uxT how b) m W (by omega) (by omega) (unhide CM _ hb))
 obtain ⟨RES,hRES⟩:∃ x,Ending.returned (if enB how st cr lg nm b=true then .tuple #[enE st nm (uxT how b),.bool true] else .tuple #[noE,.bool false])=x:=⟨_,rfl⟩
 rw [hRES]
 have HRES:=hide hRES
 clear hRES hm hO
 unfold enB enE at HRES
 generalize txO how b=OK at *
 generalize uxT how b=UT at *
 generalize zz (gOk (st:Nat)) (gY (st:Nat))=yy at *
 generalize zz (gOk (st:Nat)) (gM (st:Nat))=mo at *
 generalize zz (gOk (st:Nat)) (gD (st:Nat))=dd at *
 generalize zz (gOk (st:Nat)) (gH (st:Nat))=hh' at *
 generalize zz (gOk (st:Nat)) (gI (st:Nat))=mi at *
 generalize zz (gOk (st:Nat)) (gS (st:Nat))=ss at *
 generalize gOk (st:Nat)=GO at *
 generalize entB nm yy mo dd hh' mi ss UT=EB at *
 generalize crcMore 0 UT.data.toList=cu at *
 have T0:Hid (EnS w [.int .i64 (how:Nat),.int .i64 (st:Nat),.int .i64 (cr:Nat),.int .i64 (pk:Nat),.int .i64 (lg:Nat),.string nm,.string b] ((w.alloc (.cells #[.int .i64 (how:Nat),.int .i64 (st:Nat),.int .i64 (cr:Nat),.int .i64 (pk:Nat),.int .i64 (lg:Nat),.string nm,.string b] 63)).alloc (.cells #[.string ⟨#[]⟩,.int .i64 0,.int .i64 0,.int .i64 0,.int .i64 0,.int .i64 0,.int .i64 0,.string ⟨#[]⟩] 32))):=by
  have e1:=blk_alloc w #[.int .i64 (how:Nat),.int .i64 (st:Nat),.int .i64 (cr:Nat),.int .i64 (pk:Nat),.int .i64 (lg:Nat),.string nm,.string b] 63
  have e2:=blk_alloc (w.alloc (.cells #[.int .i64 (how:Nat),.int .i64 (st:Nat),.int .i64 (cr:Nat),.int .i64 (pk:Nat),.int .i64 (lg:Nat),.string nm,.string b] 63)) #[.string ⟨#[]⟩,.int .i64 0,.int .i64 0,.int .i64 0,.int .i64 0,.int .i64 0,.int .i64 0,.string ⟨#[]⟩] 32
  have e3:(w.alloc (.cells #[.int .i64 (how:Nat),.int .i64 (st:Nat),.int .i64 (cr:Nat),.int .i64 (pk:Nat),.int .i64 (lg:Nat),.string nm,.string b] 63)).heap.size=w.heap.size+1:=by simp
  rw [e3] at e2
  exact ⟨((Below.refl _ _).alloc (Nat.le_refl _) _).alloc (by rw [e3]; exact Nat.le_succ _) _,e1.later ((Below.refl _ _).alloc (Nat.le_refl _) _) (by simp),e2⟩
 clear hb hh hux h1 h2 h3 hn
 go_enter Tryz.func79,Tryz.ntmps79
 go_wp2_with fail
 refine (unhide CU _ (unhide HO _ (unhide T0).1)).mono ?_
 rintro e x1 ⟨rfl,hb1⟩
 have T1:=hide ((unhide T0).later hb1)
 clear hb1 T0
 have c1:=(unhide T1).2.1.cell 1 _ rfl
 go_wp2_with fail
 refine (unhide CS _).mono ?_
 rintro e x2 ⟨rfl,hb2⟩
 have T2:=hide ((unhide T1).later hb2)
 clear hb2 T1 c1
 have T3:=hide ((unhide T2).later ((Below.refl x2.heap.size x2).alloc (Nat.le_refl _) (.cells #[.int .i64 yy,.int .i64 mo,.int .i64 dd,.int .i64 hh',.int .i64 mi,.int .i64 ss] 30)))
 have S3:=hide (blk_alloc x2 #[.int .i64 yy,.int .i64 mo,.int .i64 dd,.int .i64 hh',.int .i64 mi,.int .i64 ss] 30)
 clear T2
 go_wp2_with fail
 obtain ⟨SB,hSB⟩:∃ x,x2.heap.size=x:=⟨_,rfl⟩
 obtain ⟨X3,hX3⟩:∃ x,x2.alloc (.cells #[.int .i64 yy,.int .i64 mo,.int .i64 dd,.int .i64 hh',.int .i64 mi,.int .i64 ss] 30)=x:=⟨_,rfl⟩
 rw [hX3] at T3
 rw [hSB,hX3] at S3
 rw [hSB,hX3]
 clear hSB hX3
 go_cut [8] (fun v wx=>∃ A,v = .pointer (some ⟨A,0,none⟩)∧w.heap.size+1<A∧EnS w [.int .i64 (how:Nat),.int .i64 (st:Nat),.int .i64 (cr:Nat),.int .i64 (pk:Nat),.int .i64 (lg:Nat),.string nm,.string b] wx∧Blk wx A [.string nm,.int .i64 yy,.int .i64 mo,.int .i64 dd,.int .i64 hh',.int .i64 mi,.int .i64 ss,.string UT])
 case first=>
  refine wp_region_held_drew (S:=fun W=>EnS w [.int .i64 (how:Nat),.int .i64 (st:Nat),.int .i64 (cr:Nat),.int .i64 (pk:Nat),.int .i64 (lg:Nat),.string nm,.string b] W∧Blk W SB [.int .i64 yy,.int .i64 mo,.int .i64 dd,.int .i64 hh',.int .i64 mi,.int .i64 ss]) hmix ⟨(unhide T3).drew,(unhide S3).drew⟩ (fun hS=>?_)
  refine wpAnyH_take (i:=0) (v:=.pointer (some ⟨w.heap.size,0,none⟩)) rfl (by kernel_rfl) (by kernel_rfl) (by kernel_rfl) (fun _ _ _ h=>h) (Or.inl ⟨by rfl,fun W hSw=>by go_simp⟩) hS ?_
  refine wpAnyH_take (i:=1) (v:=.pointer (some ⟨w.heap.size,5,none⟩)) rfl (by kernel_rfl) (by kernel_rfl) (by kernel_rfl) (fun _ _ _ h=>h) (Or.inl ⟨by rfl,fun W hSw=>by go_simp⟩) hS ?_
  refine wpAnyH_take (i:=2) (v:=.string nm) rfl (by kernel_rfl) (by kernel_rfl) (by kernel_rfl) (fun _ _ _ h=>h) (Or.inl ⟨by rfl,fun W hSw=>by have s5:=hSw.1.2.1.cell 5 _ rfl; go_simp⟩) hS ?_
  refine wpAnyH_take (i:=4) (v:=.agg #[.int .i64 yy,.int .i64 mo,.int .i64 dd,.int .i64 hh',.int .i64 mi,.int .i64 ss]) rfl (by kernel_rfl) (by kernel_rfl) (by kernel_rfl) (fun _ _ _ h=>h) (Or.inl ⟨by rfl,fun W hSw=>by have s0:=hSw.2.cell 0 _ rfl; have s1:=hSw.2.cell 1 _ rfl; have s2:=hSw.2.cell 2 _ rfl; have s3:=hSw.2.cell 3 _ rfl; have s4:=hSw.2.cell 4 _ rfl; have s5:=hSw.2.cell 5 _ rfl; go_simp⟩) hS ?_
  refine wpAnyH_take (i:=5) (v:=.string UT) rfl (by kernel_rfl) (by kernel_rfl) (by kernel_rfl) (fun _ _ _ h=>h) (Or.inl ⟨by rfl,fun W hSw=>by go_simp⟩) hS ?_
  have T4:=hide (unhide T3).drew
  have S4:=hide (unhide S3).drew
  clear T3 S3
  generalize X3.drew=W4 at *
  refine wpAnyH_ready (rs:=[3,7]) (by kernel_rfl) (by simp) ?_
  refine AllReadyH.cons rfl (fun K hK=>?_) (AllReadyH.cons rfl (fun K hK=>?_) (AllReadyH.nil))
  ·
   go_simp
   go_at_call 65
   refine (unhide CC W4).mono ?_
   rintro e W5 ⟨rfl,Bd⟩
   have T5:=hide ((unhide T4).later Bd)
   have S5:=hide ((unhide S4).later Bd (unhide S4).1)
   refine Shut.out hK _ _ ⟨unhide T5,unhide S5⟩ (fun hS=>?_)
   clear hK K
   clear Bd T4 S4
   refine wpAnyH_take (i:=6) (v:=.agg #[.string nm,.int .i64 yy,.int .i64 mo,.int .i64 dd,.int .i64 hh',.int .i64 mi,.int .i64 ss,.string UT]) rfl (by kernel_rfl) (by kernel_rfl) (by kernel_rfl) (fun _ _ _ h=>h) (Or.inl ⟨by rfl,fun W hSw=>by go_simp⟩) hS ?_
   refine wpAnyH_ready (rs:=[7]) (by kernel_rfl) (by simp) ?_
   refine AllReadyH.cons rfl (fun K hK=>?_) (AllReadyH.nil)
   go_simp
   have Bd:Below W5.heap.size W5 (W5.alloc (.cells #[.string ⟨#[]⟩,.int .i64 0,.int .i64 0,.int .i64 0,.int .i64 0,.int .i64 0,.int .i64 0,.string ⟨#[]⟩] 32)):=(Below.refl _ _).alloc (Nat.le_refl _) _
   have T6:=hide ((unhide T5).later Bd)
   have S6:=hide ((unhide S5).later Bd (unhide S5).1)
   have R6:Hid (Blk (W5.alloc (.cells #[.string ⟨#[]⟩,.int .i64 0,.int .i64 0,.int .i64 0,.int .i64 0,.int .i64 0,.int .i64 0,.string ⟨#[]⟩] 32)) W5.heap.size [.string ⟨#[]⟩,.int .i64 0,.int .i64 0,.int .i64 0,.int .i64 0,.int .i64 0,.int .i64 0,.string ⟨#[]⟩]):=blk_alloc _ _ _
   have hA:w.heap.size+1<W5.heap.size:=(unhide T5).2.2.1
   have hSA:SB≠W5.heap.size:=Nat.ne_of_lt (unhide S5).1
   refine Shut.out hK _ _ ⟨unhide T6,unhide S6⟩ (fun hS=>?_)
   clear hK K
   obtain ⟨A,hAe⟩:∃ x,W5.heap.size=x:=⟨_,rfl⟩
   obtain ⟨W6,hW6⟩:∃ x,W5.alloc (.cells #[.string ⟨#[]⟩,.int .i64 0,.int .i64 0,.int .i64 0,.int .i64 0,.int .i64 0,.int .i64 0,.string ⟨#[]⟩] 32)=x:=⟨_,rfl⟩
   rw [hW6] at T6 S6 hS
   rw [hAe,hW6] at R6
   rw [hAe] at hA hSA
   rw [hAe,hW6]
   clear Bd hAe hW6 T5 S5
   refine wpAnyH_ready (rs:=[8]) (by kernel_rfl) (by simp) ?_
   refine AllReadyH.cons rfl (fun K hK=>?_) (AllReadyH.nil)
   have aA:=(unhide R6).cells (n:=8) rfl
   have fA:=(unhide R6).frees (n:=8) rfl
   go_simp
   have TX:=hide ((unhide T6).set8 hA (.string nm) (.int .i64 yy) (.int .i64 mo) (.int .i64 dd) (.int .i64 hh') (.int .i64 mi) (.int .i64 ss) (.string UT))
   have RX:=hide ((unhide R6).set8 (.string nm) (.int .i64 yy) (.int .i64 mo) (.int .i64 dd) (.int .i64 hh') (.int .i64 mi) (.int .i64 ss) (.string UT))
   have SX:=hide (other8 (unhide S6) hSA (.string nm) (.int .i64 yy) (.int .i64 mo) (.int .i64 dd) (.int .i64 hh') (.int .i64 mi) (.int .i64 ss) (.string UT))
   clear aA fA
   refine Shut.out hK _ _ ⟨unhide TX,unhide SX⟩ (fun hS=>?_)
   clear hK K
   refine wpAnyH_done (by kernel_rfl) ?_ _
   go_wp2_with fail
   go_meet
   case rel=>exact ⟨A,rfl,hA,unhide TX,unhide RX⟩
  ·
   go_simp
   have Bd:Below W4.heap.size W4 (W4.alloc (.cells #[.string ⟨#[]⟩,.int .i64 0,.int .i64 0,.int .i64 0,.int .i64 0,.int .i64 0,.int .i64 0,.string ⟨#[]⟩] 32)):=(Below.refl _ _).alloc (Nat.le_refl _) _
   have T5:=hide ((unhide T4).later Bd)
   have S5:=hide ((unhide S4).later Bd (unhide S4).1)
   have R5:Hid (Blk (W4.alloc (.cells #[.string ⟨#[]⟩,.int .i64 0,.int .i64 0,.int .i64 0,.int .i64 0,.int .i64 0,.int .i64 0,.string ⟨#[]⟩] 32)) W4.heap.size [.string ⟨#[]⟩,.int .i64 0,.int .i64 0,.int .i64 0,.int .i64 0,.int .i64 0,.int .i64 0,.string ⟨#[]⟩]):=blk_alloc _ _ _
   have hA:w.heap.size+1<W4.heap.size:=(unhide T4).2.2.1
   have hSA:SB≠W4.heap.size:=Nat.ne_of_lt (unhide S4).1
   refine Shut.out hK _ _ ⟨unhide T5,unhide S5⟩ (fun hS=>?_)
   clear hK K
   obtain ⟨A,hAe⟩:∃ x,W4.heap.size=x:=⟨_,rfl⟩
   obtain ⟨W5,hW5⟩:∃ x,W4.alloc (.cells #[.string ⟨#[]⟩,.int .i64 0,.int .i64 0,.int .i64 0,.int .i64 0,.int .i64 0,.int .i64 0,.string ⟨#[]⟩] 32)=x:=⟨_,rfl⟩
   rw [hW5] at T5 S5 hS
   rw [hAe,hW5] at R5
   rw [hAe] at hA hSA
   rw [hAe,hW5]
   clear Bd hAe hW5 T4 S4
   refine wpAnyH_ready (rs:=[3]) (by kernel_rfl) (by simp) ?_
   refine AllReadyH.cons rfl (fun K hK=>?_) (AllReadyH.nil)
   go_simp
   go_at_call 65
   refine (unhide CC W5).mono ?_
   rintro e W6 ⟨rfl,Bd⟩
   have T6:=hide ((unhide T5).later Bd)
   have S6:=hide ((unhide S5).later Bd (unhide S5).1)
   have R6:=hide ((unhide R5).later Bd (unhide R5).1)
   refine Shut.out hK _ _ ⟨unhide T6,unhide S6⟩ (fun hS=>?_)
   clear hK K
   clear Bd T5 S5 R5
   refine wpAnyH_take (i:=6) (v:=.agg #[.string nm,.int .i64 yy,.int .i64 mo,.int .i64 dd,.int .i64 hh',.int .i64 mi,.int .i64 ss,.string UT]) rfl (by kernel_rfl) (by kernel_rfl) (by kernel_rfl) (fun _ _ _ h=>h) (Or.inl ⟨by rfl,fun W hSw=>by go_simp⟩) hS ?_
   refine wpAnyH_ready (rs:=[8]) (by kernel_rfl) (by simp) ?_
   refine AllReadyH.cons rfl (fun K hK=>?_) (AllReadyH.nil)
   have aA:=(unhide R6).cells (n:=8) rfl
   have fA:=(unhide R6).frees (n:=8) rfl
   go_simp
   have TX:=hide ((unhide T6).set8 hA (.string nm) (.int .i64 yy) (.int .i64 mo) (.int .i64 dd) (.int .i64 hh') (.int .i64 mi) (.int .i64 ss) (.string UT))
   have RX:=hide ((unhide R6).set8 (.string nm) (.int .i64 yy) (.int .i64 mo) (.int .i64 dd) (.int .i64 hh') (.int .i64 mi) (.int .i64 ss) (.string UT))
   have SX:=hide (other8 (unhide S6) hSA (.string nm) (.int .i64 yy) (.int .i64 mo) (.int .i64 dd) (.int .i64 hh') (.int .i64 mi) (.int .i64 ss) (.string UT))
   clear aA fA
   refine Shut.out hK _ _ ⟨unhide TX,unhide SX⟩ (fun hS=>?_)
   clear hK K
   refine wpAnyH_done (by kernel_rfl) ?_ _
   go_wp2_with fail
   go_meet
   case rel=>exact ⟨A,rfl,hA,unhide TX,unhide RX⟩
 case rest=>
  obtain ⟨A,rfl,hA,TB',RB'⟩:=hcut
  have TB:=hide TB'
  have RB:=hide RB'
  clear TB' RB' T3 S3
  go_wp2_with fail
  refine six_ways OK GO EB UT.size lg cu cr ?_ ?_ ?_ ?_ ?_ ?_
  rotate_left 5
  ·
   rintro hz rfl rfl rfl k1b k1c k2b k2c
   have HV:Hid (Ending.returned (.tuple #[.agg #[.string nm,.int .i64 yy,.int .i64 mo,.int .i64 dd,.int .i64 hh',.int .i64 mi,.int .i64 ss,.string UT],.bool true])=RES):=by show _=_; rw [←unhide HRES,if_pos hz]
   clear hz
   have k4:=cell_regrown ((unhide TB).2.1.cell 4 _ rfl)
   have k2:=cell_regrown ((unhide TB).2.1.cell 2 _ rfl)
   have m0:=cell_regrown ((unhide RB).cell 0 _ rfl)
   have m1:=cell_regrown ((unhide RB).cell 1 _ rfl)
   have m2:=cell_regrown ((unhide RB).cell 2 _ rfl)
   have m3:=cell_regrown ((unhide RB).cell 3 _ rfl)
   have m4:=cell_regrown ((unhide RB).cell 4 _ rfl)
   have m5:=cell_regrown ((unhide RB).cell 5 _ rfl)
   have m6:=cell_regrown ((unhide RB).cell 6 _ rfl)
   have m7:=cell_regrown ((unhide RB).cell 7 _ rfl)
   have cE:=fun d os=>Calls.regrown_of (w:=wc) (d:=d) (os:=os) (unhide CE _ (bnext (unhide TB).1 (below_regrown wc d os)))
   have cC:=fun d os=>Calls.regrown_of (w:=wc) (d:=d) (os:=os) (unhide CCr _)
   refine wp_region_quiet_below hmix (by kernel_rfl) ?_
   repeat (quiet_step (first | exact cE _ _ | exact cC _ _))
   refine wpQuiet_nil ?_
   intro zw hw'
   obtain ⟨⟨dq,osq⟩,hw2⟩:=hw'
   have HZ:=below_regrown wc dq osq
   rw [←hw2] at HZ
   have T9:=hide ((unhide TB).later HZ)
   have R9:=hide ((unhide RB).later HZ (unhide RB).1)
   clear hw2 HZ k4 k2 cE cC TB RB m0 m1 m2 m3 m4 m5 m6 m7
   have rA:=(unhide R9).cells (n:=8) rfl
   have bA:=(unhide T9).2.2.cells (n:=8) rfl
   have gA:=(unhide T9).2.2.frees (n:=8) rfl
   have TZ:=hide (below8 (unhide T9).1 (Nat.le_succ _) (.string nm) (.int .i64 yy) (.int .i64 mo) (.int .i64 dd) (.int .i64 hh') (.int .i64 mi) (.int .i64 ss) (.string UT))
   have ZZ:=hide ((unhide T9).2.2.set8 (.string nm) (.int .i64 yy) (.int .i64 mo) (.int .i64 dd) (.int .i64 hh') (.int .i64 mi) (.int .i64 ss) (.string UT))
   go_wp2
   have zA:=(unhide ZZ).cells (n:=8) rfl
   refine bodyPost_ret (v:=.tuple #[.agg #[.string nm,.int .i64 yy,.int .i64 mo,.int .i64 dd,.int .i64 hh',.int .i64 mi,.int .i64 ss,.string UT],.bool true]) (by simp [results,Tryz.results79,go_sem,zA]) rfl ⟨unhide HV,unhide TZ⟩
  all_goals intro hz
  all_goals have HV:Hid (Ending.returned (.tuple #[.agg #[.string ⟨#[]⟩,.int .i64 0,.int .i64 0,.int .i64 0,.int .i64 0,.int .i64 0,.int .i64 0,.string ⟨#[]⟩],.bool false])=RES):=by show _=_; rw [←unhide HRES,if_neg (by rw [hz]; decide)]; rfl
  all_goals clear hz
  rintro rfl
  rotate_left
  rintro rfl rfl
  rotate_left
  rintro rfl rfl rfl
  rotate_left
  rintro rfl rfl rfl k1b k1c
  rotate_left
  rintro rfl rfl rfl k1b k1c k2b k2c
  rotate_left
  all_goals (
   have k4:=cell_regrown ((unhide TB).2.1.cell 4 _ rfl)
   have k2:=cell_regrown ((unhide TB).2.1.cell 2 _ rfl)
   have m0:=cell_regrown ((unhide RB).cell 0 _ rfl)
   have m1:=cell_regrown ((unhide RB).cell 1 _ rfl)
   have m2:=cell_regrown ((unhide RB).cell 2 _ rfl)
   have m3:=cell_regrown ((unhide RB).cell 3 _ rfl)
   have m4:=cell_regrown ((unhide RB).cell 4 _ rfl)
   have m5:=cell_regrown ((unhide RB).cell 5 _ rfl)
   have m6:=cell_regrown ((unhide RB).cell 6 _ rfl)
   have m7:=cell_regrown ((unhide RB).cell 7 _ rfl)
   have cE:=fun d os=>Calls.regrown_of (w:=wc) (d:=d) (os:=os) (unhide CE _ (bnext (unhide TB).1 (below_regrown wc d os)))
   have cC:=fun d os=>Calls.regrown_of (w:=wc) (d:=d) (os:=os) (unhide CCr _)
   refine wp_region_quiet_below hmix (by kernel_rfl) ?_
   repeat (quiet_step (first | exact cE _ _ | exact cC _ _))
   refine wpQuiet_nil ?_
   intro zw hw'
   obtain ⟨⟨dq,osq⟩,hw2⟩:=hw'
   have HZ:=below_regrown wc dq osq
   rw [←hw2] at HZ
   have T9:=hide ((unhide TB).later HZ)
   have R9:=hide ((unhide RB).later HZ (unhide RB).1)
   clear hw2 HZ k4 k2 cE cC TB RB m0 m1 m2 m3 m4 m5 m6 m7
   have bA:=(unhide T9).2.2.cells (n:=8) rfl
   have gA:=(unhide T9).2.2.frees (n:=8) rfl
   have TZ:=hide (below8 (unhide T9).1 (Nat.le_succ _) (.string ⟨#[]⟩) (.int .i64 0) (.int .i64 0) (.int .i64 0) (.int .i64 0) (.int .i64 0) (.int .i64 0) (.string ⟨#[]⟩))
   have ZZ:=hide ((unhide T9).2.2.set8 (.string ⟨#[]⟩) (.int .i64 0) (.int .i64 0) (.int .i64 0) (.int .i64 0) (.int .i64 0) (.int .i64 0) (.string ⟨#[]⟩))
   go_wp2
   have zA:=(unhide ZZ).cells (n:=8) rfl
   refine bodyPost_ret (v:=.tuple #[.agg #[.string ⟨#[]⟩,.int .i64 0,.int .i64 0,.int .i64 0,.int .i64 0,.int .i64 0,.int .i64 0,.string ⟨#[]⟩],.bool false]) (by simp [results,Tryz.results79,go_sem,zA]) rfl ⟨unhide HV,unhide TZ⟩
  )
theorem en_is (s:ByteArray):enB (wd s.data.toList 8 2) (wd s.data.toList 10 4) (wd s.data.toList 14 4) (wd s.data.toList 22 4) (nmB s) (bdB s)=((txO (wd s.data.toList 8 2) (bdB s)&&(decide (wd s.data.toList 14 4=crcMore 0 (txT (wd s.data.toList 8 2) (bdB s)).data.toList)&&decide (wd s.data.toList 22 4=(txT (wd s.data.toList 8 2) (bdB s)).size)))&&entG s (txT (wd s.data.toList 8 2) (bdB s)))∧(enB (wd s.data.toList 8 2) (wd s.data.toList 10 4) (wd s.data.toList 14 4) (wd s.data.toList 22 4) (nmB s) (bdB s)=true→enE (wd s.data.toList 10 4) (nmB s) (uxT (wd s.data.toList 8 2) (bdB s))=locE s (txT (wd s.data.toList 8 2) (bdB s))):=by
 cases ho:txO (wd s.data.toList 8 2) (bdB s)
 ·
  simp [enB,ho]
 ·
  unfold enB enE locE entG
  rw [ux_yes ho,ho]
  have hg:=gOk_nn (n:=(wd s.data.toList 10 4:Nat)) (by omega)
  cases hk:gOk ((wd s.data.toList 10 4:Nat):Int)
  ·
   rw [hk] at hg
   refine ⟨?_,by simp⟩
   unfold entB
   rw [←hg]; simp
  ·
   simp only [zz,if_true]
   refine ⟨?_,fun _=>trivial⟩
   rw [Bool.eq_iff_iff]
   simp only [Bool.and_eq_true,decide_eq_true_eq,Bool.true_and]
   constructor
   ·
    rintro ⟨a,b,c⟩; exact ⟨⟨c.symm,b.symm⟩,a⟩
   ·
    rintro ⟨⟨a,b⟩,c⟩; exact ⟨c,b.symm,a.symm⟩
theorem en_small {how st cr lg:Nat} {nm b:ByteArray} (h:enB how st cr lg nm b=true):b.size≤700:=by
 simp only [enB,Bool.and_eq_true] at h
 obtain ⟨h1,_,h3,_⟩:=h
 unfold txO unpB at h1
 by_cases h0:how=0
 ·
  subst h0
  have e:uxT 0 b=b:=by simp [uxT,txT]
  rw [e] at h3
  have:=(ent_facts h3).2.1
  omega
 ·
  rw [if_neg h0] at h1
  by_cases h8:how=8
  ·
   rw [if_pos h8] at h1
   unfold flateG at h1
   by_cases hz:b.size≤700
   ·
    exact hz
   ·
    rw [if_neg hz] at h1; cases h1
  ·
   rw [if_neg h8] at h1; cases h1
theorem loc_en {s:ByteArray} (h:hdB s=true):locV s=if enB (wd s.data.toList 8 2) (wd s.data.toList 10 4) (wd s.data.toList 14 4) (wd s.data.toList 22 4) (nmB s) (bdB s)=true then .tuple #[enE (wd s.data.toList 10 4) (nmB s) (uxT (wd s.data.toList 8 2) (bdB s)),.int .i64 ((30+wd s.data.toList 26 2+wd s.data.toList 18 4:Nat):Int),.bool true] else .tuple #[noE,.int .i64 0,.bool false]:=by
 obtain ⟨e1,e2⟩:=en_is s
 rw [loc_is h,←e1]
 by_cases hb:enB (wd s.data.toList 8 2) (wd s.data.toList 10 4) (wd s.data.toList 14 4) (wd s.data.toList 22 4) (nmB s) (bdB s)=true
 ·
  rw [if_pos hb,if_pos hb,e2 hb]
 ·
  rw [if_neg hb,if_neg hb]
end Go.Proofs.YtkdlcomfpffhhaaGreatDoor
