/- Of what the proof is made: 9 texts, one behind the other. -/
import Derived.Test.YtkdlcomfpffhhaaGreatDoorM3
import Derived.Deep.QuietTactic
import Derived.BigQuiet
import Derived.BigRegion
import Derived.WalkSmall
import Derived.Deep.RegionWith
import Derived.Test.YtkdlcomfpffhhaaGreatDoorM1
namespace Go.Proofs.YtkdlcomfpffhhaaGreatDoor
open Go.RowKit
def Two (w:World) (b:Nat) (v0 v1:Value):Prop:=
 w.cell? ⟨b,0,none⟩=some v0∧w.cell? ⟨b,1,none⟩=some v1∧w.frozen? ⟨b,0,none⟩=false∧w.frozen? ⟨b,1,none⟩=false∧b<w.heap.size
theorem below_set {B:Nat} {a w:World} (h:Below B a w) {b o:Nat} (hb:B≤b) (u:Value):Below B a (w.setCell ⟨b,o,none⟩ u):=h.setCell (p:=⟨b,o,none⟩) hb u
theorem Two.set0 {w:World} {b:Nat} {v0 v1:Value} (h:Two w b v0 v1) (u:Value):Two (w.setCell ⟨b,0,none⟩ u) b u v1:=by
 obtain ⟨c0,c1,f0,f1,hb⟩:=h
 refine ⟨World.cell?_setCell_same _ _ _ c0,?_,by simpa using f0,by simpa using f1,by simpa using hb⟩
 rw [World.cell?_setCell_other _ _ _ _ (by simp)]; exact c1
theorem Two.set1 {w:World} {b:Nat} {v0 v1:Value} (h:Two w b v0 v1) (u:Value):Two (w.setCell ⟨b,1,none⟩ u) b v0 u:=by
 obtain ⟨c0,c1,f0,f1,hb⟩:=h
 refine ⟨?_,World.cell?_setCell_same _ _ _ c1,by simpa using f0,by simpa using f1,by simpa using hb⟩
 rw [World.cell?_setCell_other _ _ _ _ (by simp)]; exact c0
theorem Two.drew {w:World} {b:Nat} {v0 v1:Value} (h:Two w b v0 v1):Two w.drew b v0 v1:=h
end Go.Proofs.YtkdlcomfpffhhaaGreatDoor
namespace Go.Proofs.YtkdlcomfpffhhaaGreatDoor
open Go.RowKit Corb
def p2 (k:Nat):Nat:=2 ^ k
theorem p2_pos (k:Nat):1≤p2 k:=Nat.one_le_two_pow
theorem p2_succ (k:Nat):p2 (k+1)=p2 k*2:=Nat.pow_succ ..
theorem p2_int (k:Nat):((p2 k:Nat):Int)=(2:Int) ^ k:=by simp [p2]
theorem wrap_id (n:Int) (h0 : -9223372036854775808≤n) (h1:n≤9223372036854775807):IntKind.i64.wrap n=n:=by
 simp [IntKind.wrap,IntKind.bits,IntKind.signed]; omega
set_option maxHeartbeats 400000 in
theorem l1Pow_any (n : Int) (w : World) (h : n ≤ 60) :
    Calls Tryz.prog 252 #[.int .i64 n] w fun e w' => e = .returned (.int .i64 (p2 n.toNat : Nat)) ∧ w' = w := by
  have hle : p2 n.toNat ≤ 2 ^ 60 := Nat.pow_le_pow_right (by omega) (by omega)
  generalize hN : p2 n.toNat = N at *
  have HN := hide hN
  clear hN
  go_enter Tryz.func252, Tryz.ntmps252
  go_wp2
  go_loop [0, 3] (fun m o => ∃ (k : Int), k ≤ 60 ∧ m = .int .i64 k ∧ ∃ p : Nat, o = .int .i64 p ∧ p * p2 k.toNat = N) (fun m _ => (intOf m).toNat)
  case atStart => exact ⟨n, h, rfl, 1, rfl, by have := unhide HN; omega⟩
  case round =>
    obtain ⟨k, hk, rfl, p, rfl, hp⟩ := hrel
    by_cases h0 : 0 < k
    · have e : p2 k.toNat = p2 (k - 1).toNat * 2 := by rw [← p2_succ]; congr 1; omega
      have hq : p * 2 * p2 (k - 1).toNat = N := by rw [← hp, e, Nat.mul_assoc, Nat.mul_comm 2]
      have hpl : p * 2 ≤ 2 ^ 60 := by
        have h1 : p * 2 * 1 ≤ p * 2 * p2 (k - 1).toNat := Nat.mul_le_mul_left _ (p2_pos _)
        omega
      have HQ := hide hq
      have hpl' : (p : Int) ≤ 1152921504606846976 := by have : (2 : Nat) ^ 60 = 1152921504606846976 := by decide
                                                        omega
      clear e hq hpl hp hle
      go_wp2
      go_round
      case rel => exact ⟨k - 1, by omega, rfl, p * 2, by go_num, unhide HQ⟩
      case measure => simp [intOf]; omega
    · have hk0 : k.toNat = 0 := by omega
      rw [hk0] at hp
      have HP : Hid (p = N) := by have : p = N := by rw [← hp]; simp [p2]
                                  exact this
      clear hp hk0 hle
      go_wp2
      go_ret
      exact ⟨ret_int (by rw [unhide HP]), rfl⟩
def pOk (num bits:Int):Bool:=inB bits 0 16&&inB num 0 ((p2 bits.toNat:Nat)-1)
theorem pOk_true {num bits:Int} : pOk num bits=true↔(0≤bits∧bits≤16)∧0≤num∧num<(p2 bits.toNat:Nat):=by
 simp only [pOk,Bool.and_eq_true,inB_true]; omega
theorem pow_bd (bits:Int) (h1:bits≤16):(1:Int)≤(p2 bits.toNat:Nat)∧((p2 bits.toNat:Nat):Int)≤65536:=by
 have a:p2 bits.toNat≤65536:=pow_le16 bits.toNat (by omega)
 have b:=p2_pos bits.toNat
 omega
set_option maxHeartbeats 800000 in
theorem pieceOk_any (num bits:Int) (w:World) :
  Calls Tryz.prog 196 #[.agg #[.int .i64 num,.int .i64 bits]] w fun e w'=>e = .returned (.bool (pOk num bits))∧Below w.heap.size w w':=by
 by_cases b0:0≤bits
 ·
  by_cases b1:bits≤16
  ·
   by_cases n0:0≤num
   ·
    obtain ⟨q0,q1⟩:=pow_bd bits b1
    have HP:Hid (pOk num bits=decide (num<(p2 bits.toNat:Nat))):=by
     show pOk num bits=decide (num<(p2 bits.toNat:Nat))
     rw [Bool.eq_iff_iff,pOk_true,decide_eq_true_iff]; omega
    have hq:=p2_int bits.toNat
    generalize ((p2 bits.toNat:Nat):Int)=q at *
    have HQ:=hide hq
    have hwr:=wrap_id q (by omega) (by omega)
    clear hq
    have hwr2:IntKind.i64.wrap (2 ^ bits.toNat)=q:=by
     have h:=unhide HQ
     rw [←h]; exact hwr
    go_enter Tryz.func196,Tryz.ntmps196
    go_wp2
    go_quiet (fail)
    go_wp2
    go_ret
    exact ⟨ret_bool (unhide HP).symm,below_drewN ((Below.refl _ _).alloc (Nat.le_refl _) _) _⟩
   ·
    have HP:Hid (pOk num bits=false):=by
     show pOk num bits=false
     rw [←Bool.not_eq_true,pOk_true]; omega
    have d2:decide (0≤num)=false:=decide_eq_false n0
    go_enter Tryz.func196,Tryz.ntmps196
    go_wp2
    go_quiet (fail)
    go_wp2
    go_ret
    exact ⟨ret_bool (unhide HP).symm,below_drewN ((Below.refl _ _).alloc (Nat.le_refl _) _) _⟩
  ·
   have HP:Hid (pOk num bits=false):=by
    show pOk num bits=false
    rw [←Bool.not_eq_true,pOk_true]; omega
   have d1:decide (bits≤16)=false:=decide_eq_false b1
   go_enter Tryz.func196,Tryz.ntmps196
   go_wp2
   go_quiet (fail)
   go_wp2
   go_ret
   exact ⟨ret_bool (unhide HP).symm,below_drewN ((Below.refl _ _).alloc (Nat.le_refl _) _) _⟩
 ·
  have HP:Hid (pOk num bits=false):=by
   show pOk num bits=false
   rw [←Bool.not_eq_true,pOk_true]; omega
  have d0:decide (0≤bits)=false:=decide_eq_false b0
  go_enter Tryz.func196,Tryz.ntmps196
  go_wp2
  go_quiet (fail)
  go_wp2
  go_ret
  exact ⟨ret_bool (unhide HP).symm,below_drewN ((Below.refl _ _).alloc (Nat.le_refl _) _) _⟩
end Go.Proofs.YtkdlcomfpffhhaaGreatDoor
namespace Go.Proofs.YtkdlcomfpffhhaaGreatDoor
open Go.RowKit
def leapB (y:Int):Bool:=decide (y%4=0)&&(!decide (y%100=0) || decide (y%400=0))
def daysN (y m:Int):Int:=if m=4∨m=6∨m=9∨m=11 then 30 else if m=2 then (if leapB y then 29 else 28) else 31
def febN (y:Int):Int:=if leapB y then 29 else 28
theorem days_feb (y:Int):daysN y 2=febN y:=by simp [daysN,febN]
theorem days_30 (y m:Int) (h:m=4∨m=6∨m=9∨m=11):daysN y m=30:=by simp [daysN,h]
theorem days_31 (y m:Int) (h4:¬ m=4) (h6:¬ m=6) (h9:¬ m=9) (h11:¬ m=11) (h2:¬ m=2):daysN y m=31:=by simp [daysN,h4,h6,h9,h11,h2]
theorem leapYear_any (y:Int) (w:World) (h0:0≤y) (h1:y≤3000) :
  Calls Tryz.prog 187 #[.int .i64 y] w fun e w'=>e = .returned (.bool (leapB y))∧w'=w:=by
 by_cases h4:y%4=0
 ·
  by_cases h100:y%100=0
  ·
   by_cases h400:y%400=0
   ·
    go_enter Tryz.func187,Tryz.ntmps187
    go_wp2
    go_ret
    exact ⟨ret_bool (by simp [leapB,h4,h400]),rfl⟩
   ·
    go_enter Tryz.func187,Tryz.ntmps187
    go_wp2
    go_ret
    exact ⟨ret_bool (by simp [leapB,h4,h100,h400]),rfl⟩
  ·
   go_enter Tryz.func187,Tryz.ntmps187
   go_wp2
   go_ret
   exact ⟨ret_bool (by simp [leapB,h4,h100]),rfl⟩
 ·
  have h400:¬ y%400=0:=by omega
  go_enter Tryz.func187,Tryz.ntmps187
  go_wp2
  go_ret
  exact ⟨ret_bool (by simp [leapB,h4,h400]),rfl⟩
theorem l6Days_any (y m:Int) (w:World) (h0:0≤y) (h1:y≤3000) :
  Calls Tryz.prog 191 #[.int .i64 y,.int .i64 m] w fun e w'=>e = .returned (.int .i64 (daysN y m))∧w'=w:=by
 by_cases m2:m=2
 ·
  subst m2
  rw [days_feb]
  by_cases h4:y%4=0
  ·
   by_cases h100:y%100=0
   ·
    by_cases h400:y%400=0
    ·
     go_enter Tryz.func191,Tryz.ntmps191
     go_wp2
     go_ret
     exact ⟨ret_int (by simp [febN,leapB,h4,h400]),rfl⟩
    ·
     go_enter Tryz.func191,Tryz.ntmps191
     go_wp2
     go_ret
     exact ⟨ret_int (by simp [febN,leapB,h4,h100,h400]),rfl⟩
   ·
    go_enter Tryz.func191,Tryz.ntmps191
    go_wp2
    go_ret
    exact ⟨ret_int (by simp [febN,leapB,h4,h100]),rfl⟩
  ·
   go_enter Tryz.func191,Tryz.ntmps191
   go_wp2
   go_ret
   exact ⟨ret_int (by simp [febN,leapB,h4]),rfl⟩
 ·
  by_cases m30:m=4∨m=6∨m=9∨m=11
  ·
   rw [days_30 y m m30]
   rcases m30 with rfl | rfl | rfl | rfl
   all_goals
    go_enter Tryz.func191,Tryz.ntmps191
    go_wp2
    go_ret
    exact ⟨rfl,rfl⟩
  ·
   have m4:¬ m=4:=fun h=>m30 (by simp [h])
   have m6:¬ m=6:=fun h=>m30 (by simp [h])
   have m9:¬ m=9:=fun h=>m30 (by simp [h])
   have m11:¬ m=11:=fun h=>m30 (by simp [h])
   rw [days_31 y m m4 m6 m9 m11 m2]
   clear m30
   go_enter Tryz.func191,Tryz.ntmps191
   go_wp2
   go_ret
   exact ⟨rfl,rfl⟩
def daysI (y m:Int):Int:=if inB m 1 12 then daysN y m else 0
theorem monthDays_any (y m:Int) (w:World) (h0:0≤y) (h1:y≤3000) :
  Calls Tryz.prog 144 #[.int .i64 y,.int .i64 m] w fun e w'=>e = .returned (.int .i64 (daysI y m))∧w'=w:=by
 cases hm:inB m 1 12
 ·
  have hd:daysI y m=0:=by simp [daysI,hm]
  rw [hd]
  have hb:=inB_false.1 hm
  have n1:¬ m=1:=by omega
  have n2:¬ m=2:=by omega
  have n3:¬ m=3:=by omega
  have n4:¬ m=4:=by omega
  have n5:¬ m=5:=by omega
  have n6:¬ m=6:=by omega
  have n7:¬ m=7:=by omega
  have n8:¬ m=8:=by omega
  have n9:¬ m=9:=by omega
  have n10:¬ m=10:=by omega
  have n11:¬ m=11:=by omega
  have n12:¬ m=12:=by omega
  clear hm hd hb
  go_enter Tryz.func144,Tryz.ntmps144
  go_wp2
  go_ret
  exact ⟨rfl,rfl⟩
 ·
  have hd:daysI y m=daysN y m:=by simp [daysI,hm]
  rw [hd]
  obtain ⟨b1,b2⟩:=inB_true.1 hm
  clear hm hd
  have hc:m=1∨m=2∨m=3∨m=4∨m=5∨m=6∨m=7∨m=8∨m=9∨m=10∨m=11∨m=12:=by omega
  by_cases m2:m=2
  ·
   subst m2
   clear hc b1 b2
   rw [days_feb]
   cases hl:leapB y
   ·
    go_enter Tryz.func144,Tryz.ntmps144
    go_wp2_with (go_at_call 187; refine (leapYear_any _ _ h0 h1).mono ?_; rintro e w' ⟨rfl,hw⟩; rw [hw]; clear hw; rw [hl])
    go_ret
    exact ⟨ret_int (by simp [febN,hl]),rfl⟩
   ·
    go_enter Tryz.func144,Tryz.ntmps144
    go_wp2_with (go_at_call 187; refine (leapYear_any _ _ h0 h1).mono ?_; rintro e w' ⟨rfl,hw⟩; rw [hw]; clear hw; rw [hl])
    go_ret
    exact ⟨ret_int (by simp [febN,hl]),rfl⟩
  ·
   rcases hc with rfl | rfl | rfl | rfl | rfl | rfl | rfl | rfl | rfl | rfl | rfl | rfl
   all_goals first | exact absurd rfl m2 | skip
   all_goals
    clear b1 b2 m2
    go_enter Tryz.func144,Tryz.ntmps144
    go_wp2
    go_ret
    exact ⟨ret_int (by simp [daysN]),rfl⟩
def stOk (y mo d h mi s:Int):Bool:=inB y 1980 2107&&(inB mo 1 12&&(inB d 1 (daysN y mo)&&(inB h 0 23&&(inB mi 0 59&&(inB s 0 58&&decide (s%2=0))))))
set_option maxHeartbeats 4000000 in
theorem specStampOk_any (y mo d h mi s:Int) (w:World) :
  Calls Tryz.prog 150 #[.agg #[.int .i64 y,.int .i64 mo,.int .i64 d,.int .i64 h,.int .i64 mi,.int .i64 s]] w fun e w'=>e = .returned (.bool (stOk y mo d h mi s))∧Below w.heap.size w w':=by
 cases hy:inB y 1980 2107
 ·
  have HP:Hid (stOk y mo d h mi s=false):=by simp [Hid,stOk,hy]
  go_enter Tryz.func150,Tryz.ntmps150
  go_wp2
  go_quiet (first | (go_at_call 58; exact Calls.quiet_of_same (l1In_any _ _ _ _)) | (go_at_call 191; exact Calls.quiet_of_same (l6Days_any _ _ _ (by omega) (by omega))))
  go_wp2_with (go_at_call 58; refine (l1In_any _ _ _ _).mono ?_; rintro e w9 ⟨rfl,hw9⟩; rw [hw9]; clear hw9)
  go_ret
  exact ⟨ret_bool (unhide HP).symm,below_drewN ((Below.refl _ _).alloc (Nat.le_refl _) _) _⟩
 ·
  skip
  obtain ⟨y0,y1⟩:=inB_true.1 hy
  cases hm:inB mo 1 12
  ·
   have HP:Hid (stOk y mo d h mi s=false):=by simp [Hid,stOk,hy,hm]
   go_enter Tryz.func150,Tryz.ntmps150
   go_wp2
   go_quiet (first | (go_at_call 58; exact Calls.quiet_of_same (l1In_any _ _ _ _)) | (go_at_call 191; exact Calls.quiet_of_same (l6Days_any _ _ _ (by omega) (by omega))))
   go_wp2_with (go_at_call 58; refine (l1In_any _ _ _ _).mono ?_; rintro e w9 ⟨rfl,hw9⟩; rw [hw9]; clear hw9)
   go_ret
   exact ⟨ret_bool (unhide HP).symm,below_drewN ((Below.refl _ _).alloc (Nat.le_refl _) _) _⟩
  ·
   skip
   cases hd:inB d 1 (daysN y mo)
   ·
    have HP:Hid (stOk y mo d h mi s=false):=by simp [Hid,stOk,hy,hm,hd]
    go_enter Tryz.func150,Tryz.ntmps150
    go_wp2
    go_quiet (first | (go_at_call 58; exact Calls.quiet_of_same (l1In_any _ _ _ _)) | (go_at_call 191; exact Calls.quiet_of_same (l6Days_any _ _ _ (by omega) (by omega))))
    go_wp2_with (go_at_call 58; refine (l1In_any _ _ _ _).mono ?_; rintro e w9 ⟨rfl,hw9⟩; rw [hw9]; clear hw9)
    go_ret
    exact ⟨ret_bool (unhide HP).symm,below_drewN ((Below.refl _ _).alloc (Nat.le_refl _) _) _⟩
   ·
    skip
    go_enter Tryz.func150,Tryz.ntmps150
    go_wp2
    go_quiet (first | (go_at_call 58; exact Calls.quiet_of_same (l1In_any _ _ _ _)) | (go_at_call 191; exact Calls.quiet_of_same (l6Days_any _ _ _ (by omega) (by omega))))
    cases hh:inB h 0 23
    ·
     have HP:Hid (stOk y mo d h mi s=false):=by simp [Hid,stOk,hy,hm,hd,hh]
     go_wp2_with (go_at_call 58; refine (l1In_any _ _ _ _).mono ?_; rintro e w9 ⟨rfl,hw9⟩; rw [hw9]; clear hw9)
     go_ret
     exact ⟨ret_bool (unhide HP).symm,below_drewN ((Below.refl _ _).alloc (Nat.le_refl _) _) _⟩
    ·
     skip
     cases hi:inB mi 0 59
     ·
      have HP:Hid (stOk y mo d h mi s=false):=by simp [Hid,stOk,hy,hm,hd,hh,hi]
      go_wp2_with (go_at_call 58; refine (l1In_any _ _ _ _).mono ?_; rintro e w9 ⟨rfl,hw9⟩; rw [hw9]; clear hw9)
      go_ret
      exact ⟨ret_bool (unhide HP).symm,below_drewN ((Below.refl _ _).alloc (Nat.le_refl _) _) _⟩
     ·
      skip
      cases hs:inB s 0 58
      ·
       have HP:Hid (stOk y mo d h mi s=false):=by simp [Hid,stOk,hy,hm,hd,hh,hi,hs]
       go_wp2_with (go_at_call 58; refine (l1In_any _ _ _ _).mono ?_; rintro e w9 ⟨rfl,hw9⟩; rw [hw9]; clear hw9)
       go_ret
       exact ⟨ret_bool (unhide HP).symm,below_drewN ((Below.refl _ _).alloc (Nat.le_refl _) _) _⟩
      ·
       skip
       obtain ⟨s0,s1⟩:=inB_true.1 hs
       have HP:Hid (stOk y mo d h mi s=(s%2 == 0)):=by simp [Hid,stOk,hy,hm,hd,hh,hi,hs]; rfl
       go_wp2_with (go_at_call 58; refine (l1In_any _ _ _ _).mono ?_; rintro e w9 ⟨rfl,hw9⟩; rw [hw9]; clear hw9)
       go_ret
       exact ⟨ret_bool (unhide HP).symm,below_drewN ((Below.refl _ _).alloc (Nat.le_refl _) _) _⟩
theorem daysI_bd (y m:Int):0≤daysI y m∧daysI y m≤31:=by
 unfold daysI daysN; split <;> (try split) <;> (try split) <;> (try split) <;> omega
theorem st_no {y mo d h mi s:Int} (k:y<1980∨2107<y∨d<1∨daysI y mo<d∨h<0∨23<h∨mi<0∨59<mi∨s<0∨58<s):stOk y mo d h mi s=false:=by
 cases e:stOk y mo d h mi s
 ·
  rfl
 ·
  simp only [stOk,Bool.and_eq_true,inB_true,decide_eq_true_eq] at e
  obtain ⟨ey,em,ed,eh,ei,es,_⟩:=e
  have:daysI y mo=daysN y mo:=by simp [daysI,inB_true.2 em]
  omega
theorem st_yes {y mo d h mi s:Int} (y0:1980≤y) (y1:y≤2107) (d0:1≤d) (h0:0≤h) (h1:h≤23) (m0:0≤mi) (m1:mi≤59) (s0:0≤s) (s1:s≤58) (_:True) (d1:d≤daysI y mo):stOk y mo d h mi s=(s%2 == 0):=by
 have em:inB mo 1 12=true:=by
  cases e:inB mo 1 12
  ·
   have:daysI y mo=0:=by simp [daysI,e]
   omega
  ·
   rfl
 have ed:daysI y mo=daysN y mo:=by simp [daysI,em]
 simp only [stOk,inB_true.2 ⟨y0,y1⟩,em,inB_true.2 ⟨d0,ed▸d1⟩,inB_true.2 ⟨h0,h1⟩,inB_true.2 ⟨m0,m1⟩,inB_true.2 ⟨s0,s1⟩,Bool.true_and]; rfl
set_option maxHeartbeats 4000000 in
theorem implStampOk_any (y mo d h mi s:Int) (w:World) :
  Calls Tryz.prog 94 #[.agg #[.int .i64 y,.int .i64 mo,.int .i64 d,.int .i64 h,.int .i64 mi,.int .i64 s]] w fun e w'=>e = .returned (.bool (stOk y mo d h mi s))∧Below w.heap.size w w':=by
 obtain ⟨D0,D1⟩:=daysI_bd y mo
 have HN:=hide (@st_no y mo d h mi s)
 generalize hD:daysI y mo=D at *
 have HQ:=hide hD
 clear hD
 rcases Int.lt_or_le y 1980 with x0 | x0
 ·
  have HP:Hid (stOk y mo d h mi s=false):=hide (unhide HN (by omega))
  have z0:decide (1980≤y)=false:=by simp; omega
  go_enter Tryz.func94,Tryz.ntmps94
  go_wp2
  go_quiet ((go_at_call 144; exact Calls.quiet_of_same ((monthDays_any _ _ _ (by omega) (by omega)).mono (by rintro e w9 ⟨rfl,hw9⟩; exact ⟨ret_int (unhide HQ),hw9⟩))))
  go_wp2
  go_ret
  exact ⟨ret_bool (unhide HP).symm,below_drewN ((Below.refl _ _).alloc (Nat.le_refl _) _) _⟩
 ·
  rcases Int.lt_or_le 2107 y with x1 | x1
  ·
   have HP:Hid (stOk y mo d h mi s=false):=hide (unhide HN (by omega))
   have z1:decide (y≤2107)=false:=by simp; omega
   go_enter Tryz.func94,Tryz.ntmps94
   go_wp2
   go_quiet ((go_at_call 144; exact Calls.quiet_of_same ((monthDays_any _ _ _ (by omega) (by omega)).mono (by rintro e w9 ⟨rfl,hw9⟩; exact ⟨ret_int (unhide HQ),hw9⟩))))
   go_wp2
   go_ret
   exact ⟨ret_bool (unhide HP).symm,below_drewN ((Below.refl _ _).alloc (Nat.le_refl _) _) _⟩
  ·
   rcases Int.lt_or_le d 1 with x2 | x2
   ·
    have HP:Hid (stOk y mo d h mi s=false):=hide (unhide HN (by omega))
    have z2:decide (1≤d)=false:=by simp; omega
    go_enter Tryz.func94,Tryz.ntmps94
    go_wp2
    go_quiet ((go_at_call 144; exact Calls.quiet_of_same ((monthDays_any _ _ _ (by omega) (by omega)).mono (by rintro e w9 ⟨rfl,hw9⟩; exact ⟨ret_int (unhide HQ),hw9⟩))))
    go_wp2
    go_ret
    exact ⟨ret_bool (unhide HP).symm,below_drewN ((Below.refl _ _).alloc (Nat.le_refl _) _) _⟩
   ·
    rcases Int.lt_or_le D d with x3 | x3
    ·
     have HP:Hid (stOk y mo d h mi s=false):=hide (unhide HN (by omega))
     have z3:decide (d≤D)=false:=by simp; omega
     go_enter Tryz.func94,Tryz.ntmps94
     go_wp2
     go_quiet ((go_at_call 144; exact Calls.quiet_of_same ((monthDays_any _ _ _ (by omega) (by omega)).mono (by rintro e w9 ⟨rfl,hw9⟩; exact ⟨ret_int (unhide HQ),hw9⟩))))
     go_wp2
     go_ret
     exact ⟨ret_bool (unhide HP).symm,below_drewN ((Below.refl _ _).alloc (Nat.le_refl _) _) _⟩
    ·
     go_enter Tryz.func94,Tryz.ntmps94
     go_wp2
     go_quiet ((go_at_call 144; exact Calls.quiet_of_same ((monthDays_any _ _ _ (by omega) (by omega)).mono (by rintro e w9 ⟨rfl,hw9⟩; exact ⟨ret_int (unhide HQ),hw9⟩))))
     rcases Int.lt_or_le h 0 with u0 | u0
     ·
      have HP:Hid (stOk y mo d h mi s=false):=hide (unhide HN (by omega))
      go_wp2
      go_ret
      exact ⟨ret_bool (unhide HP).symm,below_drewN ((Below.refl _ _).alloc (Nat.le_refl _) _) _⟩
     ·
      skip
      rcases Int.lt_or_le 23 h with u1 | u1
      ·
       have HP:Hid (stOk y mo d h mi s=false):=hide (unhide HN (by omega))
       go_wp2
       go_ret
       exact ⟨ret_bool (unhide HP).symm,below_drewN ((Below.refl _ _).alloc (Nat.le_refl _) _) _⟩
      ·
       skip
       rcases Int.lt_or_le mi 0 with u2 | u2
       ·
        have HP:Hid (stOk y mo d h mi s=false):=hide (unhide HN (by omega))
        go_wp2
        go_ret
        exact ⟨ret_bool (unhide HP).symm,below_drewN ((Below.refl _ _).alloc (Nat.le_refl _) _) _⟩
       ·
        skip
        rcases Int.lt_or_le 59 mi with u3 | u3
        ·
         have HP:Hid (stOk y mo d h mi s=false):=hide (unhide HN (by omega))
         go_wp2
         go_ret
         exact ⟨ret_bool (unhide HP).symm,below_drewN ((Below.refl _ _).alloc (Nat.le_refl _) _) _⟩
        ·
         skip
         rcases Int.lt_or_le s 0 with u4 | u4
         ·
          have HP:Hid (stOk y mo d h mi s=false):=hide (unhide HN (by omega))
          go_wp2
          go_ret
          exact ⟨ret_bool (unhide HP).symm,below_drewN ((Below.refl _ _).alloc (Nat.le_refl _) _) _⟩
         ·
          skip
          rcases Int.lt_or_le 58 s with u5 | u5
          ·
           have HP:Hid (stOk y mo d h mi s=false):=hide (unhide HN (by omega))
           go_wp2
           go_ret
           exact ⟨ret_bool (unhide HP).symm,below_drewN ((Below.refl _ _).alloc (Nat.le_refl _) _) _⟩
          ·
           skip
           have HP:Hid (stOk y mo d h mi s=(s%2 == 0)):=st_yes (by omega) (by omega) (by omega) (by omega) (by omega) (by omega) (by omega) (by omega) (by omega) trivial (by rw [unhide HQ]; omega)
           go_wp2
           go_ret
           exact ⟨ret_bool (unhide HP).symm,below_drewN ((Below.refl _ _).alloc (Nat.le_refl _) _) _⟩
theorem or_join' (i:Nat) (x y:Int) (h0:0≤x) (h1:x<2 ^ i) (h2:0≤y) (h3:y<9223372036854775808) (h4:x<9223372036854775808) (h:y%2 ^ i=0):bits .or .i64 x y=x+y:=by
 obtain ⟨a,rfl⟩:=Int.eq_ofNat_of_zero_le h0
 obtain ⟨b,rfl⟩:=Int.eq_ofNat_of_zero_le h2
 rw [i64_or_nat a b (by omega) (by omega),Nat.or_comm,nat_join i b a (by exact_mod_cast h) (by exact_mod_cast h1)]
 omega
def Six (w:World) (b:Nat) (y mo d h mi s:Int):Prop:=
 (w.cell? ⟨b,0,none⟩=some (.int .i64 y)∧w.cell? ⟨b,1,none⟩=some (.int .i64 mo)∧w.cell? ⟨b,2,none⟩=some (.int .i64 d)∧w.cell? ⟨b,3,none⟩=some (.int .i64 h)∧w.cell? ⟨b,4,none⟩=some (.int .i64 mi)∧w.cell? ⟨b,5,none⟩=some (.int .i64 s)) ∧
 (w.frozen? ⟨b,0,none⟩=false∧w.frozen? ⟨b,1,none⟩=false∧w.frozen? ⟨b,2,none⟩=false∧w.frozen? ⟨b,3,none⟩=false∧w.frozen? ⟨b,4,none⟩=false∧w.frozen? ⟨b,5,none⟩=false)∧b<w.heap.size
theorem six_alloc (w:World) (y mo d h mi s:Int) (t:TypeId):Six (w.alloc (.cells #[.int .i64 y,.int .i64 mo,.int .i64 d,.int .i64 h,.int .i64 mi,.int .i64 s] t)) w.heap.size y mo d h mi s:=by
 refine ⟨⟨?_,?_,?_,?_,?_,?_⟩,⟨?_,?_,?_,?_,?_,?_⟩,?_⟩ <;> simp
theorem Six.later {w w':World} {b B:Nat} {y mo d h mi s:Int} (k:Six w b y mo d h mi s) (hb:Below B w w') (hB:b<B):Six w' b y mo d h mi s:=by
 obtain ⟨⟨c0,c1,c2,c3,c4,c5⟩,⟨f0,f1,f2,f3,f4,f5⟩,hlt⟩:=k
 refine ⟨⟨?_,?_,?_,?_,?_,?_⟩,⟨?_,?_,?_,?_,?_,?_⟩,Nat.lt_of_lt_of_le hlt hb.size⟩
 ·
  exact (hb.cell (p:=⟨b,0,none⟩) hB).trans c0
 ·
  exact (hb.cell (p:=⟨b,1,none⟩) hB).trans c1
 ·
  exact (hb.cell (p:=⟨b,2,none⟩) hB).trans c2
 ·
  exact (hb.cell (p:=⟨b,3,none⟩) hB).trans c3
 ·
  exact (hb.cell (p:=⟨b,4,none⟩) hB).trans c4
 ·
  exact (hb.cell (p:=⟨b,5,none⟩) hB).trans c5
 ·
  exact (hb.frozen (p:=⟨b,0,none⟩) hB).trans f0
 ·
  exact (hb.frozen (p:=⟨b,1,none⟩) hB).trans f1
 ·
  exact (hb.frozen (p:=⟨b,2,none⟩) hB).trans f2
 ·
  exact (hb.frozen (p:=⟨b,3,none⟩) hB).trans f3
 ·
  exact (hb.frozen (p:=⟨b,4,none⟩) hB).trans f4
 ·
  exact (hb.frozen (p:=⟨b,5,none⟩) hB).trans f5
theorem set_keep {w:World} {b i j:Nat} {v:Value} {c:Option Value} (k:w.cell? ⟨b,j,none⟩=c) (h:i≠j):(w.setCell ⟨b,i,none⟩ v).cell? ⟨b,j,none⟩=c:=by
 rw [World.cell?_setCell_other _ _ _ _ (fun e=>h (by cases e; rfl))]; exact k
theorem Six.store {w:World} {b:Nat} {y mo d h mi s:Int} (k:Six w b y mo d h mi s) (y' mo' d' h' mi' s':Int) :
  Six ((((((w.setCell ⟨b,0,none⟩ (.int .i64 y')).setCell ⟨b,1,none⟩ (.int .i64 mo')).setCell ⟨b,2,none⟩ (.int .i64 d')).setCell ⟨b,3,none⟩ (.int .i64 h')).setCell ⟨b,4,none⟩ (.int .i64 mi')).setCell ⟨b,5,none⟩ (.int .i64 s')) b y' mo' d' h' mi' s':=by
 obtain ⟨⟨c0,c1,c2,c3,c4,c5⟩,⟨f0,f1,f2,f3,f4,f5⟩,hlt⟩:=k
 refine ⟨⟨?_,?_,?_,?_,?_,?_⟩,⟨?_,?_,?_,?_,?_,?_⟩,?_⟩
 ·
  exact set_keep (set_keep (set_keep (set_keep (set_keep (World.cell?_setCell_same _ _ _ c0) (by decide)) (by decide)) (by decide)) (by decide)) (by decide)
 ·
  exact set_keep (set_keep (set_keep (set_keep (World.cell?_setCell_same _ _ _ (set_keep c1 (by decide))) (by decide)) (by decide)) (by decide)) (by decide)
 ·
  exact set_keep (set_keep (set_keep (World.cell?_setCell_same _ _ _ (set_keep (set_keep c2 (by decide)) (by decide))) (by decide)) (by decide)) (by decide)
 ·
  exact set_keep (set_keep (World.cell?_setCell_same _ _ _ (set_keep (set_keep (set_keep c3 (by decide)) (by decide)) (by decide))) (by decide)) (by decide)
 ·
  exact set_keep (World.cell?_setCell_same _ _ _ (set_keep (set_keep (set_keep (set_keep c4 (by decide)) (by decide)) (by decide)) (by decide))) (by decide)
 ·
  exact World.cell?_setCell_same _ _ _ (set_keep (set_keep (set_keep (set_keep (set_keep c5 (by decide)) (by decide)) (by decide)) (by decide)) (by decide))
 ·
  simpa using f0
 ·
  simpa using f1
 ·
  simpa using f2
 ·
  simpa using f3
 ·
  simpa using f4
 ·
  simpa using f5
 ·
  simpa using hlt
theorem six_below {B:Nat} {a w:World} {b:Nat} (k:Below B a w) (hb:B≤b) (v0 v1 v2 v3 v4 v5:Value):Below B a ((((((w.setCell ⟨b,0,none⟩ v0).setCell ⟨b,1,none⟩ v1).setCell ⟨b,2,none⟩ v2).setCell ⟨b,3,none⟩ v3).setCell ⟨b,4,none⟩ v4).setCell ⟨b,5,none⟩ v5):=
 below_set (below_set (below_set (below_set (below_set (below_set k hb _) hb _) hb _) hb _) hb _) hb _
def stN (y mo d h mi s:Int):Int:=(((((y-1980)*16+mo)*32+d)*32+h)*64+mi)*32+s/2
def gS (n:Int):Int:=2*(n%32)
def gI (n:Int):Int:=n/32%64
def gH (n:Int):Int:=n/2048%32
def gD (n:Int):Int:=n/65536%32
def gM (n:Int):Int:=n/2097152%16
def gY (n:Int):Int:=n/33554432+1980
theorem l6Get_any (n:Int) (w:World) (h0:0≤n) (h1:n≤4294967295) :
  Calls Tryz.prog 104 #[.int .i64 n] w fun e w'=>e = .returned (.agg #[.int .i64 (gY n),.int .i64 (gM n),.int .i64 (gD n),.int .i64 (gH n),.int .i64 (gI n),.int .i64 (gS n)])∧Below w.heap.size w w':=by
 go_enter Tryz.func104,Tryz.ntmps104
 go_wp2
 refine bodyPost_ret (v:=.agg #[.int .i64 (n/32/64/32/32/16+1980),.int .i64 (n/32/64/32/32%16),.int .i64 (n/32/64/32%32),.int .i64 (n/32/64%32),.int .i64 (n/32%64),.int .i64 (2*(n%32))]) (by simp [results,Tryz.results104,go_sem]) rfl ⟨?_,?_⟩
 ·
  have e0:n/32/64/32/32/16+1980=gY n:=by unfold gY; omega
  have e1:n/32/64/32/32%16=gM n:=by unfold gM; omega
  have e2:n/32/64/32%32=gD n:=by unfold gD; omega
  have e3:n/32/64%32=gH n:=by unfold gH; omega
  rw [e0,e1,e2,e3]; rfl
 ·
  exact ((Below.refl _ _).alloc (Nat.le_refl _) _).alloc (by simp) _
def gOk (n:Int):Bool:=inB n 0 4294967295&&stOk (gY n) (gM n) (gD n) (gH n) (gI n) (gS n)
def zz (b:Bool) (x:Int):Int:=if b then x else 0
def stG (n:Int):Value:=.agg #[.int .i64 (zz (gOk n) (gY n)),.int .i64 (zz (gOk n) (gM n)),.int .i64 (zz (gOk n) (gD n)),.int .i64 (zz (gOk n) (gH n)),.int .i64 (zz (gOk n) (gI n)),.int .i64 (zz (gOk n) (gS n))]
theorem stG_no {n:Int} (h:gOk n=false):stG n = .agg #[.int .i64 0,.int .i64 0,.int .i64 0,.int .i64 0,.int .i64 0,.int .i64 0]:=by simp [stG,h,zz]
theorem stG_yes {n:Int} (h:gOk n=true):stG n = .agg #[.int .i64 (gY n),.int .i64 (gM n),.int .i64 (gD n),.int .i64 (gH n),.int .i64 (gI n),.int .i64 (gS n)]:=by simp [stG,h,zz]
end Go.Proofs.YtkdlcomfpffhhaaGreatDoor
namespace Go.Proofs.YtkdlcomfpffhhaaGreatDoor
open Go.RowKit Corb
def TabTo (w:World) (b k:Nat):Prop:=
 (∀ j,j<16→w.cell? ⟨b,j,none⟩=some (.int .u32 ((if j<k then shN 4 j else 0:Nat):Int))∧w.frozen? ⟨b,j,none⟩=false)∧b<w.heap.size
theorem TabTo.set {w:World} {b k:Nat} (h:TabTo w b k) (hk:k<16):TabTo (w.setCell ⟨b,k,none⟩ (.int .u32 (shN 4 k:Nat))) b (k+1):=by
 refine ⟨fun j hj=>⟨?_,by simpa using (h.1 j hj).2⟩,by simpa using h.2⟩
 by_cases e:j=k
 ·
  subst e
  rw [World.cell?_setCell_same _ _ _ (h.1 j hj).1]; simp
 ·
  rw [World.cell?_setCell_other _ _ _ _ (by simp only [ne_eq,Addr.mk.injEq]; omega),(h.1 j hj).1]
  by_cases l:j<k
  ·
   rw [if_pos l,if_pos (by omega)]
  ·
   rw [if_neg l,if_neg (by omega)]
theorem tab_zero (w:World) (t:TypeId):TabTo (w.alloc (.cells (Array.replicate 16 (.int .u32 0)) t)) w.heap.size 0:=by
 refine ⟨fun j hj=>⟨?_,by simp⟩,by simp⟩
 simp [hj]
set_option maxHeartbeats 800000 in
theorem crcTable_any (w:World) :
  Calls Tryz.prog 147 #[] w fun e w'=>e = .returned (.func (.func 189) #[] #[.pointer (some ⟨w.heap.size,0,none⟩)])∧TabTo w' w.heap.size 16∧Below w.heap.size w w':=by
 have hz:=tab_zero w 268
 go_enter Tryz.func147,Tryz.ntmps147
 go_wp2_with fail
 go_loopw [3] (fun i wr=>∃ k:Nat,k≤16∧i = .int .i64 k∧TabTo wr w.heap.size k∧Below w.heap.size w wr) (fun i _=>16-(intOf i).toNat)
 case atStart=>exact ⟨0,by omega,rfl,hz,(Below.refl _ _).alloc (Nat.le_refl _) _⟩
 case round=>
  obtain ⟨k,hk,rfl,htab,hbel⟩:=hrel
  have hk':(k:Int)≤16:=by omega
  clear hk hz
  by_cases hlt:(k:Int)<16
  ·
   obtain ⟨hc,hf⟩:=htab.1 k (by omega)
   have hset:=htab.set (by omega)
   go_wp2_with (go_at_call 188; refine (crcShift_any _ _ _ (by omega) (by omega) (by omega) (by omega)).mono ?_; rintro e w' ⟨rfl,rfl⟩)
   go_roundw
   case rel=>exact ⟨k+1,by omega,by go_num,hset,below_set hbel (Nat.le_refl _) _⟩
   case measure=>simp [intOf]; omega
  ·
   have hke:k=16:=by omega
   subst hke
   go_wp2
   go_ret
   exact ⟨rfl,htab,hbel⟩
theorem crcHalf_any (b:Nat) (i:Int) (w:World) (h:TabTo w b 16) (i0:0≤i) (i1:i<16) :
  Calls Tryz.prog 189 #[.int .u32 i,.pointer (some ⟨b,0,none⟩)] w fun e w'=>e = .returned (.int .u32 (shN 4 i.toNat:Nat))∧w'=w:=by
 obtain ⟨k,rfl⟩:=Int.eq_ofNat_of_zero_le i0
 rw [Int.toNat_natCast]
 obtain ⟨hc,_⟩:=h.1 k (by omega)
 rw [if_pos (by omega)] at hc
 go_enter Tryz.func189,Tryz.ntmps189
 go_wp2
 go_ret
 exact ⟨rfl,rfl⟩
theorem two_newA (w:World) (v0 v1:Value) (t:TypeId):Two (w.alloc (.cells #[v0,v1] t)) w.heap.size v0 v1:=by
 refine ⟨by simp,by simp,by simp,by simp,by simp⟩
end Go.Proofs.YtkdlcomfpffhhaaGreatDoor
