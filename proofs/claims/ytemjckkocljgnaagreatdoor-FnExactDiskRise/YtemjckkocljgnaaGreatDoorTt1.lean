/- Contracts of the model's texts that tokens make, over this seat's program. -/
import Derived.Test.YtemjckkocljgnaaGreatDoorM11
import Derived.Test.YtemjckkocljgnaaGreatDoorM9
import Derived.Test.YtemjckkocljgnaaGreatDoorM3
import Derived.Deep.RegionHeld3
import Derived.Deep.RegionLawGrows
import Derived.Test.YtemjckkocljgnaaGreatDoorM2
namespace Go.Proofs.YtemjckkocljgnaaGreatDoor
open Go.RowKit
set_option maxRecDepth 100000
theorem grown_cell {W x1:World} {v u:Value} {k o:Nat} (hg:W.grownBy x1 v.ownBlock) (hv:∀ g,v.ownBlock=some g→g<k) (hc:W.cell? ⟨k,o,none⟩=some u):x1.cell? ⟨k,o,none⟩=some u:=
 hg.cell hc (fun e=>by have:=hv k e.symm; omega)
theorem row_below {w:World} {base size n:Nat} {e:TypeId} {v:Value} {xs:List Value} (h:w.ownsRow base e size v n xs):∀ g,v.ownBlock=some g→g<w.heap.size:=fun g hg=>(World.ownsRow.lt h g hg).2
set_option maxHeartbeats 3200000 in
theorem l4Add_byte (base n cap:Nat) (a:Option Addr) (s:List UInt8) (t:Tk) (w:World) (hn:s.length=n) (h:BOwn w base (.slice a n cap) s) (hm:n≤100000) (hb:base≤w.heap.size) (h0:t.2.1=0) :
  Calls Tryz.prog 165 #[.slice a n cap,.agg #[.int .i64 t.1,.int .i64 t.2.1,.int .i64 t.2.2]] w fun e w'=>∃ v x,e = .returned (.tuple #[v,.bool (isB t)])∧BOwn w' base v x∧(isB t=true→x=s++[byteT t.1])∧Below base w w':=by
 obtain ⟨i0,hi,hz0,hz1,hz2⟩:=info_parts Tryz.infoU8
 obtain ⟨x,y,z⟩:=t
 simp only at h0
 subst h0
 simp only
 have hmI:(n:Int)≤100000:=by omega
 have HS:∃ X:Int,IntKind.u8.wrap x=X:=⟨_,rfl⟩
 obtain ⟨X,hX⟩:=HS
 have hXb:0≤X∧X≤255:=by rw [←hX]; simp [IntKind.wrap,IntKind.bits,IntKind.signed]; omega
 have hXe:Hid (isB (x,0,z)=true→(byteT X)=byteT x):=by
  intro hB
  simp only [isB,Bool.and_eq_true,decide_eq_true_eq] at hB
  have:=inB_true.1 hB.2.1
  have e:X=x:=by rw [←hX]; simp [IntKind.wrap,IntKind.bits,IntKind.signed]; omega
  rw [e]
 have hisB:Hid (isB (x,0,z)=(inB x 0 255&&decide (z=0))):=by show _=_; simp [isB]
 have HN:=hide hn
 have hR:World.ownsRow ((w.alloc (.cells #[.int .i64 x,.int .i64 0,.int .i64 z] 226)).alloc (.cells #[.int .u8 X] 5)).drew base 5 1 (.slice a n cap) n (bcells s):=World.ownsRow.alloc (World.ownsRow.alloc (h.own hn) _) _
 have hNw:=hide (one_new (w.alloc (.cells #[.int .i64 x,.int .i64 0,.int .i64 z] 226)) (w.heap.size+1) (by simp) (.int .u8 X) 5)
 have hB2:Below base w ((w.alloc (.cells #[.int .i64 x,.int .i64 0,.int .i64 z] 226)).alloc (.cells #[.int .u8 X] 5)).drew:=((((Below.refl base w).alloc hb _).alloc (by simp; omega) _)).drew
 have hblk:∀ g,(Value.slice a n cap).ownBlock=some g→g<w.heap.size:=row_below (h.own hn)
 have bd:Hid (n+1≤maxLen∧(n+1)*1≤140737488355328):=by show _∧_; unfold maxLen; omega
 have c00:(w.alloc (.cells #[.int .i64 x,.int .i64 0,.int .i64 z] 226)).drew.cell? ⟨w.heap.size,0,none⟩=some (.int .i64 x):=by show (w.alloc (.cells #[.int .i64 x,.int .i64 0,.int .i64 z] 226)).cell? ⟨w.heap.size,0,none⟩=some (.int .i64 x); simp
 have c02:(w.alloc (.cells #[.int .i64 x,.int .i64 0,.int .i64 z] 226)).drew.cell? ⟨w.heap.size,2,none⟩=some (.int .i64 z):=by show (w.alloc (.cells #[.int .i64 x,.int .i64 0,.int .i64 z] 226)).cell? ⟨w.heap.size,2,none⟩=some (.int .i64 z); simp
 have e00:((w.alloc (.cells #[.int .i64 x,.int .i64 0,.int .i64 z] 226)).alloc (.cells #[.int .u8 X] 5)).drew.cell? ⟨w.heap.size,0,none⟩=some (.int .i64 x):=by show ((w.alloc (.cells #[.int .i64 x,.int .i64 0,.int .i64 z] 226)).alloc (.cells #[.int .u8 X] 5)).cell? ⟨w.heap.size,0,none⟩=some (.int .i64 x); simp
 have e02:((w.alloc (.cells #[.int .i64 x,.int .i64 0,.int .i64 z] 226)).alloc (.cells #[.int .u8 X] 5)).drew.cell? ⟨w.heap.size,2,none⟩=some (.int .i64 z):=by show ((w.alloc (.cells #[.int .i64 x,.int .i64 0,.int .i64 z] 226)).alloc (.cells #[.int .u8 X] 5)).cell? ⟨w.heap.size,2,none⟩=some (.int .i64 z); simp
 have HC0:=And.intro c00 c02
 have HC1:=And.intro e00 e02
 clear h hn hm c00 c02 e00 e02
 cases hc:inB x 0 255
 ·
  rw [hc] at hisB
  go_enter Tryz.func165,Tryz.ntmps165
  go_wp2_with fail
  first | (go_region_law (first | (refine step_append_own rfl (.tmp 10) (.tmp 14) 65 rfl base 5 i0 (.int .u8 0) 1 1 Tryz.underlying65 hi hz0 hz1 hz2 rfl (Nat.zero_lt_succ 0) (.slice a n cap) _ _ rfl hR ⟨w.heap.size+1,0,none⟩ 1 1 [.int .u8 X] rfl rfl (unhide hNw) (one_byte _) (unhide bd).1 (unhide bd).2 (Nat.le_trans hb hB2.size) ?_; intro v' x5 hown hgrow hnil; clear hnil; have hC5:=grown_cell hgrow hblk HC1.1; have hC6:=grown_cell hgrow hblk HC1.2) | (go_simp; go_at_call 30; refine (l1In_any _ _ _ _).mono ?_; rintro e y5 ⟨rfl,hy5⟩; rw [hy5,hc]; clear hy5))) | fail
  all_goals
   clear hNw HC0 HC1
   have hbel:Below base w x5:=hB2.grown hgrow (Nat.le_trans hb hB2.size) (fun g hg=>(World.ownsRow.lt hR g hg).1)
   have hq:BOwn x5 base v' (s++[byteT X]):=bown_snoc (unhide HN) (by rw [byteT_nat hXb.1 hXb.2]; exact hown)
   obtain ⟨va,vc,rfl⟩:=hq.form
   clear hown hgrow
   go_wp2
   go_ret2
   exact ⟨_,_,by rw [unhide hisB]; rfl,hq,fun hB=>by rw [unhide hXe hB],hbel⟩
 ·
  rw [hc] at hisB
  by_cases hz:z=0
  ·
   subst hz
   go_enter Tryz.func165,Tryz.ntmps165
   go_wp2_with fail
   first | (go_region_held3 (fun W=>W.cell? ⟨w.heap.size,0,none⟩=some (.int .i64 x)∧W.cell? ⟨w.heap.size,2,none⟩=some (.int .i64 0)) (first | exact HC0 | assumption | exact HC1) (first
    | (go_at_call 30; refine (l1In_any _ _ _ _).mono ?_; rintro e y5 ⟨rfl,hy5⟩; rw [hy5,hc]; clear hy5)
    | (refine step_append_own rfl (.tmp 10) (.tmp 14) 65 rfl base 5 i0 (.int .u8 0) 1 1 Tryz.underlying65 hi hz0 hz1 hz2 rfl (Nat.zero_lt_succ 0) (.slice a n cap) _ _ rfl hR ⟨w.heap.size+1,0,none⟩ 1 1 [.int .u8 X] rfl rfl (unhide hNw) (one_byte _) (unhide bd).1 (unhide bd).2 (Nat.le_trans hb hB2.size) ?_; intro v' x5 hown hgrow hnil; clear hnil; have hC5:=And.intro (grown_cell hgrow hblk HC1.1) (grown_cell hgrow hblk HC1.2)))) | fail
   clear hNw HC0 HC1
   have hbel:Below base w x5:=hB2.grown hgrow (Nat.le_trans hb hB2.size) (fun g hg=>(World.ownsRow.lt hR g hg).1)
   have hq:BOwn x5 base v' (s++[byteT X]):=bown_snoc (unhide HN) (by rw [byteT_nat hXb.1 hXb.2]; exact hown)
   obtain ⟨va,vc,rfl⟩:=hq.form
   clear hown hgrow
   go_wp2
   go_ret2
   exact ⟨_,_,by rw [unhide hisB]; rfl,hq,fun hB=>by rw [unhide hXe hB],hbel⟩
  ·
   have hzb:(z == 0)=false:=by simpa using hz
   go_enter Tryz.func165,Tryz.ntmps165
   go_wp2_with fail
   first | (go_region_held3 (fun W=>W.cell? ⟨w.heap.size,0,none⟩=some (.int .i64 x)∧W.cell? ⟨w.heap.size,2,none⟩=some (.int .i64 z)) (first | exact HC0 | assumption | exact HC1) (first
    | (go_at_call 30; refine (l1In_any _ _ _ _).mono ?_; rintro e y5 ⟨rfl,hy5⟩; rw [hy5,hc]; clear hy5)
    | (refine step_append_own rfl (.tmp 10) (.tmp 14) 65 rfl base 5 i0 (.int .u8 0) 1 1 Tryz.underlying65 hi hz0 hz1 hz2 rfl (Nat.zero_lt_succ 0) (.slice a n cap) _ _ rfl hR ⟨w.heap.size+1,0,none⟩ 1 1 [.int .u8 X] rfl rfl (unhide hNw) (one_byte _) (unhide bd).1 (unhide bd).2 (Nat.le_trans hb hB2.size) ?_; intro v' x5 hown hgrow hnil; clear hnil; have hC5:=And.intro (grown_cell hgrow hblk HC1.1) (grown_cell hgrow hblk HC1.2)))) | fail
   clear hNw HC0 HC1
   have hbel:Below base w x5:=hB2.grown hgrow (Nat.le_trans hb hB2.size) (fun g hg=>(World.ownsRow.lt hR g hg).1)
   have hq:BOwn x5 base v' (s++[byteT X]):=bown_snoc (unhide HN) (by rw [byteT_nat hXb.1 hXb.2]; exact hown)
   obtain ⟨va,vc,rfl⟩:=hq.form
   clear hown hgrow
   go_wp2
   go_ret2
   exact ⟨_,_,by rw [unhide hisB]; simp [hz],hq,fun hB=>by rw [unhide hXe hB],hbel⟩
end Go.Proofs.YtemjckkocljgnaaGreatDoor
