/- Of what the proof is made: 3 texts, one behind the other. -/
import Derived.Test.YtkdlcomfpffhhaaGreatDoorM8
import Derived.Test.YtkdlcomfpffhhaaGreatDoorM5
import Derived.Laws.Bits64b
import Derived.Laws.CopyOwn
import Derived.Deep.RegionLaw
import Derived.Test.YtkdlcomfpffhhaaGreatDoorTi1
import Derived.Deep.RegionHeld3
import Derived.Deep.RegionLawGrows
import Derived.Test.YtkdlcomfpffhhaaGreatDoorM10
import Derived.Test.YtkdlcomfpffhhaaGreatDoorM3
import Derived.Test.YtkdlcomfpffhhaaGreatDoorM2
namespace Go.Proofs.YtkdlcomfpffhhaaGreatDoor
open Go.RowKit
theorem and_mask (c:Nat) (hc:(c:Int)≤1000):bits .and .u64 (c:Int) 4294967295=(c:Int):=by
 have h:=Go.bits_and_u64_nat c 4294967295 (by omega) (by decide)
 have e:c &&& 4294967295=c:=by
  have:=Nat.and_two_pow_sub_one_eq_mod c 32
  rw [show (2 ^ 32-1:Nat)=4294967295 by decide] at this
  rw [this]; omega
 rw [e] at h
 exact h
theorem wrap_small (c:Nat) (hc:(c:Int)≤1000):IntKind.u64.wrap (c:Int)=(c:Int):=by
 simp only [IntKind.wrap,IntKind.signed,IntKind.bits]
 simp
 omega
set_option maxHeartbeats 1600000 in
theorem mul64_one (c:Nat) (w:World) (hc:(c:Int)≤1000) :
  Calls Tryz.prog 200 #[.int .u64 1,.int .u64 (c:Nat)] w fun e w'=>e = .returned (.tuple #[.int .u64 0,.int .u64 (c:Nat)])∧w'=w:=by
 have e1:bits .and .u64 1 4294967295=1:=by decide +kernel
 have e0:bits .and .u64 0 4294967295=0:=by decide +kernel
 have e2:=and_mask c hc
 have e3:(c:Int)/4294967296=0:=by omega
 have e4:=wrap_small c hc
 go_enter Tryz.func200,Tryz.ntmps200
 go_wp2
 go_ret2
 exact ⟨rfl,rfl⟩
theorem mul_one (c:Nat) (w:World) (hc:(c:Int)≤1000) :
  Calls Tryz.prog 161 #[.int .u64 1,.int .u64 (c:Nat)] w fun e w'=>e = .returned (.tuple #[.int .u64 0,.int .u64 (c:Nat)])∧w'=w:=by
 go_enter Tryz.func161,Tryz.ntmps161
 go_wp2_with (go_at_call 200; refine (mul64_one c _ hc).mono ?_; rintro e w' ⟨rfl,hw⟩; rw [hw]; clear hw)
 go_ret2
 exact ⟨rfl,rfl⟩
theorem own_full {w:World} {base g n:Nat} {e:TypeId} {xs:List Value} (h:w.ownsRow base e 1 (.slice (some ⟨g,0,none⟩) n n) n xs):w.heap[g]?=some (.cells xs.toArray e (0,0)):=by
 rcases h.2 with ⟨e,_⟩ | ⟨g',cap,cur,e',_,hg,_,_,hs,ht⟩
 ·
  cases e
 ·
  simp only [Value.slice.injEq,Option.some.injEq,Addr.mk.injEq,and_true] at e'
  obtain ⟨rfl,-,rfl⟩:=e'
  rw [List.take_of_length_le (by simp; omega)] at ht
  rw [hg,←ht]
theorem full_own {w:World} {base g n:Nat} {e:TypeId} {xs:List Value} (h:w.heap[g]?=some (.cells xs.toArray e (0,0))) (hn:xs.length=n) (hb:base≤g) (hm:n≤maxLen):w.ownsRow base e 1 (.slice (some ⟨g,0,none⟩) n n) n xs:=
 ⟨by omega,.inr ⟨g,n,xs.toArray,rfl,hb,h,Nat.le_refl _,hm,by simp; omega,by simp; exact List.take_of_length_le (by omega)⟩⟩
def fillV (v:Int) (k c:Nat):List Value:=List.replicate k (.int .i64 v)++List.replicate (c-k) (.int .i64 0)
theorem fillV_len (v:Int) (k c:Nat) (h:k≤c):(fillV v k c).length=c:=by simp [fillV]; omega
theorem fill_splice (v:Int) (k m c:Nat) (h:k+m≤c):splice (fillV v k c) k (List.replicate m (.int .i64 v))=fillV v (k+m) c:=by
 unfold splice fillV
 rw [List.take_append_of_le_length (by simp),List.take_of_length_le (by simp),List.drop_append,List.drop_of_length_le (by simp)]
 simp only [List.length_replicate,List.drop_replicate,List.nil_append]
 rw [←List.append_assoc,List.replicate_append_replicate]
 congr 2
 omega
theorem fill_cell {w:World} {g k c:Nat} {v:Int} {e:TypeId} (h:w.heap[g]?=some (.cells (fillV v k c).toArray e (0,0))) (j:Nat) (hj:j<k):w.cell? ((⟨g,0,none⟩:Addr).add j)=some (.int .i64 v):=by
 have e1:(⟨g,0,none⟩:Addr).add j=⟨g,j,none⟩:=by unfold Addr.add; split <;> simp_all
 rw [e1]
 simp only [World.cell?,h,fillV]
 simp [List.getElem?_append,hj]
theorem repl_get (v:Int) (m j:Nat) (u:Value) (h:(List.replicate m (Value.int .i64 v))[j]?=some u):j<m∧u = .int .i64 v:=by
 rw [List.getElem?_replicate] at h
 by_cases hj:j<m
 ·
  rw [if_pos hj] at h; exact ⟨hj,(Option.some.inj h).symm⟩
 ·
  rw [if_neg hj] at h; cases h
theorem repl_one (v:Int) (m:Nat):∀ u∈List.replicate m (Value.int .i64 v),u.oneCell'=true:=by
 intro u hu
 rw [(List.mem_replicate.1 hu).2]; rfl
theorem made_zero (n:Nat):(madeCells (Value.int .i64 0).cells (n*1)).toList=fillV 0 0 n:=by
 unfold fillV
 simp only [List.replicate_zero,List.nil_append,Nat.sub_zero,Nat.mul_one]
 apply List.ext_getElem?
 intro i
 by_cases hi:i<n
 ·
  rw [List.getElem?_replicate,if_pos hi,List.getElem?_eq_getElem (by simpa [madeCells] using hi)]
  simp [madeCells,Value.cells,Nat.mod_one]
 ·
  rw [List.getElem?_eq_none (by simp [madeCells]; omega),List.getElem?_eq_none (by simp; omega)]
set_option maxRecDepth 100000 in
set_option maxHeartbeats 1600000 in
theorem repeat_one (v:Int) (c cap g o:Nat) (w:World) (hv:w.cell? ⟨g,o,none⟩=some (.int .i64 v)) (h1:1≤c) (hc:(c:Int)≤1000) :
  Calls Tryz.prog 115 #[.slice (some ⟨g,o,none⟩) 1 cap,.int .i64 (c:Nat)] w fun e w'=>e = .returned (.slice (some ⟨w.heap.size,0,none⟩) c c)∧IOwn w' w.heap.size (.slice (some ⟨w.heap.size,0,none⟩) c c) (List.replicate c v)∧Below w.heap.size w w':=by
 obtain ⟨i0,hi,hz0,hz1,hz2⟩:=info_parts Tryz.infoInt
 have hg:g<w.heap.size:=World.block_lt_of_cell? _ _ hv
 have hw1:=wrap_small c hc
 have hzs:(Tryz.prog.info? 3).map (·.size)=some 1:=by kernel_rfl
 have hn1:([.int .i64 v]:List Value).length=Nat.min 1 c:=by show 1=min 1 c; omega
 have hf1:0+([.int .i64 v]:List Value).length≤(fillV v 0 c).length:=by rw [fillV_len v 0 c (by omega)]; simpa using h1
 have ho1:∀ u∈([.int .i64 v]:List Value),u.oneCell'=true:=by intro u hu; simp at hu; subst hu; rfl
 have HP:Hid (∀ w1:World,w1.cell? ⟨g,o,none⟩=some (.int .i64 v)→∀ (j:Nat) (u:Value),([.int .i64 v]:List Value)[j]?=some u→w1.cell? ((⟨g,o,none⟩:Addr).add j)=some u):=by
  intro w1 h j u hj
  match j,hj with
  | 0,hj=>simp at hj; subst hj; simpa [Addr.add] using h
 have Hn1:=hide hn1
 have Hf1:=hide hf1
 clear hn1 hf1
 go_enter Tryz.func115,Tryz.ntmps115
 go_wp2_with (first
  | (at_make; refine wpList_make_full _ rfl _ _ 146 rfl w.heap.size 3 i0 (.int .i64 0) 1 Tryz.underlying146 hi hz0 hz1 .i64 .i64 _ _ c rfl rfl rfl rfl (by rw [hz2]; omega) (by unfold maxLen; omega) (Nat.le_refl _) ?_; intro w1 hown hgrow; rw [made_zero] at hown; have hblk:=own_full hown; have hb0:Below w.heap.size w w1:=(Below.refl _ _).grown hgrow (Nat.le_refl _) (fun k h=>by cases h); have hv1:=(hb0.cell (p:=⟨g,o,none⟩) hg).trans hv; clear hown hgrow)
  | (refine wpList_copy_splice rfl (.tmp 31) (.tmp 32) 146 146 rfl 3 Tryz.underlying146 hzs _ _ _ _ _ _ rfl rfl w.heap.size 0 (fillV v 0 c) 3 hblk [.int .i64 v] (unhide Hn1) (fun _=>⟨rfl,⟨g,o,none⟩,rfl,unhide HP _ hv1⟩) (unhide Hf1) ho1 w.heap.size w hb0 (Nat.le_refl _) ?_; intro w2 hg2 hb2)
  | (go_at_call 161; refine (mul_one c _ hc).mono ?_; rintro e w' ⟨rfl,hw⟩; rw [hw]; clear hw))
 have hg2':w2.heap[w.heap.size]?=some (.cells (fillV v 1 c).toArray 3 (0,0)):=by
  have:=unhide hg2
  rw [show ([.int .i64 v]:List Value)=List.replicate 1 (.int .i64 v) from rfl,fill_splice v 0 1 c (by omega)] at this
  simpa using this
 clear hg2 hv1 hblk hb0
 go_loopw [8] (fun n wr=>∃ k:Nat,1≤k∧k≤c∧n = .int .i64 k∧wr.heap[w.heap.size]?=some (.cells (fillV v k c).toArray 3 (0,0))∧Below w.heap.size w wr) (fun n _=>c-(intOf n).toNat)
 case atStart=>exact ⟨1,Nat.le_refl _,h1,rfl,hg2',hb2⟩
 case round=>
  obtain ⟨k,hk1,hkc,rfl,hgk,hbk⟩:=hrel
  clear hg2' hb2
  by_cases hlt:k<c
  ·
   have hkI:(k:Int)<(c:Int):=by omega
   obtain ⟨m,hm⟩:∃ m,m=Nat.min k (c-k):=⟨_,rfl⟩
   have hmk:m≤k:=by rw [hm]; exact Nat.min_le_left _ _
   have hmc:k+m≤c:=by
    have:m≤c-k:=by rw [hm]; exact Nat.min_le_right _ _
    omega
   have hm1:1≤m:=by
    have:m=min k (c-k):=hm
    omega
   have Hn2:Hid ((List.replicate m (Value.int .i64 v)).length=Nat.min k (c-k)):=by show _=_; rw [List.length_replicate]; exact hm
   have Hs2:Hid (∀ (j:Nat) (u:Value),(List.replicate m (Value.int .i64 v))[j]?=some u→wr.cell? ((⟨w.heap.size,0,none⟩:Addr).add j)=some u):=by
    intro j u hj
    obtain ⟨h1,rfl⟩:=repl_get v m j u hj
    exact fill_cell hgk j (by omega)
   have Hf2:Hid (k+(List.replicate m (Value.int .i64 v)).length≤(fillV v k c).length):=by show _≤_; rw [fillV_len v k c (by omega),List.length_replicate]; exact hmc
   have Hsp:=hide (fill_splice v k m c hmc)
   have HM:=hide (And.intro hmk (And.intro hmc hm1))
   have hmI:(k:Int)+(m:Int)≤1000:=by omega
   have HGK:=hide hgk
   have HBK:=hide hbk
   have hck:¬ c=k:=by omega
   clear hm hmk hmc hm1 hgk hbk
   go_wp2_with fail
   go_region_law (first | (refine step_copy_splice rfl (.tmp 41) (.tmp 44) 146 146 rfl 3 Tryz.underlying146 hzs (some ⟨w.heap.size,k,none⟩) (some ⟨w.heap.size,0,none⟩) (c-k) (c-k) k c (by simp [Act.eval,Act.put]) (by simp [Act.eval,Act.put]) w.heap.size k (fillV v k c) 3 (unhide HGK) (List.replicate m (.int .i64 v)) (unhide Hn2) (fun _=>⟨rfl,⟨w.heap.size,0,none⟩,rfl,unhide Hs2⟩) (unhide Hf2) (repl_one v m) w.heap.size w (unhide HBK).drew (Nat.le_refl _) ?_; intro w3 hg3 hb3))
   rw [unhide Hsp] at hg3
   have HG3:=hide (unhide hg3)
   have HB3:=hide hb3
   clear hg3 hb3
   have hwr:=wrap_id ((k:Int)+(m:Int)) (by omega) (by omega)
   go_simp
   go_wp2
   go_roundw
   case rel=>exact ⟨k+m,by omega,(unhide HM).2.1,by go_num,unhide HG3,unhide HB3⟩
   case measure=>have:=unhide HM; simp [intOf]; omega
  ·
   have:k=c:=by omega
   subst this
   have HO:Hid (IOwn wr w.heap.size (.slice (some ⟨w.heap.size,0,none⟩) k k) (List.replicate k v)):=by
    show World.ownsRow _ _ _ _ _ (List.replicate k v).length _
    rw [List.length_replicate]
    refine full_own ?_ (by simp) (Nat.le_refl _) (by unfold maxLen; omega)
    rw [hgk]
    simp [fillV]
   clear hgk
   go_wp2
   go_ret
   exact ⟨rfl,unhide HO,hbk⟩
end Go.Proofs.YtkdlcomfpffhhaaGreatDoor
namespace Go.Proofs.YtkdlcomfpffhhaaGreatDoor.U
open Go.Proofs.YtkdlcomfpffhhaaGreatDoor
open Go.RowKit
set_option maxRecDepth 100000 in
set_option maxHeartbeats 3200000 in
theorem lzLay_byte (base n cap:Nat) (a:Option Addr) (s:List UInt8) (x:Int) (w:World) (hn:s.length=n) (h:BOwn w base (.slice a n cap) s) (hm:n≤100000) (hb:base≤w.heap.size) (x0:0≤x) (x1:x≤255) :
  Calls Tryz.prog 279 #[.slice a n cap,.iface 247 (.int .u8 x)] w fun e w'=>∃ v,e = .returned (.tuple #[v,.bool (decide (n+1≤300))])∧BOwn w' base v (if n+1≤300 then s++[byteT x] else [])∧BelU base w w':=by
 obtain ⟨i0,hi,hz0,hz1,hz2⟩:=info_parts Tryz.infoU8
 have hmI:(n:Int)≤100000:=by omega
 have m1:=methByte
 have t1:=asByte_yes
 have HN:=hide (And.intro hn hm)
 by_cases hl:n+1≤300
 ·
  obtain ⟨N,hN⟩:∃ N:Int,(n:Int)+1=N:=⟨_,rfl⟩
  have hlI:¬ (300:Int)<N:=by omega
  have hdI:decide ((300:Int)<N)=false:=decide_eq_false hlI
  have hbx:Hid (x=((byteT x).toNat:Int)):=(byteT_nat x0 x1).symm
  have bd:Hid (n+1≤maxLen∧(n+1)*1≤140737488355328):=by show _∧_; unfold maxLen; omega
  have hqo:=hide (h.own hn)
  rw [decide_eq_true hl,if_pos hl]
  clear hn h hm hl
  go_enter Tryz.func279,Tryz.ntmps279
  go_wp2_with fail
  refine (byteSize_any x w).mono ?_
  rintro e w' ⟨rfl,hw'⟩
  rw [hw']
  clear hw' w'
  go_wp2_with (at_builtin; refine wpList_append_own _ rfl _ _ 22 rfl base 5 i0 (.int .u8 0) 1 1 Tryz.underlying22 hi hz0 hz1 hz2 rfl (by decide) _ _ _ rfl (World.ownsRow.alloc (unhide hqo) _) ⟨w.heap.size,0,none⟩ 1 1 [.int .u8 x] rfl rfl (one_new _ _ rfl _ _) (one_byte _) (unhide bd).1 (unhide bd).2 (size_alloc_le hb _) ?_; intro v' x2 hown hgrow hnil; clear hnil)
  have hb2:BelU base w x2:=grown_stepU (v:=.slice a n cap) hgrow (unhide hqo) (Nat.le_refl _) hb (BelU.refl _ _)
  rw [unhide hbx] at hown
  have hq2:=bown_snoc (unhide HN).1 hown
  obtain ⟨va,vc,rfl⟩:=hq2.form
  clear hown hgrow
  go_wp2
  go_ret2
  exact ⟨_,rfl,hq2,hb2⟩
 ·
  obtain ⟨N,hN⟩:∃ N:Int,(n:Int)+1=N:=⟨_,rfl⟩
  have hlI:(300:Int)<N:=by omega
  rw [decide_eq_false hl,if_neg hl]
  clear hn h hm hl
  go_enter Tryz.func279,Tryz.ntmps279
  go_wp2_with fail
  refine (byteSize_any x w).mono ?_
  rintro e w' ⟨rfl,hw'⟩
  rw [hw']
  clear hw' w'
  go_wp2
  go_ret2
  exact ⟨_,rfl,BOwn.nil _ _,BelU.refl _ _⟩
set_option maxRecDepth 100000 in
set_option maxHeartbeats 3200000 in
theorem lzLay_back (base n cap Y Z:Nat) (a:Option Addr) (s:List UInt8) (w:World) (hn:s.length=n) (h:BOwn w base (.slice a n cap) s) (hm:n≤100000) (hb:base≤w.heap.size) (y1:Y≤60) (z0:1≤Z) (z1:Z≤250) :
  Calls Tryz.prog 279 #[.slice a n cap,.iface 249 (.agg #[.int .i64 (Y:Nat),.int .i64 (Z:Nat)])] w fun e w'=>∃ v,e = .returned (.tuple #[v,.bool (decide (n+Y≤300∧Z≤n))])∧BOwn w' base v (if n+Y≤300∧Z≤n then rep s Z Y else [])∧BelU base w w':=by
 obtain ⟨i0,hi,hz0,hz1,hz2⟩:=info_parts Tryz.infoU8
 have hmI:(n:Int)≤100000:=by omega
 have hYI:(Y:Int)≤60:=by omega
 have hZI:(Z:Int)≤250:=by omega
 have hZ1:(1:Int)≤(Z:Int):=by omega
 have m1:=methBack
 have t1:=asByte_no
 have t2:=asBack_yes
 have HN:=hide (And.intro hn (And.intro hm z0))
 have HS:=hide (backSize_any (Y:Nat) (Z:Nat) w)
 have hB1:BelU base w (w.alloc (.cells #[.int .i64 (Y:Nat),.int .i64 (Z:Nat)] 249)):=(BelU.refl _ _).alloc hb _
 by_cases hl:n+Y≤300
 ·
  have hlI:¬ (300:Int)<(n:Int)+(Y:Int):=by omega
  by_cases hf:Z≤n
  ·
   have hfI:¬ (n:Int)<(Z:Int):=by omega
   have hdz:decide (n<Z)=false:=decide_eq_false (by omega)
   rw [decide_eq_true ⟨hl,hf⟩,if_pos ⟨hl,hf⟩]
   have hF:=hide hf
   have hq0:BOwn ((w.alloc (.cells #[.int .i64 (Y:Nat),.int .i64 (Z:Nat)] 249)).alloc (.cells #[.int .i64 (Y:Nat),.int .i64 (Z:Nat)] 249)) base (.slice a n cap) s:=(h.later ((Below.refl w.heap.size w).alloc (Nat.le_refl _) _) (Nat.le_refl _)).later ((Below.refl _ _).alloc (Nat.le_refl _) _) (Nat.le_refl _)
   have hB2:BelU base w ((w.alloc (.cells #[.int .i64 (Y:Nat),.int .i64 (Z:Nat)] 249)).alloc (.cells #[.int .i64 (Y:Nat),.int .i64 (Z:Nat)] 249)):=hB1.alloc (by simp; omega) _
   have hbx:((w.alloc (.cells #[.int .i64 (Y:Nat),.int .i64 (Z:Nat)] 249)).alloc (.cells #[.int .i64 (Y:Nat),.int .i64 (Z:Nat)] 249)).heap[w.heap.size+1]?=some (Obj.cells #[.int .i64 (Y:Nat),.int .i64 (Z:Nat)] 249):=by
    have e:(w.alloc (.cells #[.int .i64 (Y:Nat),.int .i64 (Z:Nat)] 249)).heap.size=w.heap.size+1:=by simp
    rw [←e]
    exact alloc_at _ _
   have H0:=hide (And.intro hq0 (And.intro hB2 hbx))
   clear hn h hm hl hf y1 z0 z1 hq0 hB2 hbx hB1
   go_enter Tryz.func279,Tryz.ntmps279
   go_wp2_with fail
   refine (unhide HS).mono ?_
   rintro e w' ⟨rfl,hw'⟩
   rw [hw']
   clear hw' w'
   go_wp2_with fail
   go_loopw [0,32] (fun v i wr=>∃ k:Nat,k≤Y∧i = .int .i64 k∧BOwn wr base v (rep s Z k)∧wr.heap[w.heap.size+1]?=some (Obj.cells #[.int .i64 (Y:Nat),.int .i64 (Z:Nat)] 249)∧BelU base w wr) (fun _ i _=>Y-(intOf i).toNat)
   case atStart=>exact ⟨0,Nat.zero_le _,rfl,(unhide H0).1,(unhide H0).2.2,(unhide H0).2.1⟩
   case round=>
    obtain ⟨k,hk,rfl,hq,hbox,hbel⟩:=hrel
    obtain ⟨c0,c1,hlw⟩:=k2_cells hbox
    have hlen:Hid ((rep s Z k).length=n+k):=by show _=_; rw [rep_len,(unhide HN).1]
    obtain ⟨va,vc,rfl⟩:=hq.formN (unhide hlen)
    have HK:=hide hk
    by_cases hlt:k<Y
    ·
     obtain ⟨g,rfl⟩:=hq.somes (by rw [unhide hlen]; have:=unhide hF; have:=(unhide HN).2.2; omega)
     obtain ⟨p,hp⟩:∃ p,n+k-Z=p:=⟨_,rfl⟩
     have hpI:((n:Int)+(k:Int))-(Z:Int)=(p:Int):=by have:=unhide hF; omega
     obtain ⟨d0,_,_⟩:=hq.at (j:=p) (unhide hlen) (by have:=unhide hF; have:=(unhide HN).2.2; omega)
     have hst:Hid (rep s Z (k+1)=rep s Z k++[(rep s Z k).getD p 0]):=by
      show _=_
      simp only [rep]
      rw [unhide hlen,hp]
     have hbs:=Nat.le_trans hb hbel.size
     have bd:Hid (n+k+1≤maxLen∧(n+k+1)*1≤140737488355328):=by show _∧_; have:=(unhide HN).2.1; unfold maxLen; omega
     have hpn:(p:Int)<(n:Int)+(k:Int):=by omega
     have HQ:=hide (And.intro hq (And.intro hbox hbel))
     have hqo:=hide (hq.own (unhide hlen))
     have Hp:=hide hp
     clear hq hbox hbel hk hp
     generalize (rep s Z k).getD p 0=b at *
     go_wp2_with (at_builtin; refine wpList_append_own _ rfl _ _ 22 rfl base 5 i0 (.int .u8 0) 1 1 Tryz.underlying22 hi hz0 hz1 hz2 rfl (by decide) _ _ _ rfl (World.ownsRow.alloc (unhide hqo) _) ⟨wr.heap.size,0,none⟩ 1 1 [.int .u8 (b.toNat:Int)] rfl rfl (one_new _ _ rfl _ _) (one_byte _) (unhide bd).1 (unhide bd).2 (size_alloc_le hbs _) ?_; intro v' x2 hown hgrow hnil; clear hnil)
     obtain ⟨hq,hbox,hbel⟩:=unhide HQ
     have hb2:=grown_stepU (v:=.slice (some ⟨g,0,none⟩) (n+k) vc) hgrow (unhide hqo) (Nat.le_refl _) hbs hbel
     have hq2:=bown_snoc (unhide hlen) hown
     rw [←unhide hst] at hq2
     have hbox2:=((KeepT.refl 249 wr).alloc (.cells #[.int .u8 (b.toNat:Int)] 5)).grown (World.ownsRow.alloc (unhide hqo) _) (by decide) hgrow _ _ _ hbox
     clear hown hgrow hq hbox hbel
     go_wp2
     go_roundw
     case rel=>exact ⟨k+1,by have:=unhide HK; omega,by go_num,hq2,hbox2,hb2⟩
     case measure=>simp [intOf]; omega
    ·
     obtain rfl:k=Y:=by omega
     go_wp2
     go_ret2
     exact ⟨_,rfl,hq,hbel⟩
  ·
   have hfI:(n:Int)<(Z:Int):=by omega
   have hdz:decide (n<Z)=true:=decide_eq_true (by omega)
   have hB2:BelU base w ((w.alloc (.cells #[.int .i64 (Y:Nat),.int .i64 (Z:Nat)] 249)).alloc (.cells #[.int .i64 (Y:Nat),.int .i64 (Z:Nat)] 249)):=hB1.alloc (by simp; omega) _
   rw [decide_eq_false (fun x=>hf x.2),if_neg (fun x=>hf x.2)]
   clear hn h hm hl hf y1 z0 z1
   go_enter Tryz.func279,Tryz.ntmps279
   go_wp2_with fail
   refine (unhide HS).mono ?_
   rintro e w' ⟨rfl,hw'⟩
   rw [hw']
   clear hw' w'
   go_wp2
   go_ret2
   exact ⟨_,rfl,BOwn.nil _ _,hB2⟩
 ·
  have hlI:(300:Int)<(n:Int)+(Y:Int):=by omega
  rw [decide_eq_false (fun x=>hl x.1),if_neg (fun x=>hl x.1)]
  clear hn h hm hl y1 z0 z1
  go_enter Tryz.func279,Tryz.ntmps279
  go_wp2_with fail
  refine (unhide HS).mono ?_
  rintro e w' ⟨rfl,hw'⟩
  rw [hw']
  clear hw' w'
  go_wp2
  go_ret2
  exact ⟨_,rfl,BOwn.nil _ _,hB1⟩
theorem lzLay_any (base n cap:Nat) (a:Option Addr) (s:List UInt8) (t:Tk) (w:World) (hn:s.length=n) (h:BOwn w base (.slice a n cap) s) (hm:n≤100000) (hb:base≤w.heap.size) (ho:okT t=true) :
  Calls Tryz.prog 279 #[.slice a n cap,tokV t] w fun e w'=>∃ v,e = .returned (.tuple #[v,.bool (addL s t).isSome])∧BOwn w' base v ((addL s t).getD [])∧BelU base w w':=by
 cases hB:isB t
 ·
  have hK:isK t=true:=by simpa [okT,hB] using ho
  rw [tokV_K hK]
  have hK2:=hK
  simp only [isK,Bool.and_eq_true,decide_eq_true_eq] at hK2
  obtain ⟨⟨_,hy⟩,hz⟩:=hK2
  obtain ⟨y1,y2⟩:=inB_true.1 hy
  obtain ⟨z1,z2⟩:=inB_true.1 hz
  obtain ⟨Y,hY⟩:=Int.eq_ofNat_of_zero_le (show 0≤t.2.1 by omega)
  obtain ⟨Z,hZ⟩:=Int.eq_ofNat_of_zero_le (show 0≤t.2.2 by omega)
  rw [hY,hZ]
  have hs:sizT t=Y:=by unfold sizT; rw [hB,hY]; simp
  refine (lzLay_back base n cap Y Z a s w hn h hm hb (by omega) (by omega) (by omega)).mono ?_
  rintro e w' ⟨v,rfl,hq,hbel⟩
  by_cases hc:n+Y≤300∧Z≤n
  ·
   have hA:=addL_yes (s:=s) ho (fun _=>by rw [hZ,hn]; omega) (by rw [hs,hn]; exact hc.1)
   rw [hB,hY,hZ] at hA
   simp only [Bool.false_eq_true,if_false,Int.toNat_natCast] at hA
   rw [if_pos hc] at hq
   rw [hA,decide_eq_true hc]
   exact ⟨v,rfl,hq,hbel⟩
  ·
   have hA:addL s t=none:=by
    by_cases hl:n+Y≤300
    ·
     exact addL_far hK (by rw [hZ,hn]; omega)
    ·
     exact addL_long (by rw [hs,hn]; omega)
   rw [if_neg hc] at hq
   rw [hA,decide_eq_false hc]
   exact ⟨v,rfl,hq,hbel⟩
 ·
  rw [tokV_B hB]
  have hB2:=hB
  simp only [isB,Bool.and_eq_true,decide_eq_true_eq] at hB2
  obtain ⟨x1,x2⟩:=inB_true.1 hB2.2.1
  have hs:sizT t=1:=by unfold sizT; rw [hB]; rfl
  refine (lzLay_byte base n cap a s t.1 w hn h hm hb x1 x2).mono ?_
  rintro e w' ⟨v,rfl,hq,hbel⟩
  by_cases hc:n+1≤300
  ·
   have hA:=addL_yes (s:=s) ho (fun hk=>by rw [isB_K hB] at hk; cases hk) (by rw [hs,hn]; exact hc)
   rw [hB] at hA
   simp only [if_true] at hA
   rw [if_pos hc] at hq
   rw [hA,decide_eq_true hc]
   exact ⟨v,rfl,hq,hbel⟩
  ·
   have hA:addL s t=none:=addL_long (by rw [hs,hn]; omega)
   rw [if_neg hc] at hq
   rw [hA,decide_eq_false hc]
   exact ⟨v,rfl,hq,hbel⟩
end Go.Proofs.YtkdlcomfpffhhaaGreatDoor.U
namespace Go.Proofs.YtkdlcomfpffhhaaGreatDoor.U
open Go.Proofs.YtkdlcomfpffhhaaGreatDoor
set_option maxRecDepth 100000
open Go.RowKit
theorem grown_cell {W x1:World} {v u:Value} {k o:Nat} (hg:W.grownBy x1 v.ownBlock) (hv:∀ g,v.ownBlock=some g→g<k) (hc:W.cell? ⟨k,o,none⟩=some u):x1.cell? ⟨k,o,none⟩=some u:=
 hg.cell hc (fun e=>by have:=hv k e.symm; omega)
theorem row_below {w:World} {base size n:Nat} {e:TypeId} {v:Value} {xs:List Value} (h:w.ownsRow base e size v n xs):∀ g,v.ownBlock=some g→g<w.heap.size:=fun g hg=>(World.ownsRow.lt h g hg).2
set_option maxHeartbeats 3200000 in
theorem l4Add_byte (base n cap:Nat) (a:Option Addr) (s:List UInt8) (t:Tk) (w:World) (hn:s.length=n) (h:BOwn w base (.slice a n cap) s) (hm:n≤100000) (hb:base≤w.heap.size) (h0:t.2.1=0) :
  Calls Tryz.prog 275 #[.slice a n cap,.agg #[.int .i64 t.1,.int .i64 t.2.1,.int .i64 t.2.2]] w fun e w'=>∃ v x,e = .returned (.tuple #[v,.bool (isB t)])∧BOwn w' base v x∧(isB t=true→x=s++[byteT t.1])∧BelU base w w':=by
 obtain ⟨i0,hi,hz0,hz1,hz2⟩:=info_parts Tryz.infoU8
 obtain ⟨x,y,z⟩:=t
 simp only at h0
 subst h0
 simp only
 have hmI:(n:Int)≤100000:=by omega
 have HS:∃ X:Int,IntKind.u8.wrap x=X:=⟨_,rfl⟩
 obtain ⟨X,hX⟩:=HS
 have hXb:0≤X∧X≤255:=by rw [←hX]; simp [IntKind.wrap,IntKind.bits,IntKind.signed]; omega
 have hXe:Hid (isB (x,0,z)=true→(byteT X)=byteT x):=by
  intro hB
  simp only [isB,Bool.and_eq_true,decide_eq_true_eq] at hB
  have:=inB_true.1 hB.2.1
  have e:X=x:=by rw [←hX]; simp [IntKind.wrap,IntKind.bits,IntKind.signed]; omega
  rw [e]
 have hisB:Hid (isB (x,0,z)=(inB x 0 255&&decide (z=0))):=by show _=_; simp [isB]
 have HN:=hide hn
 have hR:World.ownsRow ((w.alloc (.cells #[.int .i64 x,.int .i64 0,.int .i64 z] 343)).alloc (.cells #[.int .u8 X] 5)).drew base 5 1 (.slice a n cap) n (bcells s):=World.ownsRow.alloc (World.ownsRow.alloc (h.own hn) _) _
 have hNw:=hide (one_new (w.alloc (.cells #[.int .i64 x,.int .i64 0,.int .i64 z] 343)) (w.heap.size+1) (by simp) (.int .u8 X) 5)
 have hB2:BelU base w ((w.alloc (.cells #[.int .i64 x,.int .i64 0,.int .i64 z] 343)).alloc (.cells #[.int .u8 X] 5)).drew:=((((BelU.refl base w).alloc hb _).alloc (by simp; omega) _)).drew
 have hblk:∀ g,(Value.slice a n cap).ownBlock=some g→g<w.heap.size:=row_below (h.own hn)
 have bd:Hid (n+1≤maxLen∧(n+1)*1≤140737488355328):=by show _∧_; unfold maxLen; omega
 have c00:(w.alloc (.cells #[.int .i64 x,.int .i64 0,.int .i64 z] 343)).drew.cell? ⟨w.heap.size,0,none⟩=some (.int .i64 x):=by show (w.alloc (.cells #[.int .i64 x,.int .i64 0,.int .i64 z] 343)).cell? ⟨w.heap.size,0,none⟩=some (.int .i64 x); simp
 have c02:(w.alloc (.cells #[.int .i64 x,.int .i64 0,.int .i64 z] 343)).drew.cell? ⟨w.heap.size,2,none⟩=some (.int .i64 z):=by show (w.alloc (.cells #[.int .i64 x,.int .i64 0,.int .i64 z] 343)).cell? ⟨w.heap.size,2,none⟩=some (.int .i64 z); simp
 have e00:((w.alloc (.cells #[.int .i64 x,.int .i64 0,.int .i64 z] 343)).alloc (.cells #[.int .u8 X] 5)).drew.cell? ⟨w.heap.size,0,none⟩=some (.int .i64 x):=by show ((w.alloc (.cells #[.int .i64 x,.int .i64 0,.int .i64 z] 343)).alloc (.cells #[.int .u8 X] 5)).cell? ⟨w.heap.size,0,none⟩=some (.int .i64 x); simp
 have e02:((w.alloc (.cells #[.int .i64 x,.int .i64 0,.int .i64 z] 343)).alloc (.cells #[.int .u8 X] 5)).drew.cell? ⟨w.heap.size,2,none⟩=some (.int .i64 z):=by show ((w.alloc (.cells #[.int .i64 x,.int .i64 0,.int .i64 z] 343)).alloc (.cells #[.int .u8 X] 5)).cell? ⟨w.heap.size,2,none⟩=some (.int .i64 z); simp
 have HC0:=And.intro c00 c02
 have HC1:=And.intro e00 e02
 clear h hn hm c00 c02 e00 e02
 cases hc:inB x 0 255
 ·
  rw [hc] at hisB
  go_enter Tryz.func275,Tryz.ntmps275
  go_wp2_with fail
  first | (go_region_law (first | (refine step_append_own rfl (.tmp 10) (.tmp 14) 22 rfl base 5 i0 (.int .u8 0) 1 1 Tryz.underlying22 hi hz0 hz1 hz2 rfl (Nat.zero_lt_succ 0) (.slice a n cap) _ _ rfl hR ⟨w.heap.size+1,0,none⟩ 1 1 [.int .u8 X] rfl rfl (unhide hNw) (one_byte _) (unhide bd).1 (unhide bd).2 (Nat.le_trans hb hB2.size) ?_; intro v' x5 hown hgrow hnil; clear hnil; have hC5:=grown_cell hgrow hblk HC1.1; have hC6:=grown_cell hgrow hblk HC1.2) | (go_simp; go_at_call 58; refine (l1In_any _ _ _ _).mono ?_; rintro e y5 ⟨rfl,hy5⟩; rw [hy5,hc]; clear hy5))) | fail
  all_goals
   clear hNw HC0 HC1
   have hbel:BelU base w x5:=hB2.grown hgrow (Nat.le_trans hb hB2.size) (fun g hg=>(World.ownsRow.lt hR g hg).1) (own_u8 hR)
   have hq:BOwn x5 base v' (s++[byteT X]):=bown_snoc (unhide HN) (by rw [byteT_nat hXb.1 hXb.2]; exact hown)
   obtain ⟨va,vc,rfl⟩:=hq.form
   clear hown hgrow
   go_wp2
   go_ret2
   exact ⟨_,_,by rw [unhide hisB]; rfl,hq,fun hB=>by rw [unhide hXe hB],hbel⟩
 ·
  rw [hc] at hisB
  by_cases hz:z=0
  ·
   subst hz
   go_enter Tryz.func275,Tryz.ntmps275
   go_wp2_with fail
   first | (go_region_held3 (fun W=>W.cell? ⟨w.heap.size,0,none⟩=some (.int .i64 x)∧W.cell? ⟨w.heap.size,2,none⟩=some (.int .i64 0)) (first | exact HC0 | assumption | exact HC1) (first
    | (go_at_call 58; refine (l1In_any _ _ _ _).mono ?_; rintro e y5 ⟨rfl,hy5⟩; rw [hy5,hc]; clear hy5)
    | (refine step_append_own rfl (.tmp 10) (.tmp 14) 22 rfl base 5 i0 (.int .u8 0) 1 1 Tryz.underlying22 hi hz0 hz1 hz2 rfl (Nat.zero_lt_succ 0) (.slice a n cap) _ _ rfl hR ⟨w.heap.size+1,0,none⟩ 1 1 [.int .u8 X] rfl rfl (unhide hNw) (one_byte _) (unhide bd).1 (unhide bd).2 (Nat.le_trans hb hB2.size) ?_; intro v' x5 hown hgrow hnil; clear hnil; have hC5:=And.intro (grown_cell hgrow hblk HC1.1) (grown_cell hgrow hblk HC1.2)))) | fail
   clear hNw HC0 HC1
   have hbel:BelU base w x5:=hB2.grown hgrow (Nat.le_trans hb hB2.size) (fun g hg=>(World.ownsRow.lt hR g hg).1) (own_u8 hR)
   have hq:BOwn x5 base v' (s++[byteT X]):=bown_snoc (unhide HN) (by rw [byteT_nat hXb.1 hXb.2]; exact hown)
   obtain ⟨va,vc,rfl⟩:=hq.form
   clear hown hgrow
   go_wp2
   go_ret2
   exact ⟨_,_,by rw [unhide hisB]; rfl,hq,fun hB=>by rw [unhide hXe hB],hbel⟩
  ·
   have hzb:(z == 0)=false:=by simpa using hz
   go_enter Tryz.func275,Tryz.ntmps275
   go_wp2_with fail
   first | (go_region_held3 (fun W=>W.cell? ⟨w.heap.size,0,none⟩=some (.int .i64 x)∧W.cell? ⟨w.heap.size,2,none⟩=some (.int .i64 z)) (first | exact HC0 | assumption | exact HC1) (first
    | (go_at_call 58; refine (l1In_any _ _ _ _).mono ?_; rintro e y5 ⟨rfl,hy5⟩; rw [hy5,hc]; clear hy5)
    | (refine step_append_own rfl (.tmp 10) (.tmp 14) 22 rfl base 5 i0 (.int .u8 0) 1 1 Tryz.underlying22 hi hz0 hz1 hz2 rfl (Nat.zero_lt_succ 0) (.slice a n cap) _ _ rfl hR ⟨w.heap.size+1,0,none⟩ 1 1 [.int .u8 X] rfl rfl (unhide hNw) (one_byte _) (unhide bd).1 (unhide bd).2 (Nat.le_trans hb hB2.size) ?_; intro v' x5 hown hgrow hnil; clear hnil; have hC5:=And.intro (grown_cell hgrow hblk HC1.1) (grown_cell hgrow hblk HC1.2)))) | fail
   clear hNw HC0 HC1
   have hbel:BelU base w x5:=hB2.grown hgrow (Nat.le_trans hb hB2.size) (fun g hg=>(World.ownsRow.lt hR g hg).1) (own_u8 hR)
   have hq:BOwn x5 base v' (s++[byteT X]):=bown_snoc (unhide HN) (by rw [byteT_nat hXb.1 hXb.2]; exact hown)
   obtain ⟨va,vc,rfl⟩:=hq.form
   clear hown hgrow
   go_wp2
   go_ret2
   exact ⟨_,_,by rw [unhide hisB]; simp [hz],hq,fun hB=>by rw [unhide hXe hB],hbel⟩
theorem isB_long {t:Tk} (h:t.2.1≠0):isB t=false:=by simp [isB,h]
set_option maxHeartbeats 3200000 in
theorem l4Add_back (base n cap:Nat) (a:Option Addr) (s:List UInt8) (t:Tk) (w:World) (hn:s.length=n) (h:BOwn w base (.slice a n cap) s) (hm:n≤100000) (hb:base≤w.heap.size) (h0:t.2.1≠0) :
  Calls Tryz.prog 275 #[.slice a n cap,.agg #[.int .i64 t.1,.int .i64 t.2.1,.int .i64 t.2.2]] w fun e w'=>∃ v x,e = .returned (.tuple #[v,.bool (isK t&&decide (t.2.2≤(n:Int)))])∧BOwn w' base v x∧((isK t&&decide (t.2.2≤(n:Int)))=true→x=rep s t.2.2.toNat t.2.1.toNat)∧BelU base w w':=by
 obtain ⟨i0,hi,hz0,hz1,hz2⟩:=info_parts Tryz.infoU8
 obtain ⟨x,y,z⟩:=t
 simp only at h0 ⊢
 have hmI:(n:Int)≤100000:=by omega
 have hyb:(y == 0)=false:=by simpa using h0
 have hB1:BelU base w (w.alloc (.cells #[.int .i64 x,.int .i64 y,.int .i64 z] 343)):=(BelU.refl base w).alloc hb _
 have h1:BOwn (w.alloc (.cells #[.int .i64 x,.int .i64 y,.int .i64 z] 343)) base (.slice a n cap) s:=h.later ((Below.refl w.heap.size w).alloc (Nat.le_refl _) _) (Nat.le_refl _)
 have HN:=hide (And.intro hn hm)
 have H1:=hide (And.intro h1 hB1)
 clear hn hm h h1 hB1
 by_cases hx:x=0
 ·
  subst hx
  cases hy:inB y 3 60
  ·
   have hko:Hid ((isK (0,y,z)&&decide (z≤(n:Int)))=false):=by show _=false; simp [isK,hy]
   go_enter Tryz.func275,Tryz.ntmps275
   go_wp2_with (go_at_call 58; refine (l1In_any _ _ _ _).mono ?_; rintro e w' ⟨rfl,hw'⟩; rw [hw',hy]; clear hw' w')
   go_ret2
   rw [unhide hko]
   exact ⟨_,s,rfl,(unhide H1).1,(fun h=>by cases h),(unhide H1).2⟩
  ·
   cases hz:inB z 1 250
   ·
    have hko:Hid ((isK (0,y,z)&&decide (z≤(n:Int)))=false):=by show _=false; simp [isK,hz]
    go_enter Tryz.func275,Tryz.ntmps275
    go_wp2_with fail
    refine (l1In_any _ _ _ _).mono ?_
    rintro e w' ⟨rfl,hw'⟩
    rw [hw',hy]
    clear hw' w'
    go_wp2_with fail
    refine (l1In_any _ _ _ _).mono ?_
    rintro e w' ⟨rfl,hw'⟩
    rw [hw',hz]
    clear hw' w'
    go_wp2
    go_ret2
    rw [unhide hko]
    exact ⟨_,s,rfl,(unhide H1).1,(fun h=>by cases h),(unhide H1).2⟩
   ·
    obtain ⟨y1,y2⟩:=inB_true.1 hy
    obtain ⟨z1,z2⟩:=inB_true.1 hz
    by_cases hf:z≤(n:Int)
    ·
     have hko:Hid ((isK (0,y,z)&&decide (z≤(n:Int)))=true):=by show _=true; simp [isK,hy,hz,hf]
     obtain ⟨Y,rfl⟩:=Int.eq_ofNat_of_zero_le (show 0≤y by omega)
     obtain ⟨Z,rfl⟩:=Int.eq_ofNat_of_zero_le (show 0≤z by omega)
     have hdz:decide (n<Z)=false:=decide_eq_false (by omega)
     go_enter Tryz.func275,Tryz.ntmps275
     go_wp2_with fail
     refine (l1In_any _ _ _ _).mono ?_
     rintro e w' ⟨rfl,hw'⟩
     rw [hw',hy]
     clear hw' w'
     go_wp2_with fail
     refine (l1In_any _ _ _ _).mono ?_
     rintro e w' ⟨rfl,hw'⟩
     rw [hw',hz]
     clear hw' w'
     go_wp2_with fail
     go_loopw [0,6] (fun v i wr=>∃ k:Nat,k≤Y∧i = .int .i64 k∧BOwn wr base v (rep s Z k)∧wr.heap[w.heap.size]?=some (Obj.cells #[.int .i64 0,.int .i64 (Y:Int),.int .i64 (Z:Int)] 343)∧BelU base w wr) (fun _ i _=>Y-(intOf i).toNat)
     case atStart=>exact ⟨0,Nat.zero_le _,rfl,(unhide H1).1,alloc_at _ _,(unhide H1).2⟩
     case round=>
      obtain ⟨k,hk,rfl,hq,hbox,hbel⟩:=hrel
      obtain ⟨c0,c1,c2,hlw⟩:=k3_cells hbox
      have hlen:Hid ((rep s Z k).length=n+k):=by show _=_; rw [rep_len,(unhide HN).1]
      obtain ⟨va,vc,rfl⟩:=hq.formN (unhide hlen)
      have HK:=hide hk
      by_cases hlt:k<Y
      ·
       obtain ⟨g,rfl⟩:=hq.somes (by rw [unhide hlen]; omega)
       obtain ⟨p,hp⟩:∃ p,n+k-Z=p:=⟨_,rfl⟩
       have hpI:((n:Int)+(k:Int))-(Z:Int)=(p:Int):=by omega
       obtain ⟨d0,_,_⟩:=hq.at (j:=p) (unhide hlen) (by omega)
       have hst:Hid (rep s Z (k+1)=rep s Z k++[(rep s Z k).getD p 0]):=by
        show _=_
        simp only [rep]
        rw [unhide hlen,hp]
       have hbs:=Nat.le_trans hb hbel.size
       have bd:Hid (n+k+1≤maxLen∧(n+k+1)*1≤140737488355328):=by show _∧_; have:=(unhide HN).2; unfold maxLen; omega
       have hpn:(p:Int)<(n:Int)+(k:Int):=by omega
       have HQ:=hide (And.intro hq (And.intro hbox hbel))
       have hqo:=hide (hq.own (unhide hlen))
       have Hp:=hide hp
       clear hq hbox hbel hk hp
       generalize (rep s Z k).getD p 0=b at *
       go_wp2_with (at_builtin; refine wpList_append_own _ rfl _ _ 22 rfl base 5 i0 (.int .u8 0) 1 1 Tryz.underlying22 hi hz0 hz1 hz2 rfl (by decide) _ _ _ rfl (World.ownsRow.alloc (unhide hqo) _) ⟨wr.heap.size,0,none⟩ 1 1 [.int .u8 (b.toNat:Int)] rfl rfl (one_new _ _ rfl _ _) (one_byte _) (unhide bd).1 (unhide bd).2 (size_alloc_le hbs _) ?_; intro v' x2 hown hgrow hnil; clear hnil)
       obtain ⟨hq,hbox,hbel⟩:=unhide HQ
       have hb2:=grown_stepU (v:=.slice (some ⟨g,0,none⟩) (n+k) vc) hgrow (unhide hqo) (Nat.le_refl _) hbs hbel
       have hq2:=bown_snoc (unhide hlen) hown
       rw [←unhide hst] at hq2
       have hbox2:=((KeepT.refl 343 wr).alloc (.cells #[.int .u8 (b.toNat:Int)] 5)).grown (World.ownsRow.alloc (unhide hqo) _) (by decide) hgrow _ _ _ hbox
       clear hown hgrow hq hbox hbel
       go_wp2
       go_roundw
       case rel=>exact ⟨k+1,by have:=unhide HK; omega,by go_num,hq2,hbox2,hb2⟩
       case measure=>simp [intOf]; omega
      ·
       obtain rfl:k=Y:=by omega
       go_wp2
       go_ret2
       rw [unhide hko]
       exact ⟨_,_,rfl,hq,(fun _=>by simp),hbel⟩
    ·
     have hko:Hid ((isK (0,y,z)&&decide (z≤(n:Int)))=false):=by show _=false; simp [hf]
     go_enter Tryz.func275,Tryz.ntmps275
     go_wp2_with fail
     refine (l1In_any _ _ _ _).mono ?_
     rintro e w' ⟨rfl,hw'⟩
     rw [hw',hy]
     clear hw' w'
     go_wp2_with fail
     refine (l1In_any _ _ _ _).mono ?_
     rintro e w' ⟨rfl,hw'⟩
     rw [hw',hz]
     clear hw' w'
     go_wp2
     go_ret2
     rw [unhide hko]
     exact ⟨_,s,rfl,(unhide H1).1,(fun h=>by cases h),(unhide H1).2⟩
 ·
  have hxb:(x == 0)=false:=by simpa using hx
  have hko:Hid ((isK (x,y,z)&&decide (z≤(n:Int)))=false):=by show _=false; simp [isK,hx]
  go_enter Tryz.func275,Tryz.ntmps275
  go_wp2
  go_ret2
  rw [unhide hko]
  exact ⟨_,s,rfl,(unhide H1).1,(fun h=>by cases h),(unhide H1).2⟩
theorem l4Add_any (base n cap:Nat) (a:Option Addr) (s:List UInt8) (t:Tk) (w:World) (hn:s.length=n) (h:BOwn w base (.slice a n cap) s) (hm:n≤100000) (hb:base≤w.heap.size) :
  Calls Tryz.prog 275 #[.slice a n cap,.agg #[.int .i64 t.1,.int .i64 t.2.1,.int .i64 t.2.2]] w fun e w'=>∃ v x,e = .returned (.tuple #[v,.bool (addT s t).isSome])∧BOwn w' base v x∧((addT s t).isSome=true→addT s t=some x)∧BelU base w w':=by
 by_cases h0:t.2.1=0
 ·
  have hK:isK t=false:=by
   have:inB t.2.1 3 60=false:=inB_false.2 (by omega)
   simp [isK,this]
  have e:addT s t=if isB t then some (s++[byteT t.1]) else none:=by unfold addT; rw [hK]; rfl
  refine (l4Add_byte base n cap a s t w hn h hm hb h0).mono ?_
  rintro e1 w' ⟨v,x,rfl,ho,hx,hbel⟩
  cases hB:isB t
  ·
   rw [hB] at e hx
   exact ⟨v,x,by rw [e]; rfl,ho,(fun h=>by rw [e] at h; cases h),hbel⟩
  ·
   rw [hB] at e hx
   exact ⟨v,x,by rw [e]; rfl,ho,(fun _=>by rw [e,hx rfl]; rfl),hbel⟩
 ·
  have e:addT s t=if isK t&&decide (t.2.2≤(n:Int)) then some (rep s t.2.2.toNat t.2.1.toNat) else none:=by unfold addT; rw [isB_long h0,hn]; rfl
  refine (l4Add_back base n cap a s t w hn h hm hb h0).mono ?_
  rintro e1 w' ⟨v,x,rfl,ho,hx,hbel⟩
  cases hB:isK t&&decide (t.2.2≤(n:Int))
  ·
   rw [hB] at e hx
   exact ⟨v,x,by rw [e]; rfl,ho,(fun h=>by rw [e] at h; cases h),hbel⟩
  ·
   rw [hB] at e hx
   exact ⟨v,x,by rw [e]; rfl,ho,(fun _=>by rw [e,hx rfl]; rfl),hbel⟩
end Go.Proofs.YtkdlcomfpffhhaaGreatDoor.U
