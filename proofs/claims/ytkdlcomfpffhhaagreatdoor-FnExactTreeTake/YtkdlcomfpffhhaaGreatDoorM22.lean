/- Of what the proof is made: 19 texts, one behind the other. -/
import Derived.Test.YtkdlcomfpffhhaaGreatDoorM17
import Derived.Deep.RegionHeld3
import Derived.Test.YtkdlcomfpffhhaaGreatDoorM8
import Derived.Test.YtkdlcomfpffhhaaGreatDoorM9
import Derived.Test.YtkdlcomfpffhhaaGreatDoorM5
import Derived.Test.YtkdlcomfpffhhaaGreatDoorM11
import Derived.Test.YtkdlcomfpffhhaaGreatDoorM21
import Derived.Test.YtkdlcomfpffhhaaGreatDoorM19
import Derived.Test.YtkdlcomfpffhhaaGreatDoorM16
import Derived.Test.YtkdlcomfpffhhaaGreatDoorM20
import Derived.Test.YtkdlcomfpffhhaaGreatDoorTi1
import Derived.Test.YtkdlcomfpffhhaaGreatDoorM13
import Derived.Test.YtkdlcomfpffhhaaGreatDoorM2
import Derived.Test.YtkdlcomfpffhhaaGreatDoorM4
namespace Go.Proofs.YtkdlcomfpffhhaaGreatDoor
open Go.RowKit Corb
def pcM (l:List Int) (k:Nat):Int×Int:=((rv (l.getD k 0).toNat ((outN l 15).2.getD k 0).toNat:Nat),l.getD k 0)
end Go.Proofs.YtkdlcomfpffhhaaGreatDoor
namespace Go.Proofs.YtkdlcomfpffhhaaGreatDoor
open Go.RowKit Corb Bkx
set_option maxRecDepth 100000
set_option linter.unusedSimpArgs false
set_option linter.defProp false
theorem Keep1.drew {b:Nat} {w w':World} (h:Keep1 b w w'):Keep1 b w w'.drew:=⟨h.1.drew,h.2,h.3⟩
theorem JRow.keep1 {w w':World} {base b:Nat} {a:Option Addr} {l:List Int} (h:JRow w base a l) (hk:Keep1 b w w') (hb:b<base):JRow w' base a l:=h.moved hk.1.size (fun g h1 hg _=>hk.2 g hg (by omega))
theorem BookV.keep1 {w w':World} {base b:Nat} {l:List Int} {C:Array Value} (h:BookV w base l C) (hk:Keep1 b w w') (hb:b<base):BookV w' base l C:=by
 obtain ⟨a,cap,ac,cc,q,sc,e,h1,h2,h3⟩:=h
 exact ⟨a,cap,ac,cc,q,sc,e,h1.keep1 hk hb,h2.keep1 hk hb,h3.keep1 hk hb⟩
def SyP (w:World) (b:Nat) (s:ByteArray) (d:Option (Int×Nat)) (e:Ending) (w':World):Prop:=
 Keep1 b w w'∧match d with
  | none=>e=faultE
  | some (i,q)=>e = .returned (.int .i64 i)∧Rdr w' b s q
def bookZ0:Array Value:=#[Value.slice none 0 0,Value.slice none 0 0,Value.int .i64 0,Value.int .i64 0,Value.int .i64 0,Value.int .i64 0,Value.int .i64 0,Value.int .i64 0,Value.int .i64 0,Value.int .i64 0,Value.int .i64 0,Value.int .i64 0,Value.int .i64 0,Value.int .i64 0,Value.int .i64 0,Value.int .i64 0,Value.int .i64 0,Value.int .i64 0,Value.slice none 0 0]
theorem Tryz.infoLenB:(Tryz.prog.info? 259).map (·.size)=some 19:=by kernel_rfl
theorem bGet_any (B:BkI) (hI:Bks B) (b p base:Nat) (C:Array Value) (l:List Int) (s:ByteArray) (w:World) (hB:BookV w base l C) (hbb:b<base) (hok:lensOk l=true) (hs:s.size≤2000000) (hr:Rdr w b s p) (hp:p≤8*s.size) :
  Calls Tryz.prog B.g #[.agg C,.pointer (some ⟨b,0,none⟩)] w (GetPost w b s (dec l (numB s) (8*s.size) p)):=by
 obtain ⟨a,cap,ac,cc,q,sc,e,h1,h2,h3⟩:=hB
 exact Bkx.bookGet_any B hI a q cap l.length _ sc b p _ C l s w e hok rfl hs hr hp (fun W hW=>(h3.keep1 hW hbb).1)
set_option maxHeartbeats 6400000 in
theorem bSym_any (B:BkI) (hI:Bks B) (b p base:Nat) (C:Array Value) (l:List Int) (s:ByteArray) (w:World) (hB:BookV w base l C) (hbb:b<base) (hok:lensOk l=true) (hs:s.size≤2000000) (hr:Rdr w b s p) (hp:p≤8*s.size) :
  Calls Tryz.prog B.s #[.pointer (some ⟨b,0,none⟩),.agg C] w (SyP w b s (dec l (numB s) (8*s.size) p)):=by
 have hmix:Tryz.prog.follows .mixedOrders=true:=by kernel_rfl
 have hbl:=hr.lt
 have hA:Below w.heap.size w (w.alloc (.cells C B.T)):=(Below.refl _ _).alloc (Nat.le_refl _) _
 have hK1:Keep1 b w (w.alloc (.cells C B.T)).drew:=((Keep1.refl b w).alloc hbl _).drew
 have hr1:Rdr (w.alloc (.cells C B.T)).drew b s p:=hr.alloc _
 have hB1:BookV (w.alloc (.cells C B.T)).drew base l C:=hB.later hA.drew
 have hsz:=hB.size
 have hi1:(Tryz.prog.info? B.T).map (·.size)=some C.size:=by rw [hsz]; exact hI.info
 have hR0:(w.alloc (.cells C B.T)).rangeAt w.heap.size 0 C.toList:=by
  intro j v hv
  rw [Nat.zero_add,blk_cell (alloc_at w (.cells C B.T))]
  simpa using hv
 have HG:=hide (bGet_any B hI b p base C l s _ hB1 hbb hok hs hr1 hp)
 have HK1:=hide hK1
 have hne:w.heap.size≠b:=by omega
 have HRK:Hid (∀ W,Keep1 b (w.alloc (.cells C B.T)).drew W→W.rangeAt w.heap.size 0 C.toList):=by
  intro W hW j v hv
  rw [←hR0 j v hv]
  exact World.cell?_of_block (w:=w.alloc (.cells C B.T)) (hW.2 w.heap.size (by simp) hne)
 have hR1:(w.alloc (.cells C B.T)).drew.rangeAt w.heap.size 0 C.toList:=hR0
 clear hB hok hs hr hp hA hK1 hr1 hB1 hsz hR0 hbb
 obtain ⟨ds,hUd,hdr⟩:=hI.und
 rcases hI with rfl | rfl | rfl
 all_goals
  simp only [bkL,bkD,bkN] at hi1 HG HK1 HRK hR1 hUd ⊢
  generalize dec l (numB s) (8*s.size) p=d at *
  unfold SyP
  unfold GetPost at HG
  rcases d with _ | ⟨i,q⟩
  all_goals
   simp only at HG ⊢
   (first | go_enter Tryz.func280,Tryz.ntmps280 | go_enter Tryz.func288,Tryz.ntmps288 | go_enter Tryz.func282,Tryz.ntmps282)
   go_wp2_with fail
   refine wp_region_held_drew (S:=fun W=>W.rangeAt w.heap.size 0 C.toList) hmix hR1 (fun hS=>?_)
   refine wpAnyH_take (i:=0) (v:=.agg C) rfl (by kernel_rfl) (by kernel_rfl) (by kernel_rfl) (fun _ _ _ h=>h) (yieldsIf_load_half (by rfl) _ (.tmp 3) rfl w.heap.size 0 rfl C _ (fun _ h=>h) hUd hdr hi1) hS ?_
   refine wpAnyH_take (i:=1) (v:=.pointer (some ⟨b,0,none⟩)) rfl (by kernel_rfl) (by kernel_rfl) (by kernel_rfl) (fun _ _ _ h=>h) (Or.inl ⟨by rfl,fun W hSw=>by go_simp⟩) hS ?_
   refine wpAnyH_take (i:=2) (v:=.pointer (some ⟨b,0,none⟩)) rfl (by kernel_rfl) (by kernel_rfl) (by kernel_rfl) (fun _ _ _ h=>h) (Or.inl ⟨by rfl,fun W hSw=>by go_simp⟩) hS ?_
   refine wpAnyH_take (i:=3) (v:=.pointer (some ⟨b,0,none⟩)) rfl (by kernel_rfl) (by kernel_rfl) (by kernel_rfl) (fun _ _ _ h=>h) (Or.inl ⟨by rfl,fun W hSw=>by go_simp⟩) hS ?_
   refine wpAnyH_ready (rs:=[4]) (by kernel_rfl) (by simp) ?_
   refine AllReadyH.cons rfl (fun K hK=>?_) AllReadyH.nil
   go_simp
   (first | go_at_call 286 | go_at_call 292 | go_at_call 290)
   refine (unhide HG).mono ?_
  ·
   rintro e x1 ⟨k1,rfl⟩
   have HKK:=hide ((unhide HK1).trans k1)
   refine Shut.out hK _ _ (unhide HRK _ k1) (fun hS2=>?_)
   clear hK K
   refine wpAnyH_take (i:=5) (v:=.tuple #[.int .i64 0,.bool false]) rfl (by kernel_rfl) (by kernel_rfl) (by kernel_rfl) (fun _ _ _ h=>h) (Or.inl ⟨by rfl,fun W hSw=>by go_simp⟩) hS2 ?_
   refine wpAnyH_take (i:=6) (v:=.int .i64 0) rfl (by kernel_rfl) (by kernel_rfl) (by kernel_rfl) (fun _ _ _ h=>h) (Or.inl ⟨by rfl,fun W hSw=>by go_simp⟩) hS2 ?_
   refine wpAnyH_take (i:=7) (v:=.bool false) rfl (by kernel_rfl) (by kernel_rfl) (by kernel_rfl) (fun _ _ _ h=>h) (Or.inl ⟨by rfl,fun W hSw=>by go_simp⟩) hS2 ?_
   refine wpAnyH_ready (rs:=[8]) (by kernel_rfl) (by simp) ?_
   refine AllReadyH.cons rfl (fun K hK=>?_) AllReadyH.nil
   go_simp
   refine Shut.out hK _ _ (unhide HRK _ k1) (fun hS3=>?_)
   clear hK K
   refine wpAnyH_ready (rs:=[9]) (by kernel_rfl) (by simp) ?_
   refine AllReadyH.cons rfl (fun K hK=>?_) AllReadyH.nil
   go_simp
   refine Shut.out hK _ _ (unhide HRK _ k1) (fun hS4=>?_)
   clear hK K
   refine wpAnyH_done (by kernel_rfl) ?_ _
   clear hS hS2 hS3 hS4 k1 HRK
   go_wp2_with fail
   refine (need_no _).mono ?_
   rintro e x2 ⟨rfl,hx2⟩
   rw [hx2]
   clear hx2 x2
   exact ⟨rfl,unhide HKK,rfl⟩
  ·
   rintro e x1 ⟨k1,rfl,r1⟩
   have HKK:=hide (And.intro ((unhide HK1).trans k1) r1)
   refine Shut.out hK _ _ (unhide HRK _ k1) (fun hS2=>?_)
   clear hK K
   refine wpAnyH_take (i:=5) (v:=.tuple #[.int .i64 i,.bool true]) rfl (by kernel_rfl) (by kernel_rfl) (by kernel_rfl) (fun _ _ _ h=>h) (Or.inl ⟨by rfl,fun W hSw=>by go_simp⟩) hS2 ?_
   refine wpAnyH_take (i:=6) (v:=.int .i64 i) rfl (by kernel_rfl) (by kernel_rfl) (by kernel_rfl) (fun _ _ _ h=>h) (Or.inl ⟨by rfl,fun W hSw=>by go_simp⟩) hS2 ?_
   refine wpAnyH_take (i:=7) (v:=.bool true) rfl (by kernel_rfl) (by kernel_rfl) (by kernel_rfl) (fun _ _ _ h=>h) (Or.inl ⟨by rfl,fun W hSw=>by go_simp⟩) hS2 ?_
   refine wpAnyH_ready (rs:=[8]) (by kernel_rfl) (by simp) ?_
   refine AllReadyH.cons rfl (fun K hK=>?_) AllReadyH.nil
   go_simp
   refine Shut.out hK _ _ (unhide HRK _ k1) (fun hS3=>?_)
   clear hK K
   refine wpAnyH_ready (rs:=[9]) (by kernel_rfl) (by simp) ?_
   refine AllReadyH.cons rfl (fun K hK=>?_) AllReadyH.nil
   go_simp
   refine Shut.out hK _ _ (unhide HRK _ k1) (fun hS4=>?_)
   clear hK K
   refine wpAnyH_done (by kernel_rfl) ?_ _
   clear hS hS2 hS3 hS4 k1 HRK
   clear r1
   go_wp2_with fail
   refine (need_yes _).mono ?_
   rintro e x2 ⟨rfl,hx2⟩
   rw [hx2]
   clear hx2 x2
   go_wp2
   go_ret
   exact ⟨(unhide HKK).1,rfl,(unhide HKK).2⟩
set_option maxHeartbeats 6400000 in
theorem bFB_any (B:BkI) (hI:Bks B) (a:Option Addr) (cap n base:Nat) (l:List Int) (w:World) (hn:l.length=n) (h:JRow w base a l) (hB:base≤w.heap.size) (hm:n≤1000) :
  Calls Tryz.prog B.b #[.slice a n cap] w fun e w'=>Below w.heap.size w w'∧if lensOk l=true then ∃ C,e = .returned (.agg C)∧BookV w' base l C else e=faultE:=by
 obtain ⟨W0,hW0⟩:∃ W,w.alloc (.cells bookZ0 B.T)=W:=⟨_,rfl⟩
 have S0:W0.heap.size=w.heap.size+1:=by rw [←hW0]; exact alloc_size _ _
 have B0:Below w.heap.size w W0:=by rw [←hW0]; exact (Below.refl _ _).alloc (Nat.le_refl _) _
 have T0:Hid (W0.there w.heap.size 0 19):=by rw [←hW0]; exact there_new w bookZ0 _ _ rfl
 have hI0:IRow W0 a l:=(h.later B0).1
 have HL:=hide (implLensOk_any a cap n l W0 hn hI0 (by omega))
 have E0:=hide hW0
 unfold bookZ0 at E0
 have HB0:=hide B0
 have HS0:=hide S0
 have HJ:=hide h
 have Hn:=hide hn
 clear hW0 S0 B0
 have HC0:=fun hh=>Bkx.codeBook_any B hI a cap n l W0 hn hI0 hh
 have hIB:=hI.info
 have HNe:=hide hI.ne
 obtain ⟨ds,hUd,hdr⟩:=hI.und
 rcases hI with rfl | rfl | rfl
 all_goals
  simp only [bkL,bkD,bkN] at E0 hIB HC0 hUd ⊢
  cases hok:lensOk l
  ·
   rw [hok] at HL
   simp only [Bool.false_eq_true,if_false]
   clear hok
   (first | go_enter Tryz.func272,Tryz.ntmps272 | go_enter Tryz.func273,Tryz.ntmps273 | go_enter Tryz.func283,Tryz.ntmps283)
   go_wp2_with fail
   rw [unhide E0]
   refine (unhide HL).mono ?_
   rintro e x1 ⟨rfl,hx1⟩
   rw [hx1]
   clear hx1 x1
   go_wp2_with fail
   refine (need_no _).mono ?_
   rintro e x2 ⟨rfl,hx2⟩
   rw [hx2]
   clear hx2 x2
   exact ⟨rfl,unhide HB0,rfl⟩
  ·
   rw [hok] at HL
   simp only [if_true]
   have HCb:=hide (HC0 (by have:=lensOk_len hok; omega))
   clear hok hI0 h hn HC0
   (first | go_enter Tryz.func272,Tryz.ntmps272 | go_enter Tryz.func273,Tryz.ntmps273 | go_enter Tryz.func283,Tryz.ntmps283)
   go_wp2_with fail
   rw [unhide E0]
   refine (unhide HL).mono ?_
   rintro e x1 ⟨rfl,hx1⟩
   rw [hx1]
   clear hx1 x1
   go_wp2_with fail
   refine (need_yes _).mono ?_
   rintro e x2 ⟨rfl,hx2⟩
   rw [hx2]
   clear hx2 x2
   go_wp2_with fail
   refine (unhide HCb).mono ?_
   rintro e x3 ⟨vs,C,rfl,hC,h1,h2,hb⟩
   obtain ⟨q,sc,rfl⟩:=h2.form
   have hsz:C.size=19:=by rw [hC]; simp [bookCells_len]
   have hone:C.all (·.oneCell')=true:=by rw [hC]; exact bookCells_one rfl rfl rfl
   have HTh:Hid (x3.there w.heap.size 0 19):=fun j hj=>by
    obtain ⟨t1,t2⟩:=unhide T0 j hj
    have hlt:w.heap.size<W0.heap.size:=by have:=unhide HS0; omega
    exact ⟨by rw [hb.cell (p:=⟨w.heap.size,0+j,none⟩) hlt]; exact t1,by rw [hb.frozen (p:=⟨w.heap.size,0+j,none⟩) hlt]; exact t2⟩
   have HSz:=hide hsz
   have HOne:=hide hone
   have HX:=hide (And.intro hC (And.intro h1 (And.intro h2 hb)))
   clear hsz hone hC h1 h2 hb
   go_wp2_with (refine wpList_store_mid rfl _ (.tmp 2) (.tmp 7) rfl w.heap.size 0 C rfl rfl (by rw [unhide HSz]; exact unhide HTh) (by rw [unhide HSz]; exact hIB) (unhide HOne) ?_)
   obtain ⟨hC,h1,h2,hb⟩:=unhide HX
   have hr:=World.rangeAt_setCells_same x3 w.heap.size 0 C.toList (by rw [Array.length_toList,unhide HSz]; exact unhide HTh)
   have hk:∀ j,j≠w.heap.size→(x3.setCells w.heap.size 0 C.toList).heap[j]?=x3.heap[j]?:=fun j hj=>heap_setCells _ _ _ _ j hj
   have hz:(x3.setCells w.heap.size 0 C.toList).heap.size=x3.heap.size:=size_setCells _ _ _ _
   have hBw:=bnext (unhide HB0) hb
   have s0:=unhide HS0
   refine bodyPost_ret (results_cell_mid rfl _ _ w.heap.size _ _ rfl hr hUd hdr (by rw [Array.length_toList,unhide HSz]; exact hIB)) rfl ⟨below_setCells (Nat.le_refl _) _ _ _ hBw,C,by simp,?_⟩
   have hn:=unhide Hn
   subst hn
   have hmv:JRow (x3.setCells w.heap.size 0 C.toList) base a l:=(unhide HJ).moved (by rw [hz]; exact hBw.size) (fun g _ hg _=>(hk g (by omega)).trans (hBw.block g hg))
   exact ⟨a,cap,_,_,q,sc,hC,hmv,((own_jrow (outN_len l 15) (h1.own (outN_len l 15))).mono (b':=w.heap.size+1) (by omega)).touch hz hk (by omega) |>.mono (by omega),((own_jrow rfl h2 (unhide HNe)).mono (b':=w.heap.size+1) (by omega)).touch hz hk (by omega) |>.mono (by omega)⟩
def litSym_any:=@bSym_any bkL (.inl rfl)
def litFB_any:=@bFB_any bkL (.inl rfl)
def distSym_any:=@bSym_any bkD (.inr (.inl rfl))
def distFB_any:=@bFB_any bkD (.inr (.inl rfl))
def lenSym_any:=@bSym_any bkN (.inr (.inr rfl))
def lenFB_any:=@bFB_any bkN (.inr (.inr rfl))
end Go.Proofs.YtkdlcomfpffhhaaGreatDoor
namespace Go.Proofs.YtkdlcomfpffhhaaGreatDoor
open Go.RowKit Corb
def Sou (w:World) (b:Nat) (s:ByteArray) (p:Nat) (T:List UInt8):Prop:=
 Rdr w b s p∧∃ v,w.cell? ⟨b,3,none⟩=some v∧w.frozen? ⟨b,3,none⟩=false∧BOwn w (b+1) v T
theorem BOwn.keep1 {w w':World} {b base:Nat} {v:Value} {l:List UInt8} (h:BOwn w base v l) (hk:Keep1 b w w') (hb:b<base):BOwn w' base v l:=hk.own h hb
theorem Sou.keep1 {w w':World} {b p q:Nat} {s:ByteArray} {T:List UInt8} (h:Sou w b s p T) (hk:Keep1 b w w') (hr:Rdr w' b s q):Sou w' b s q T:=by
 obtain ⟨_,v,c,f,o⟩:=h
 exact ⟨hr,v,(hk.3 3 (Nat.le_refl _)).1.trans c,(hk.3 3 (Nat.le_refl _)).2.trans f,o.keep1 hk (Nat.lt_succ_self _)⟩
theorem Sou.lt {w:World} {b p:Nat} {s:ByteArray} {T:List UInt8} (h:Sou w b s p T):b<w.heap.size:=h.1.lt
structure KU (b:Nat) (w w':World):Prop where
 below:Below b w w'
 keep:∀ k,k<w.heap.size→k≠b→(∀ cur fr,w.heap[k]?≠some (.cells cur 5 fr))→w'.heap[k]?=w.heap[k]?
theorem KU.refl (b:Nat) (w:World):KU b w w:=⟨Below.refl _ _,fun _ _ _ _=>rfl⟩
theorem KU.trans {b:Nat} {w w1 w2:World} (h:KU b w w1) (k:KU b w1 w2):KU b w w2:=
 ⟨h.1.trans k.1,fun j hj hne hn=>(k.2 j (Nat.lt_of_lt_of_le hj h.1.size) hne (by rw [h.2 j hj hne hn]; exact hn)).trans (h.2 j hj hne hn)⟩
theorem Keep1.ku {b:Nat} {w w':World} (h:Keep1 b w w'):KU b w w':=⟨h.1,fun j hj hne _=>h.2 j hj hne⟩
theorem KU.later {b:Nat} {w w1 w2:World} (h:KU b w w1) (hb:Below w1.heap.size w1 w2) (hbw:b<w1.heap.size):KU b w w2:=
 ⟨h.1.trans (hb.mono (Nat.le_of_lt hbw)),fun j hj hne hn=>(hb.block j (Nat.lt_of_lt_of_le hj h.1.size)).trans (h.2 j hj hne hn)⟩
theorem Sou.later {w w':World} {b p:Nat} {s:ByteArray} {T:List UInt8} (h:Sou w b s p T) (hb:Below w.heap.size w w'):Sou w' b s p T:=by
 obtain ⟨r,v,c,f,o⟩:=h
 exact ⟨r.kept (hb.mono r.lt),v,(hb.cell (p:=⟨b,3,none⟩) r.lt).trans c,(hb.frozen (p:=⟨b,3,none⟩) r.lt).trans f,o.later hb (Nat.le_refl _)⟩
theorem JRow.ku {w w':World} {base b:Nat} {a:Option Addr} {l:List Int} (h:JRow w base a l) (hk:KU b w w') (hb:b<base):JRow w' base a l:=h.moved hk.1.size (fun g h1 hg hn=>hk.2 g hg (by omega) hn)
theorem BookV.ku {w w':World} {base b:Nat} {l:List Int} {C:Array Value} (h:BookV w base l C) (hk:KU b w w') (hb:b<base):BookV w' base l C:=by
 obtain ⟨a,cap,ac,cc,q,sc,e,h1,h2,h3⟩:=h
 exact ⟨a,cap,ac,cc,q,sc,e,h1.ku hk hb,h2.ku hk hb,h3.ku hk hb⟩
theorem Books.ku {w w':World} {base b:Nat} {L D:List Int} {C:Array Value} (h:Books w base L D C) (hk:KU b w w') (hb:b<base):Books w' base L D C:=by
 obtain ⟨C1,C2,e,h1,h2⟩:=h
 exact ⟨C1,C2,e,h1.ku hk hb,h2.ku hk hb⟩
theorem Books.keep1 {w w':World} {base b:Nat} {L D:List Int} {C:Array Value} (h:Books w base L D C) (hk:Keep1 b w w') (hb:b<base):Books w' base L D C:=h.ku hk.ku hb
theorem bown_under {w:World} {base b o:Nat} {v:Value} {l:List UInt8} (h:BOwn w base v l) (hb:b<base) (u:Value):BOwn (w.setCell ⟨b,o,none⟩ u) base v l:=by
 refine ⟨h.1,?_⟩
 rcases h.2 with hn | ⟨g,cap,cur,rfl,hbg,hgg,rest⟩
 ·
  exact .inl hn
 ·
  exact .inr ⟨g,cap,cur,rfl,hbg,(Below.heap_setCell _ _ _ g (by show g≠b; omega)).trans hgg,rest⟩
def LayP (w:World) (b:Nat) (s:ByteArray) (d:Option (List UInt8×Nat)) (e:Ending) (w':World):Prop:=
 KU b w w'∧match d with
  | none=>e=faultE
  | some (T,q)=>e = .returned (.tuple #[])∧Sou w' b s q T
set_option maxHeartbeats 1600000 in
theorem lay_any (b p:Nat) (s:ByteArray) (T:List UInt8) (t:Tk) (w:World) (h:Sou w b s p T) (hT:T.length≤300) (ho:okT t=true) :
  Calls Tryz.prog 268 #[.pointer (some ⟨b,0,none⟩),tokV t] w (LayP w b s ((addL T t).map fun x=>(x,p))):=by
 have hlt:=h.lt
 obtain ⟨hr,v,c3,f3,hw⟩:=h
 obtain ⟨n,hn⟩:∃ n,T.length=n:=⟨_,rfl⟩
 obtain ⟨a,cap,rfl⟩:=hw.formN hn
 have HL:=hide (U.lzLay_any (b+1) n cap a T t w hn hw (by omega) hlt ho)
 have HR:=hide hr
 have HF:=hide f3
 unfold LayP
 rcases hA:addL T t with _ | T'
 ·
  rw [hA] at HL
  simp only [Option.map_none]
  clear hA hw hT hn ho hr f3
  generalize tokV t=tv at *
  go_enter Tryz.func268,Tryz.ntmps268
  go_wp2_with fail
  refine (unhide HL).mono ?_
  rintro e x1 ⟨v1,rfl,o1,b1⟩
  simp only [Option.isSome_none]
  have HK:Hid (KU b w x1):=⟨b1.1.mono (Nat.le_succ _),fun j hj _ hn=>b1.2 j hj hn⟩
  clear o1 b1 HL
  go_wp2_with fail
  refine (need_no _).mono ?_
  rintro e x2 ⟨rfl,hx2⟩
  rw [hx2]
  clear hx2 x2
  exact ⟨rfl,unhide HK,rfl⟩
 ·
  rw [hA] at HL
  simp only [Option.map_some]
  clear hA hw hT hn ho hr f3
  generalize tokV t=tv at *
  go_enter Tryz.func268,Tryz.ntmps268
  go_wp2_with fail
  refine (unhide HL).mono ?_
  rintro e x1 ⟨v1,rfl,o1,b1⟩
  simp only [Option.isSome_some,Option.getD_some] at o1 ⊢
  have HK:Hid (KU b w x1):=⟨b1.1.mono (Nat.le_succ _),fun j hj _ hn=>b1.2 j hj hn⟩
  have hr1:=(unhide HR).kept b1.1
  have c31:=(b1.1.cell (p:=⟨b,3,none⟩) (Nat.lt_succ_self b)).trans c3
  have f31:=(b1.1.frozen (p:=⟨b,3,none⟩) (Nat.lt_succ_self b)).trans (unhide HF)
  obtain ⟨a1,cap1,rfl⟩:=o1.form
  have HX:=hide (And.intro hr1 o1)
  clear o1 b1 HL hr1
  go_wp2_with fail
  refine (need_yes _).mono ?_
  rintro e x2 ⟨rfl,hx2⟩
  rw [hx2]
  clear hx2 x2
  go_wp2
  go_end0
  have hk:KU b w (x1.setCell ⟨b,3,none⟩ (.slice a1 T'.length cap1)):=(unhide HK).trans ⟨below_set (Below.refl _ _) (Nat.le_refl _) _,fun j _ hne _=>Below.heap_setCell _ _ _ j hne⟩
  refine ⟨hk,rfl,?_,.slice a1 T'.length cap1,World.cell?_setCell_same _ _ _ c31,by simpa using f31,?_⟩
  ·
   obtain ⟨c0,c1,c2,g0,g1,g2,hb⟩:=(unhide HX).1
   exact ⟨by rw [World.cell?_setCell_other _ _ _ _ (by simp)]; exact c0,by rw [World.cell?_setCell_other _ _ _ _ (by simp)]; exact c1,by rw [World.cell?_setCell_other _ _ _ _ (by simp)]; exact c2,by simpa using g0,by simpa using g1,by simpa using g2,by simpa using hb⟩
  ·
   exact bown_under (unhide HX).2 (Nat.lt_succ_self _) _
def TkP (w:World) (b:Nat) (s:ByteArray) (d:Option (Tk×Nat)) (e:Ending) (w':World):Prop:=
 Keep1 b w w'∧match d with
  | none=>e=faultE
  | some (t,q)=>e = .returned (tokV t)∧Rdr w' b s q
def okG (d:Option (Tk×Nat)):Option (Tk×Nat):=d.bind fun t=>if okT t.1=true then some t else none
theorem two_ranges {w:World} {base:Nat} {L D:List Int} {C:Array Value} (h:Books w base L D C):∃ C1 C2,C=C1++C2∧BookV w base L C1∧BookV w base D C2∧(w.alloc (.cells C 184)).rangeAt w.heap.size 0 C1.toList∧(w.alloc (.cells C 184)).rangeAt w.heap.size 19 C2.toList:=by
 obtain ⟨C1,C2,rfl,h1,h2⟩:=h
 obtain ⟨r1,r2⟩:=books_range (alloc_at w (.cells (C1++C2) 184)) h1.size
 exact ⟨C1,C2,rfl,h1,h2,r1,r2⟩
theorem range_keep1 {w w':World} {b g o:Nat} {cs:List Value} (h:w.rangeAt g o cs) (hk:Keep1 b w w') (hg:g<w.heap.size) (hne:g≠b):w'.rangeAt g o cs:=fun j v hv=>by
 rw [←h j v hv]
 exact World.cell?_of_block (w:=w) (hk.2 g hg hne)
theorem tokenB_any (b p k:Nat) (C:Array Value) (s:ByteArray) (w:World) (hr:Rdr w b s p) (hk:k<256) :
  Calls Tryz.prog 281 #[.pointer (some ⟨b,0,none⟩),.int .i64 (k:Nat),.agg C] w fun e w'=>Keep1 b w w'∧e = .returned (tokV ((k:Nat),0,0))∧Rdr w' b s p:=by
 have hB:isB (((k:Nat):Int),0,0)=true:=by unfold isB inB; simp; omega
 rw [tokV_B hB]
 have hkI:(k:Int)<256:=by omega
 have hu:IntKind.u8.wrap (k:Int)=(k:Int):=u8_id (by omega) (by omega)
 have HK:Hid (Keep1 b w (w.alloc (.cells C 184))):=(Keep1.refl b w).alloc hr.lt _
 have HR:Hid (Rdr (w.alloc (.cells C 184)) b s p):=hr.alloc _
 clear hr hk hB
 go_enter Tryz.func281,Tryz.ntmps281
 go_wp2
 go_ret
 exact ⟨unhide HK,rfl,unhide HR⟩
set_option maxRecDepth 100000 in
set_option maxHeartbeats 3200000 in
theorem tokenK_any (b p k base:Nat) (L D:List Int) (C:Array Value) (s:ByteArray) (w:World) (hr:Rdr w b s p) (hk:k≤900) (hBk:Books w base L D C) (hbb:b<base) (hok:lensOk D=true) (hs:s.size≤2000000) :
  Calls Tryz.prog 281 #[.pointer (some ⟨b,0,none⟩),.int .i64 ((k:Nat)+257),.agg C] w (TkP w b s (okG (backG (numB s) (8*s.size) D k p))):=by
 have hmix:Tryz.prog.follows .mixedOrders=true:=by kernel_rfl
 obtain ⟨d,hd⟩:∃ d,okG (backG (numB s) (8*s.size) D k p)=d:=⟨_,rfl⟩
 rw [hd]
 have Hd:=hide hd
 obtain ⟨C1,C2,rfl,h1,h2,r1,r2⟩:=two_ranges hBk
 have hlt:=hr.lt
 have hA:Below w.heap.size w (w.alloc (.cells (C1++C2) 184)):=(Below.refl _ _).alloc (Nat.le_refl _) _
 have hne:w.heap.size≠b:=by omega
 have hi2:(Tryz.prog.info? 182).map (·.size)=some C2.size:=by rw [h2.size]; exact Tryz.infoDistB
 have HW:=hide (And.intro ((Keep1.refl b w).alloc hlt (.cells (C1++C2) 184)) (And.intro (hr.alloc (.cells (C1++C2) 184)) (And.intro (h2.later hA) r2)))
 have hszA:w.heap.size<(w.alloc (.cells (C1++C2) 184)).heap.size:=by simp
 have HS:=hide hs
 have HOK:=hide hok
 have HBB:=hide hbb
 clear hr hBk h1 h2 r1 r2 hd hs hok hbb
 go_enter Tryz.func281,Tryz.ntmps281
 go_wp2_with fail
 generalize w.alloc (.cells (C1++C2) 184)=w1 at *
 generalize hgs:w.heap.size=g at *
 clear hgs hA hlt
 refine (longScale_any w1).mono ?_
 rintro e w2 ⟨rfl,b2⟩
 have hk2:=(unhide HW).1.later b2 (unhide HW).2.1.lt
 have hr2:=(unhide HW).2.1.kept (b2.mono (unhide HW).2.1.lt)
 have hv2:=(unhide HW).2.2.1.later b2
 have hg2:w2.rangeAt g 19 C2.toList:=range_later (unhide HW).2.2.2 b2 hszA
 have hgw2:g<w2.heap.size:=Nat.lt_of_lt_of_le hszA b2.size
 have HSc:=hide (scaled_any 3 4 28 b p k s w2 hr2 (unhide HS) (by omega) (by omega) (by omega) (by omega) (fun k h=>by omega) (by omega))
 have HW2:=hide (And.intro hk2 (And.intro hv2 hg2))
 clear b2 hk2 hr2 hv2 hg2 HW hszA
 have ek:(k:Int)+257-256-1=(k:Int):=by omega
 unfold NumP at HSc
 rcases h1:scG (numB s) (8*s.size) 3 4 28 k p with _ | ⟨x,q1⟩
 ·
  rw [h1] at HSc
  have Hn:Hid (d=none):=by show d=none; rw [←unhide Hd]; unfold okG backG; rw [h1]; rfl
  clear h1
  go_wp2_with fail
  refine (unhide HSc).mono ?_
  rintro e x3 ⟨k3,rfl⟩
  refine ⟨rfl,?_⟩; unfold TkP; rw [unhide Hn]; exact ⟨(unhide HW2).1.trans k3,rfl⟩
 ·
  rw [h1] at HSc
  have hb1:=scG_bd h1
  have H1:=hide h1
  have Hq1:=hide hb1.1
  clear h1 hb1
  go_wp2_with fail
  refine (unhide HSc).mono ?_
  rintro e x3 ⟨k3,rfl,r3⟩
  have hk3:=(unhide HW2).1.trans k3
  have hv3:=(unhide HW2).2.1.keep1 k3 (unhide HBB)
  have hg3:=range_keep1 (unhide HW2).2.2 k3 hgw2 hne
  have hgw3:g<x3.heap.size:=Nat.lt_of_lt_of_le hgw2 k3.1.size
  have HW3:=hide (And.intro hk3 (And.intro hv3 (And.intro hg3 r3)))
  clear k3 hk3 hv3 hg3 r3 HSc HW2 hgw2
  have HSW:Hid (∀ W,Keep1 b x3 W→W.rangeAt g 19 C2.toList):=fun W h=>range_keep1 (unhide HW3).2.2.1 h hgw3 hne
  have hk0:Keep1 b x3 x3.drew:=(Keep1.refl b x3).drew
  go_wp2_with fail
  refine wp_region_held_drew (S:=fun W=>W.rangeAt g 19 C2.toList) hmix (unhide HSW _ hk0) (fun hS=>?_)
  refine wpAnyH_take (i:=0) (v:=.pointer (some ⟨b,0,none⟩)) rfl (by kernel_rfl) (by kernel_rfl) (by kernel_rfl) (fun _ _ _ h=>h) (Or.inl ⟨by rfl,fun W hSw=>by go_simp⟩) hS ?_
  refine wpAnyH_take (i:=2) (v:=.pointer (some ⟨b,0,none⟩)) rfl (by kernel_rfl) (by kernel_rfl) (by kernel_rfl) (fun _ _ _ h=>h) (Or.inl ⟨by rfl,fun W hSw=>by go_simp⟩) hS ?_
  refine wpAnyH_take (i:=3) (v:=.pointer (some ⟨g,19,none⟩)) rfl (by kernel_rfl) (by kernel_rfl) (by kernel_rfl) (fun _ _ _ h=>h) (Or.inl ⟨by rfl,fun W hSw=>by go_simp⟩) hS ?_
  refine wpAnyH_take (i:=4) (v:=.agg C2) rfl (by kernel_rfl) (by kernel_rfl) (by kernel_rfl) (fun _ _ _ h=>h) (yieldsIf_load_half (by rfl) 182 (.tmp 25) rfl g 19 rfl C2 _ (fun _ h=>h) Tryz.underlying182 rfl hi2) hS ?_
  refine wpAnyH_ready (rs:=[1]) (by kernel_rfl) (by simp) ?_
  refine AllReadyH.cons rfl (fun K hK=>?_) AllReadyH.nil
  go_simp
  go_at_call 213
  refine (backScale_any _).mono ?_
  rintro e x4 ⟨rfl,b4⟩
  have k4:Keep1 b x3 x4:=hk0.later b4 (unhide HW3).2.2.2.lt
  have r4:Rdr x4 b s q1:=Rdr.kept (w:=x3.drew) (show Rdr x3.drew b s q1 from (unhide HW3).2.2.2) (b4.mono (unhide HW3).2.2.2.lt)
  have v4:=(unhide HW3).2.1.keep1 k4 (unhide HBB)
  have HDy:=hide (distSym_any b q1 base C2 D s x4 v4 (unhide HBB) (unhide HOK) (unhide HS) r4 (unhide Hq1))
  refine Shut.out hK _ _ (unhide HSW _ k4) (fun hS2=>?_)
  clear hK K b4 v4
  refine wpAnyH_ready (rs:=[5]) (by kernel_rfl) (by simp) ?_
  refine AllReadyH.cons rfl (fun K hK=>?_) AllReadyH.nil
  go_simp
  go_at_call 288
  unfold SyP at HDy
  rcases h2:dec D (numB s) (8*s.size) q1 with _ | ⟨j,q2⟩
  ·
   rw [h2] at HDy
   have Hn:Hid (d=none):=by show d=none; rw [←unhide Hd]; unfold okG backG; rw [unhide H1]; simp only [Option.bind_some]; rw [h2]; rfl
   refine (unhide HDy).mono ?_
   rintro e x5 ⟨k5,rfl⟩
   refine ⟨rfl,?_⟩; unfold TkP; rw [unhide Hn]; exact ⟨(unhide HW3).1.trans (k4.trans k5),rfl⟩
  ·
   rw [h2] at HDy
   have hb2:=dec_bd h2
   have H2:=hide h2
   refine (unhide HDy).mono ?_
   rintro e x5 ⟨k5,rfl,r5⟩
   have k35:=k4.trans k5
   refine Shut.out hK _ _ (unhide HSW _ k35) (fun hS3=>?_)
   clear hK K k5 k4 r4 HDy
   obtain ⟨jn,hj⟩:=Int.eq_ofNat_of_zero_le hb2.2.2.1
   subst hj
   have hj300:jn≤1000:=by have:=lensOk_len (unhide HOK); omega
   have HSc2:=hide (scaled_any 1 2 30 b q2 jn s x5 r5 (unhide HS) (by omega) (by omega) (by omega) (by omega) (fun k h=>by omega) hj300)
   refine wpAnyH_ready (rs:=[6]) (by kernel_rfl) (by simp) ?_
   refine AllReadyH.cons rfl (fun K hK=>?_) AllReadyH.nil
   go_simp
   go_at_call 287
   unfold NumP at HSc2
   rcases h3:scG (numB s) (8*s.size) 1 2 30 jn q2 with _ | ⟨y,q3⟩
   ·
    rw [h3] at HSc2
    have Hn:Hid (d=none):=by show d=none; rw [←unhide Hd]; unfold okG backG; rw [unhide H1]; simp only [Option.bind_some]; rw [unhide H2]; simp only [Option.bind_some,Int.toNat_natCast]; rw [h3]; rfl
    refine (unhide HSc2).mono ?_
    rintro e x6 ⟨k6,rfl⟩
    refine ⟨rfl,?_⟩; unfold TkP; rw [unhide Hn]; exact ⟨(unhide HW3).1.trans (k35.trans k6),rfl⟩
   ·
    rw [h3] at HSc2
    have H3:=hide h3
    refine (unhide HSc2).mono ?_
    rintro e x6 ⟨k6,rfl,r6⟩
    have k36:=k35.trans k6
    refine Shut.out hK _ _ (unhide HSW _ k36) (fun hS4=>?_)
    clear hK K
    refine wpAnyH_ready (rs:=[7]) (by kernel_rfl) (by simp) ?_
    refine AllReadyH.cons rfl (fun K hK=>?_) AllReadyH.nil
    go_simp
    refine Shut.out hK _ _ (unhide HSW _ k36) (fun hS5=>?_)
    clear hK K
    refine wpAnyH_done (by kernel_rfl) ?_ _
    have HE:Hid (d=if okT (0,(x:Int),(y:Int))=true then some ((0,(x:Int),(y:Int)),q3) else none):=by
     show d=_
     rw [←unhide Hd]; unfold okG backG; rw [unhide H1]; simp only [Option.bind_some]; rw [unhide H2]; simp only [Option.bind_some,Int.toNat_natCast]; rw [unhide H3]; rfl
    have HK6:=hide (And.intro ((unhide HW3).1.trans k36) r6)
    have HLo:=hide (fun W=>lzOf_any (0,(x:Int),(y:Int)) W)
    clear hS hS2 hS3 hS4 hS5 k36 k35 k6 r6 r5 HSW hk0 h2 h3 hb2 hj300 HSc2
    simp only at HLo
    go_wp2_with fail
    refine (unhide HLo _).mono ?_
    rintro e x7 ⟨rfl,b7⟩
    have HK7:=hide (And.intro ((unhide HK6).1.later b7 (unhide HK6).2.lt) ((unhide HK6).2.kept (b7.mono (unhide HK6).2.lt)))
    clear b7 HK6 HLo
    cases hok:okT (0,(x:Int),(y:Int))
    ·
     have Hn:Hid (d=none):=by show d=none; rw [unhide HE,hok]; rfl
     clear hok
     generalize tokV (0,(x:Int),(y:Int))=tv at *
     go_wp2_with fail
     refine (need_no _).mono ?_
     rintro e x8 ⟨rfl,hx8⟩
     rw [hx8]
     clear hx8 x8
     refine ⟨rfl,?_⟩; unfold TkP; rw [unhide Hn]; exact ⟨(unhide HK7).1,rfl⟩
    ·
     have Hn:Hid (d=some ((0,(x:Int),(y:Int)),q3)):=by show d=_; rw [unhide HE,hok]; rfl
     clear hok
     obtain ⟨t,ht⟩:∃ t:Tk,(0,(x:Int),(y:Int))=t:=⟨_,rfl⟩
     rw [ht] at Hn ⊢
     clear ht
     generalize htv:tokV t=tv at *
     have HTv:=hide htv
     clear htv
     go_wp2_with fail
     refine (need_yes _).mono ?_
     rintro e x8 ⟨rfl,hx8⟩
     rw [hx8]
     clear hx8 x8
     go_wp2
     go_ret
     unfold TkP
     rw [unhide Hn]
     exact ⟨(unhide HK7).1,by rw [unhide HTv]; rfl,(unhide HK7).2⟩
set_option maxRecDepth 100000 in
set_option maxHeartbeats 3200000 in
theorem storePart_any (b p:Nat) (s:ByteArray) (T:List UInt8) (w:World) (h:Sou w b s p T) (hT:T.length≤300) (hp:p≤8*s.size) (hs:s.size≤2000000) :
  Calls Tryz.prog 246 #[.pointer (some ⟨b,0,none⟩)] w (LayP w b s (storeG (numB s) (8*s.size) p T)):=by
 obtain ⟨d,hd⟩:∃ d,storeG (numB s) (8*s.size) p T=d:=⟨_,rfl⟩
 rw [hd]
 have Hd:=hide hd
 have HW:=hide (wholeByte_any b p s w h.1 hs hp)
 have HS:=hide h
 have HN:=hide (And.intro hs hT)
 clear h hT hp hs hd
 go_enter Tryz.func246,Tryz.ntmps246
 unfold storeG at Hd
 rcases h1:restG (numB s) p with _ | q
 ·
  rw [h1] at HW
  have Hn:Hid (d=none):=by show d=none; rw [←unhide Hd,h1]; rfl
  clear h1 Hd
  go_wp2_with fail
  refine (unhide HW).mono ?_
  rintro e x1 ⟨k1,rfl⟩
  refine ⟨rfl,?_⟩; unfold LayP; rw [unhide Hn]; exact ⟨k1.ku,rfl⟩
 rw [h1] at HW Hd
 clear h1
 simp only [Option.bind_some] at Hd
 go_wp2_with fail
 refine (unhide HW).mono ?_
 rintro e x1 ⟨k1,rfl,r1⟩
 have HS1:=hide (And.intro k1.ku ((unhide HS).keep1 k1 r1))
 clear k1 r1 HS HW
 have HM:=hide (number_any b q 16 s x1 (unhide HS1).2.1 (unhide HN).1 (by omega))
 rcases h2:rdN (numB s) (8*s.size) q 16 with _ | ⟨a,q2⟩
 ·
  rw [h2] at HM
  unfold NumP at HM
  have Hn:Hid (d=none):=by show d=none; rw [←unhide Hd,h2]; rfl
  clear h2 Hd
  go_wp2_with fail
  refine (unhide HM).mono ?_
  rintro e x2 ⟨k2,rfl⟩
  refine ⟨rfl,?_⟩; unfold LayP; rw [unhide Hn]; exact ⟨(unhide HS1).1.trans k2.ku,rfl⟩
 rw [h2] at HM Hd
 unfold NumP at HM
 have ha:a≤65535:=by have:=(rdN_bd h2).2.2.2; omega
 clear h2
 simp only [Option.bind_some] at Hd
 go_wp2_with fail
 refine (unhide HM).mono ?_
 rintro e x2 ⟨k2,rfl,r2⟩
 have HS2:=hide (And.intro ((unhide HS1).1.trans k2.ku) ((unhide HS1).2.keep1 k2 r2))
 clear k2 r2 HS1 HM
 have HM:=hide (number_any b q2 16 s x2 (unhide HS2).2.1 (unhide HN).1 (by omega))
 rcases h3:rdN (numB s) (8*s.size) q2 16 with _ | ⟨c,q3⟩
 ·
  rw [h3] at HM
  unfold NumP at HM
  have Hn:Hid (d=none):=by show d=none; rw [←unhide Hd,h3]; rfl
  clear h3 Hd
  go_wp2_with fail
  refine (unhide HM).mono ?_
  rintro e x3 ⟨k3,rfl⟩
  refine ⟨rfl,?_⟩; unfold LayP; rw [unhide Hn]; exact ⟨(unhide HS2).1.trans k3.ku,rfl⟩
 rw [h3] at HM Hd
 unfold NumP at HM
 simp only [Option.bind_some] at Hd
 go_wp2_with fail
 refine (unhide HM).mono ?_
 rintro e x3 ⟨k3,rfl,r3⟩
 have HS3:=hide (And.intro ((unhide HS2).1.trans k3.ku) ((unhide HS2).2.keep1 k3 r3))
 clear k3 r3 HS2 HM
 have hx:bits .xor .i64 (a:Int) 65535=((65535-a:Nat):Int):=by
  rw [←xor_full a ha]
  exact i64_xor_nat a 65535 (by omega) (by omega)
 by_cases hca:c=65535-a
 ·
  rw [if_pos hca] at Hd
  have hb:((c:Int) == bits .xor .i64 (a:Int) 65535)=true:=by rw [hx,hca]; exact beq_self_eq_true _
  clear h3 hx hca
  go_wp2_with fail
  refine (need_yes _).mono ?_
  rintro e x4 ⟨rfl,hx4⟩
  rw [hx4]
  clear hx4 x4 hb
  go_wp2_with fail
  go_loopw [14] (fun i wr=>∃ (k q:Nat) (R:List UInt8),k≤a∧i = .int .i64 k∧KU b w wr∧Sou wr b s q R∧R.length≤300∧bytesG (numB s) (8*s.size) (a-k) q R=d) (fun i _=>a-(intOf i).toNat)
  case atStart=>exact ⟨0,q3,T,Nat.zero_le _,rfl,(unhide HS3).1,(unhide HS3).2,(unhide HN).2,unhide Hd⟩
  case round=>
   obtain ⟨k,q,R,hk,rfl,hku,hsou,hR,hg⟩:=hrel
   clear HS3 Hd
   have HKU:=hide hku
   have HSO:=hide hsou
   have HG:=hide hg
   have HR:=hide hR
   clear hku hsou hg hR hk
   by_cases hlt:k<a
   ·
    have hltI:(k:Int)<(a:Int):=by omega
    have e1:a-k=(a-(k+1))+1:=by omega
    have HM:=hide (number_any b q 8 s wr (unhide HSO).1 (unhide HN).1 (by omega))
    rw [e1] at HG
    simp only [bytesG] at HG
    clear e1
    rcases h4:rdN (numB s) (8*s.size) q 8 with _ | ⟨y,q4⟩
    ·
     rw [h4] at HM HG
     unfold NumP at HM
     have Hn:Hid (d=none):=by show d=none; rw [←unhide HG]; rfl
     clear h4 HG
     go_wp2_with fail
     refine (unhide HM).mono ?_
     rintro e x5 ⟨k5,rfl⟩
     refine ⟨rfl,?_⟩; unfold LayP; rw [unhide Hn]; exact ⟨(unhide HKU).trans k5.ku,rfl⟩
    rw [h4] at HM HG
    unfold NumP at HM
    have hy:y<256:=by have:=(rdN_bd h4).2.2.2; omega
    have hu:IntKind.u8.wrap (y:Int)=(y:Int):=u8_id (by omega) (by omega)
    have hB:isB (((y:Nat):Int),0,0)=true:=by unfold isB inB; simp; omega
    have hok:okT (((y:Nat):Int),0,0)=true:=by unfold okT; rw [hB]; rfl
    have HTV:=hide (tokV_B hB)
    clear h4 hB
    simp only [Option.bind_some] at HG
    go_wp2_with fail
    refine (unhide HM).mono ?_
    rintro e x5 ⟨k5,rfl,r5⟩
    have HKU5:=hide ((unhide HKU).trans k5.ku)
    have HSO5:=hide ((unhide HSO).keep1 k5 r5)
    clear k5 r5 HM HKU HSO
    have HL:=hide (lay_any b q4 s R (((y:Nat):Int),0,0) x5 (unhide HSO5) (unhide HR) hok)
    rw [unhide HTV] at HL
    clear hok HTV
    go_wp2_with fail
    refine (unhide HL).mono ?_
    intro e x6 h6
    unfold LayP at h6
    rcases h7:addL R (((y:Nat):Int),0,0) with _ | R'
    ·
     rw [h7] at h6 HG
     obtain ⟨k6,rfl⟩:=h6
     have Hn:Hid (d=none):=by show d=none; rw [←unhide HG]; rfl
     refine ⟨rfl,?_⟩; unfold LayP; rw [unhide Hn]; exact ⟨(unhide HKU5).trans k6,rfl⟩
    rw [h7] at h6 HG
    obtain ⟨k6,rfl,s6⟩:=h6
    simp only [Option.bind_some] at HG
    have HR':=hide (addL_len h7)
    have HKU6:=hide ((unhide HKU5).trans k6)
    have HSO6:=hide s6
    clear k6 s6 h7 HKU5 HSO5 HL HR
    go_wp2_with fail
    go_roundw
    case rel=>exact ⟨k+1,q4,R',hlt,by go_num,unhide HKU6,unhide HSO6,unhide HR',unhide HG⟩
    case measure=>simp [intOf]; omega
   ·
    have hltI:¬ (k:Int)<(a:Int):=by omega
    have e0:a-k=0:=by omega
    rw [e0] at HG
    simp only [bytesG] at HG
    go_wp2
    go_end0
    unfold LayP
    rw [←unhide HG]
    exact ⟨unhide HKU,rfl,unhide HSO⟩
 ·
  rw [if_neg hca] at Hd
  have hb:((c:Int) == bits .xor .i64 (a:Int) 65535)=false:=by rw [hx,beq_eq_false_iff_ne]; omega
  have Hn:Hid (d=none):=by show d=none; rw [←unhide Hd]
  clear Hd hx hca h3
  go_wp2_with fail
  refine (need_no _).mono ?_
  rintro e x4 ⟨rfl,hx4⟩
  rw [hx4]
  clear hx4 x4
  refine ⟨rfl,?_⟩; unfold LayP; rw [unhide Hn]; exact ⟨(unhide HS3).1,rfl⟩
def nextG (V sz:Nat) (L D:List Int) (k:Int) (q:Nat) (R:List UInt8):Option (List UInt8×Nat):=
 if k=256 then some (R,q) else (oneG V sz D k q).bind fun t=>(addL R t.1).bind fun T'=>tokG V sz L D t.2 T'
theorem tokG_next {V sz:Nat} {L D:List Int} {p:Nat} {T:List UInt8} : tokG V sz L D p T=(dec L V sz p).bind fun k=>nextG V sz L D k.1 k.2 T:=by
 rcases h:dec L V sz p with _ | ⟨i,q⟩
 ·
  rw [tokG_none h]; rfl
 ·
  simp only [Option.bind_some]
  unfold nextG
  by_cases hi:i=256
  ·
   subst hi
   rw [tokG_end h,if_pos rfl]
  ·
   rw [tokG_step h hi,if_neg hi]
theorem nextG_bad {V sz:Nat} {L D:List Int} {k:Int} {q:Nat} {R:List UInt8} (hk:k≠256) (h:okG (oneG V sz D k q)=none):nextG V sz L D k q R=none:=by
 unfold nextG
 rw [if_neg hk]
 unfold okG at h
 rcases h1:oneG V sz D k q with _ | ⟨t,r⟩
 ·
  rfl
 ·
  rw [h1] at h
  simp only [Option.bind_some] at h ⊢
  split at h
  ·
   cases h
  ·
   rw [addL_bad (Bool.eq_false_iff.2 (by assumption))]; rfl
theorem nextG_some {V sz:Nat} {L D:List Int} {k:Int} {q r:Nat} {t:Tk} {R:List UInt8} (hk:k≠256) (h:okG (oneG V sz D k q)=some (t,r)):oneG V sz D k q=some (t,r)∧okT t=true∧nextG V sz L D k q R=(addL R t).bind fun T'=>tokG V sz L D r T':=by
 unfold okG at h
 rcases h1:oneG V sz D k q with _ | ⟨t',r'⟩
 ·
  rw [h1] at h; cases h
 ·
  rw [h1] at h
  simp only [Option.bind_some] at h
  split at h
  ·
   simp only [Option.some.injEq,Prod.mk.injEq] at h
   obtain ⟨rfl,rfl⟩:=h
   refine ⟨rfl,by assumption,?_⟩
   unfold nextG
   rw [if_neg hk,h1]
   rfl
  ·
   cases h
theorem token_any (b p base:Nat) (k:Int) (L D:List Int) (C:Array Value) (s:ByteArray) (w:World) (hr:Rdr w b s p) (h0:0≤k) (hk:k≤1000) (hne:k≠256) (hBk:Books w base L D C) (hbb:b<base) (hok:lensOk D=true) (hs:s.size≤2000000) :
  Calls Tryz.prog 281 #[.pointer (some ⟨b,0,none⟩),.int .i64 k,.agg C] w (TkP w b s (okG (oneG (numB s) (8*s.size) D k p))):=by
 obtain ⟨n,rfl⟩:=Int.eq_ofNat_of_zero_le h0
 by_cases h:n<256
 ·
  have hB:isB (((n:Nat):Int),0,0)=true:=by unfold isB inB; simp; omega
  have hokt:okT (((n:Nat):Int),0,0)=true:=by unfold okT; rw [hB]; rfl
  have e:okG (oneG (numB s) (8*s.size) D (n:Int) p)=some ((((n:Nat):Int),0,0),p):=by
   unfold oneG okG
   rw [if_pos (by omega)]
   simp only [Option.bind_some]
   rw [if_pos hokt]
  rw [e]
  exact tokenB_any b p n C s w hr h
 ·
  obtain ⟨m,rfl⟩:∃ m,n=m+257:=⟨n-257,by omega⟩
  have e:oneG (numB s) (8*s.size) D ((m+257:Nat):Int) p=backG (numB s) (8*s.size) D m p:=by
   unfold oneG
   rw [if_neg (by omega)]
   rw [show (((m+257:Nat):Int).toNat-257)=m by omega]
  rw [e]
  exact tokenK_any b p m base L D C s w hr (by omega) hBk hbb hok hs
def placeN (b:Nat) (w:World):Nat:=match w.cell? ⟨b,1,none⟩ with
 | some v=>(intOf v).toNat
 | none=>0
theorem Sou.place {w:World} {b p:Nat} {s:ByteArray} {T:List UInt8} (h:Sou w b s p T) (hp:p≤8*s.size):placeN b w=p:=by
 have h1:=(h.1.at hp).2.1
 unfold placeN
 rw [h1]
 simp [intOf]
theorem whole_range {w:World} {g:Nat} {C:Array Value} {t:TypeId} (h:w.heap[g]?=some (Obj.cells C t)):w.rangeAt g 0 C.toList:=by
 intro j v hv
 rw [Nat.zero_add,blk_cell h]
 simpa using hv
theorem KU.books {w w':World} {b g:Nat} {C:Array Value} (h:KU b w w') (hg:w.heap[g]?=some (Obj.cells C 184)) (hne:g≠b):w'.heap[g]?=some (Obj.cells C 184):=by
 have hlt:g<w.heap.size:=by
  rcases Nat.lt_or_ge g w.heap.size with h1 | h1
  ·
   exact h1
  ·
   rw [Array.getElem?_eq_none h1] at hg; cases hg
 rw [h.2 g hlt hne (by intro cur fr hc; rw [hg] at hc; simp at hc)]
 exact hg
def TkI (b g base:Nat) (s:ByteArray) (L D:List Int) (C:Array Value) (d:Option (List UInt8×Nat)) (w:World) (i:Value) (wr:World):Prop:=
 ∃ (k:Int) (q:Nat) (R:List UInt8),i = .int .i64 k∧0≤k∧k≤1000∧KU b w wr∧Sou wr b s q R∧R.length≤300∧q≤8*s.size∧wr.heap[g]?=some (Obj.cells C 184)∧Books wr base L D C∧nextG (numB s) (8*s.size) L D k q R=d
set_option maxRecDepth 100000 in
set_option maxHeartbeats 3200000 in
theorem tokens_any (b p base:Nat) (s:ByteArray) (L D:List Int) (C:Array Value) (T:List UInt8) (w:World) (h:Sou w b s p T) (hT:T.length≤300) (hp:p≤8*s.size) (hs:s.size≤2000000) (hBk:Books w base L D C) (hbb:b<base) (hL:lensOk L=true) (hD:lensOk D=true) :
  Calls Tryz.prog 269 #[.pointer (some ⟨b,0,none⟩),.agg C] w (LayP w b s (tokG (numB s) (8*s.size) L D p T)):=by
 obtain ⟨d,hd⟩:∃ d,tokG (numB s) (8*s.size) L D p T=d:=⟨_,rfl⟩
 rw [hd]
 have hd:=tokG_next.symm.trans hd
 have hlt:=h.lt
 have hne:w.heap.size≠b:=by omega
 have hA:Below w.heap.size w (w.alloc (.cells C 184)):=(Below.refl _ _).alloc (Nat.le_refl _) _
 have hS1:=h.later hA
 have hB1:=hBk.later hA
 have hku:KU b w (w.alloc (.cells C 184)):=(KU.refl b w).later hA hlt
 have hat:=alloc_at w (.cells C 184)
 have HN:=hide (And.intro hs (And.intro hbb (And.intro hL hD)))
 have HT:=hide hT
 have HLn:=hide (lensOk_len hL)
 obtain ⟨C1,C2,rfl,b1,b2⟩:=hBk
 have hz1:=b1.size
 have hz2:=b2.size
 have HZ:=hide (And.intro hz1 (show (C1++C2).size=38 by rw [Array.size_append,hz1,hz2]))
 have HRG:Hid (∀ W:World,W.heap[w.heap.size]?=some (Obj.cells (C1++C2) 184)→W.rangeAt w.heap.size 0 C1.toList):=fun W h=>(books_range h hz1).1
 have HBV:Hid (∀ W,Books W base L D (C1++C2)→BookV W base L C1):=by
  intro W hW
  obtain ⟨E1,E2,e,f1,f2⟩:=hW
  have:=f1.size
  have e1:C1=E1:=by
   have h1:=congrArg Array.toList e
   simp only [Array.toList_append] at h1
   have h2:=List.append_inj h1 (by simp [hz1,this])
   exact Array.ext' h2.1
  rw [e1]; exact f1
 clear b1 b2 h hbb hL hD hT hz1 hz2 hs
 generalize hC:C1++C2=C at *
 go_enter Tryz.func269,Tryz.ntmps269
 have HX:=hide (And.intro hku (And.intro hS1 (And.intro hB1 hat)))
 clear hku hS1 hB1 hat hA
 have HSy:=hide (litSym_any b p base C1 L s (w.alloc (.cells C 184)) (unhide HBV _ (unhide HX).2.2.1) (unhide HN).2.1 (unhide HN).2.2.1 (unhide HN).1 (unhide HX).2.1.1 hp)
 clear hp
 unfold SyP at HSy
 rcases h1:dec L (numB s) (8*s.size) p with _ | ⟨k,q⟩
 ·
  rw [h1] at HSy hd
  have Hn:Hid (d=none):=by show d=none; rw [←hd]; rfl
  clear h1 hd
  go_wp2_with (refine wpList_load_half rfl 179 (.tmp 6) rfl w.heap.size 0 rfl C1 _ (unhide HRG _ (unhide HX).2.2.2) Tryz.underlying179 rfl (by rw [(unhide HZ).1]; exact Tryz.infoLitB) ?_)
  refine (unhide HSy).mono ?_
  rintro e x1 ⟨k1,rfl⟩
  refine ⟨rfl,?_⟩; unfold LayP; rw [unhide Hn]; exact ⟨(unhide HX).1.trans k1.ku,rfl⟩
 rw [h1] at HSy hd
 have hb:=dec_bd h1
 clear h1
 simp only [Option.bind_some] at hd
 go_wp2_with (refine wpList_load_half rfl 179 (.tmp 6) rfl w.heap.size 0 rfl C1 _ (unhide HRG _ (unhide HX).2.2.2) Tryz.underlying179 rfl (by rw [(unhide HZ).1]; exact Tryz.infoLitB) ?_)
 refine (unhide HSy).mono ?_
 rintro e x1 ⟨k1,rfl,r1⟩
 have HI:Hid (TkI b w.heap.size base s L D C d w (.int .i64 k) x1):=
  ⟨k,q,T,rfl,hb.2.2.1,by have:=unhide HLn; omega,(unhide HX).1.trans k1.ku,(unhide HX).2.1.keep1 k1 r1,unhide HT,hb.1,k1.ku.books (unhide HX).2.2.2 hne,(unhide HX).2.2.1.keep1 k1 (unhide HN).2.1,hd⟩
 clear k1 r1 HSy hb hd HX HT
 go_wp2_with fail
 go_loopw [4] (fun i wr=>TkI b w.heap.size base s L D C d w i wr) (fun _ wr=>8*s.size-placeN b wr)
 case atStart=>exact unhide HI
 case round=>
  obtain ⟨k,q,R,rfl,k0,k1,hku,hsou,hR,hq,hat,hbk,hn⟩:=hrel
  clear HI
  have HX:=hide (And.intro hku (And.intro hsou (And.intro hR (And.intro hq (And.intro hat hbk)))))
  have HNx:=hide hn
  have HPl:=hide (hsou.place hq)
  clear hku hsou hR hq hat hbk hn
  by_cases hk:k=256
  ·
   subst hk
   go_wp2
   go_end0
   unfold LayP
   rw [←unhide HNx]
   unfold nextG
   rw [if_pos rfl]
   exact ⟨(unhide HX).1,rfl,(unhide HX).2.1⟩
  have hkb:(k == 256)=false:=by rw [beq_eq_false_iff_ne]; exact hk
  have HTk:=hide (token_any b q base k L D C s wr (unhide HX).2.1.1 k0 k1 hk (unhide HX).2.2.2.2.2 (unhide HN).2.1 (unhide HN).2.2.2 (unhide HN).1)
  have HRW:=hide (whole_range (unhide HX).2.2.2.2.1)
  unfold TkP at HTk
  rcases h2:okG (oneG (numB s) (8*s.size) D k q) with _ | ⟨t,r⟩
  ·
   rw [h2] at HTk
   have Hn:Hid (d=none):=by show d=none; rw [←unhide HNx]; exact nextG_bad hk h2
   clear h2
   go_wp2_with (refine wpList_load_half rfl 184 (.tmp 3) rfl w.heap.size 0 rfl C _ (unhide HRW) Tryz.underlying184 rfl (by rw [(unhide HZ).2]; exact Tryz.infoBooks) ?_)
   refine (unhide HTk).mono ?_
   rintro e x2 ⟨k2,rfl⟩
   refine ⟨rfl,?_⟩; unfold LayP; rw [unhide Hn]; exact ⟨(unhide HX).1.trans k2.ku,rfl⟩
  rw [h2] at HTk
  obtain ⟨n1,n2,n3⟩:=nextG_some (L:=L) (R:=R) hk h2
  have Hrb:=hide (oneG_bd n1 (unhide HX).2.2.2.1)
  rw [n3] at HNx
  have Hok:=hide n2
  clear h2 n1 n2 n3
  go_wp2_with (refine wpList_load_half rfl 184 (.tmp 3) rfl w.heap.size 0 rfl C _ (unhide HRW) Tryz.underlying184 rfl (by rw [(unhide HZ).2]; exact Tryz.infoBooks) ?_)
  refine (unhide HTk).mono ?_
  rintro e x2 ⟨k2,rfl,r2⟩
  have HX2:=hide (And.intro ((unhide HX).1.trans k2.ku) (And.intro ((unhide HX).2.1.keep1 k2 r2) (And.intro (k2.ku.books (unhide HX).2.2.2.2.1 hne) ((unhide HX).2.2.2.2.2.keep1 k2 (unhide HN).2.1))))
  have HRq:=hide (And.intro (unhide HX).2.2.1 (unhide HX).2.2.2.1)
  clear k2 r2 HTk HX HRW
  have HLy:=hide (lay_any b r s R t x2 (unhide HX2).2.1 (unhide HRq).1 (unhide Hok))
  generalize tokV t=tv at *
  unfold LayP at HLy
  rcases h3:addL R t with _ | R'
  ·
   rw [h3] at HLy HNx
   have Hn:Hid (d=none):=by show d=none; rw [←unhide HNx]; rfl
   clear h3
   go_wp2_with fail
   refine (unhide HLy).mono ?_
   rintro e x3 ⟨k3,rfl⟩
   refine ⟨rfl,?_⟩; unfold LayP; rw [unhide Hn]; exact ⟨(unhide HX2).1.trans k3,rfl⟩
  rw [h3] at HLy HNx
  have HR':=hide (addL_len h3)
  clear h3
  simp only [Option.bind_some] at HNx
  rw [tokG_next] at HNx
  go_wp2_with fail
  refine (unhide HLy).mono ?_
  rintro e x3 ⟨k3,rfl,s3⟩
  have HX3:=hide (And.intro ((unhide HX2).1.trans k3) (And.intro s3 (And.intro (k3.books (unhide HX2).2.2.1 hne) ((unhide HX2).2.2.2.ku k3 (unhide HN).2.1))))
  clear k3 s3 HLy HX2
  have HSy:=hide (litSym_any b r base C1 L s x3 (unhide HBV _ (unhide HX3).2.2.2) (unhide HN).2.1 (unhide HN).2.2.1 (unhide HN).1 (unhide HX3).2.1.1 (unhide Hrb).1)
  have HRg3:=hide (unhide HRG _ (unhide HX3).2.2.1)
  unfold SyP at HSy
  rcases h4:dec L (numB s) (8*s.size) r with _ | ⟨k',q'⟩
  ·
   rw [h4] at HSy HNx
   have Hn:Hid (d=none):=by show d=none; rw [←unhide HNx]; rfl
   clear h4
   go_wp2_with (refine wpList_load_half rfl 179 (.tmp 12) rfl w.heap.size 0 rfl C1 _ (unhide HRg3) Tryz.underlying179 rfl (by rw [(unhide HZ).1]; exact Tryz.infoLitB) ?_)
   refine (unhide HSy).mono ?_
   rintro e x4 ⟨k4,rfl⟩
   refine ⟨rfl,?_⟩; unfold LayP; rw [unhide Hn]; exact ⟨(unhide HX3).1.trans k4.ku,rfl⟩
  rw [h4] at HSy HNx
  have hb:=dec_bd h4
  clear h4
  simp only [Option.bind_some] at HNx
  go_wp2_with (refine wpList_load_half rfl 179 (.tmp 12) rfl w.heap.size 0 rfl C1 _ (unhide HRg3) Tryz.underlying179 rfl (by rw [(unhide HZ).1]; exact Tryz.infoLitB) ?_)
  refine (unhide HSy).mono ?_
  rintro e x4 ⟨k4,rfl,r4⟩
  have hs4:=(unhide HX3).2.1.keep1 k4 r4
  have HP4:=hide (hs4.place hb.1)
  have HI:Hid (TkI b w.heap.size base s L D C d w (.int .i64 k') x4):=
   ⟨k',q',R',rfl,hb.2.2.1,by have:=unhide HLn; omega,(unhide HX3).1.trans k4.ku,hs4,unhide HR',hb.1,k4.ku.books (unhide HX3).2.2.1 hne,(unhide HX3).2.2.2.keep1 k4 (unhide HN).2.1,unhide HNx⟩
  have Hm:Hid (q<q'∧q'≤8*s.size):=⟨by have:=unhide Hrb; omega,hb.1⟩
  clear k4 r4 hs4 hb HSy HRg3 HX3
  go_wp2_with fail
  go_roundw
  case rel=>exact unhide HI
  case measure=>rw [unhide HP4,unhide HPl]; have:=unhide Hm; omega
theorem OrdC.below {w w':World} {B:Nat} (h:OrdC w) (hb:Below B w w') (hB:1<B):OrdC w':=
 ⟨fun j v hv=>(hb.cell (p:=⟨1,0+j,none⟩) hB).trans (h.1 j v hv),Nat.lt_of_lt_of_le h.2 hb.size⟩
theorem OrdC.cell {w:World} {k:Nat} (h:OrdC w) (hk:k<19):w.cell? ⟨1,k,none⟩=some (.int .i64 (ordL.getD k 0:Nat)):=by
 have:=h.1 k (.int .i64 (ordL.getD k 0:Nat)) (by rw [Array.getElem?_toList]; exact ordC_get k hk)
 rwa [Nat.zero_add] at this
theorem ord_drop {m k:Nat} (h:k<m) (hm:m≤19):(ordL.take m).drop k=ordL.getD k 0 :: (ordL.take m).drop (k+1):=by
 have h1:k<(ordL.take m).length:=by rw [List.length_take]; have:ordL.length=19:=rfl; omega
 rw [List.drop_eq_getElem_cons h1]
 congr 1
 have h2:k<ordL.length:=by have:ordL.length=19:=rfl; omega
 simp [List.getD,h2]
def LbP (w:World) (b:Nat) (s:ByteArray) (d:Option (List Int×Nat)) (e:Ending) (w':World):Prop:=
 Keep1 b w w'∧match d with
  | none=>e=faultE
  | some (l,q)=>(∃ C,e = .returned (.agg C)∧BookV w' w.heap.size l C)∧Rdr w' b s q
theorem Keep1.set {b g o:Nat} {w x:World} (h:Keep1 b w x) (hg:w.heap.size≤g) (hb:b<w.heap.size) (u:Value):Keep1 b w (x.setCell ⟨g,o,none⟩ u):=
 ⟨below_set h.1 (by omega) u,fun j hj hne=>(Below.heap_setCell _ _ _ j (by show j≠g; omega)).trans (h.2 j hj hne),fun j hj=>⟨by rw [World.cell?_setCell_other _ _ _ _ (by simp only [ne_eq,Addr.mk.injEq]; omega)]; exact (h.3 j hj).1,by simpa using (h.3 j hj).2⟩⟩
theorem Keep1.setCells {b g:Nat} {w x:World} (h:Keep1 b w x) (hg:w.heap.size≤g) (hb:b<w.heap.size) (o:Nat) (us:List Value):Keep1 b w (x.setCells g o us):=by
 have hk:∀ j,j≠g→(x.setCells g o us).heap[j]?=x.heap[j]?:=fun j hj=>heap_setCells _ _ _ _ j hj
 refine ⟨below_setCells (by omega) _ _ _ h.1,fun j hj hne=>(hk j (by omega)).trans (h.2 j hj hne),fun j hj=>?_⟩
 have h1:=hk b (by omega)
 exact ⟨(World.cell?_of_block (w:=x) h1 (a:=⟨b,j,none⟩)).trans (h.3 j hj).1,by rw [World.frozen?_setCells]; exact (h.3 j hj).2⟩
theorem Rdr.set {b g o p:Nat} {s:ByteArray} {x:World} (h:Rdr x b s p) (hne:g≠b) (u:Value):Rdr (x.setCell ⟨g,o,none⟩ u) b s p:=by
 obtain ⟨c0,c1,c2,g0,g1,g2,hb⟩:=h
 exact ⟨by rw [World.cell?_setCell_other _ _ _ _ (by simp only [ne_eq,Addr.mk.injEq]; omega)]; exact c0,by rw [World.cell?_setCell_other _ _ _ _ (by simp only [ne_eq,Addr.mk.injEq]; omega)]; exact c1,by rw [World.cell?_setCell_other _ _ _ _ (by simp only [ne_eq,Addr.mk.injEq]; omega)]; exact c2,by simpa using g0,by simpa using g1,by simpa using g2,by simpa using hb⟩
theorem there_keep1 {b g n:Nat} {w w':World} (h:w.there g 0 n) (hk:Keep1 b w w') (hg:g<w.heap.size) (hne:g≠b):w'.there g 0 n:=fun j hj=>by
 obtain ⟨t1,t2⟩:=h j hj
 have h1:=hk.2 g hg hne
 exact ⟨by rw [World.cell?_of_block (w:=w) h1 (a:=⟨g,0+j,none⟩)]; exact t1,by rw [World.frozen?_of_block (w:=w) h1 (a:=⟨g,0+j,none⟩)]; exact t2⟩
theorem IOwn.keep1' {w w':World} {b base:Nat} {v:Value} {l:List Int} (h:IOwn w base v l) (hk:Keep1 b w w') (hb:b<base):IOwn w' base v l:=hk.own h hb
def LbI (b gL many:Nat) (s:ByteArray) (d:Option (List Int×Nat)) (w:World) (i:Value) (wr:World):Prop:=
 ∃ (k q:Nat) (l:List Int),i = .int .i64 k∧k≤many∧Keep1 b w wr∧Rdr wr b s q∧q≤8*s.size∧IOwn wr (w.heap.size+1) (.slice (some ⟨gL,0,none⟩) 19 19) l∧l.length=19∧wr.there w.heap.size 0 19∧OrdC wr∧w.heap.size<wr.heap.size∧lbG (numB s) (8*s.size) ((ordL.take many).drop k) q l=d
set_option maxRecDepth 100000 in
set_option maxHeartbeats 3200000 in
theorem readBook_any (b p many:Nat) (s:ByteArray) (w:World) (h:Rdr w b s p) (hp:p≤8*s.size) (hs:s.size≤2000000) (hm:many≤19) (hO:OrdC w) (hb:1<b) :
  Calls Tryz.prog 271 #[.pointer (some ⟨b,0,none⟩),.int .i64 (many:Nat)] w (LbP w b s (lenBkG (numB s) (8*s.size) many p)):=by
 have hmix:Tryz.prog.follows .mixedOrders=true:=by kernel_rfl
 obtain ⟨i0,hi,hz0,hz1,hz2⟩:=info_parts Tryz.infoInt
 obtain ⟨d,hd⟩:∃ d,lbG (numB s) (8*s.size) (ordL.take many) p (List.replicate 19 0)=d:=⟨_,rfl⟩
 unfold lenBkG
 rw [hd]
 have hlt:=h.lt
 have hmI:(many:Int)≤19:=by omega
 obtain ⟨W0,hW0⟩:∃ W,w.alloc (.cells bookZ0 259)=W:=⟨_,rfl⟩
 have S0:W0.heap.size=w.heap.size+1:=by rw [←hW0]; exact alloc_size _ _
 have B0:Below w.heap.size w W0:=by rw [←hW0]; exact (Below.refl _ _).alloc (Nat.le_refl _) _
 have T0:W0.there w.heap.size 0 19:=by rw [←hW0]; exact there_new w bookZ0 _ _ rfl
 have HX:=hide (And.intro h (And.intro hp (And.intro hO (And.intro B0 (And.intro T0 S0)))))
 have HN:=hide (And.intro hs (And.intro hm (And.intro hb hlt)))
 have HD:=hide hd
 have E0:=hide hW0
 unfold bookZ0 at E0
 clear h hp hs hm hO hb hlt hd hW0 B0 T0 S0
 go_enter Tryz.func271,Tryz.ntmps271
 go_wp2_with (at_make; refine wpList_make_full _ rfl _ _ 146 rfl (w.heap.size+1) 3 i0 (.int .i64 0) 1 Tryz.underlying146 hi hz0 hz1 .i64 .i64 _ _ 19 rfl rfl rfl rfl (by rw [hz2]; omega) (by unfold maxLen; omega) (by simp) ?_; intro w1 hown hgrow)
 rw [unhide E0] at hown hgrow
 rw [(unhide HX).2.2.2.2.2] at hown
 have hO1:IOwn w1 (w.heap.size+1) (.slice (some ⟨w.heap.size+1,0,none⟩) 19 19) (List.replicate 19 0):=made_ints hown
 have hb1:Below (w.heap.size+1) W0 w1:=(Below.refl _ _).grown hgrow (by rw [(unhide HX).2.2.2.2.2]; exact Nat.le_refl _) (fun k h=>by cases h)
 clear hown hgrow hi hz0 hz1 hz2 E0
 have HI:Hid (LbI b (w.heap.size+1) many s d w (.int .i64 (0:Nat)) w1):=by
  obtain ⟨h,hp,hO,B0,T0,S0⟩:=unhide HX
  have hlt:=(unhide HN).2.2.2
  have bb:Below w.heap.size w w1:=B0.trans (hb1.mono (Nat.le_succ _))
  refine ⟨0,p,List.replicate 19 0,rfl,Nat.zero_le _,(Keep1.refl b w).later bb hlt,h.kept (bb.mono hlt),hp,hO1,by simp,?_,hO.later bb,by have:=hb1.size; omega,unhide HD⟩
  intro j hj
  obtain ⟨t1,t2⟩:=T0 j hj
  exact ⟨by rw [hb1.cell (p:=⟨w.heap.size,0+j,none⟩) (Nat.lt_succ_self _)]; exact t1,by rw [hb1.frozen (p:=⟨w.heap.size,0+j,none⟩) (Nat.lt_succ_self _)]; exact t2⟩
 clear HX HD hO1 hb1
 go_loopw [6,9] (fun _ i wr=>LbI b (w.heap.size+1) many s d w i wr) (fun _ i _=>many-(intOf i).toNat)
 case atStart=>exact unhide HI
 case round=>
  obtain ⟨k,q,l,rfl,hk,hkp,hr,hq,ho,hl,hth,hO,hsz,hd⟩:=hrel
  clear HI
  have hne:w.heap.size+1≠b:=by have:=(unhide HN).2.2.2; omega
  by_cases hkm:k<many
  ·
   have hkI:(k:Int)<(many:Int):=by omega
   have hk19:k<19:=by have:=(unhide HN).2.1; omega
   have hol:=ord_lt k hk19
   rw [ord_drop hkm (unhide HN).2.1] at hd
   simp only [lbG] at hd
   have HM:=hide (number_any b q 3 s wr.drew (show Rdr wr.drew b s q from hr) (unhide HN).1 (by omega))
   have HX:=hide (And.intro hkp (And.intro hr (And.intro hq (And.intro ho (And.intro hl (And.intro hth (And.intro hO hsz)))))))
   have HSW:Hid (∀ W,Keep1 b wr.drew W→W.cell? ⟨1,k,none⟩=some (.int .i64 (ordL.getD k 0:Nat))):=fun W h=>(OrdC.below (w:=wr.drew) (show OrdC wr.drew from hO) h.1 (unhide HN).2.2.1).cell hk19
   have HLD:=hide hd
   clear hkp hr hq ho hl hth hO hsz hk hd
   generalize ordL.getD k 0=o at *
   have hoI:(o:Int)<19:=by omega
   go_wp2_with fail
   refine wp_region_held_drew (S:=fun W=>W.cell? ⟨1,k,none⟩=some (.int .i64 (o:Nat))) hmix (unhide HSW _ (Keep1.refl _ _)) (fun hS=>?_)
   refine wpAnyH_take (i:=0) (v:=.slice (some ⟨w.heap.size+1,0,none⟩) 19 19) rfl (by kernel_rfl) (by kernel_rfl) (by kernel_rfl) (fun _ _ _ h=>h) (Or.inl ⟨by rfl,fun W hSw=>by go_simp⟩) hS ?_
   refine wpAnyH_take (i:=1) (v:=.int .i64 (k:Nat)) rfl (by kernel_rfl) (by kernel_rfl) (by kernel_rfl) (fun _ _ _ h=>h) (Or.inl ⟨by rfl,fun W hSw=>by go_simp⟩) hS ?_
   refine wpAnyH_take (i:=2) (v:=.pointer (some ⟨1,k,none⟩)) rfl (by kernel_rfl) (by kernel_rfl) (by kernel_rfl) (fun _ _ _ h=>h) (Or.inl ⟨by rfl,fun W hSw=>by go_simp <;> (intro h; omega)⟩) hS ?_
   refine wpAnyH_take (i:=3) (v:=.int .i64 (o:Nat)) rfl (by kernel_rfl) (by kernel_rfl) (by kernel_rfl) (fun _ _ _ h=>h) (Or.inl ⟨by rfl,fun W hSw=>by go_simp⟩) hS ?_
   refine wpAnyH_take (i:=4) (v:=.pointer (some ⟨b,0,none⟩)) rfl (by kernel_rfl) (by kernel_rfl) (by kernel_rfl) (fun _ _ _ h=>h) (Or.inl ⟨by rfl,fun W hSw=>by go_simp⟩) hS ?_
   refine wpAnyH_ready (rs:=[5]) (by kernel_rfl) (by simp) ?_
   refine AllReadyH.cons rfl (fun K hK=>?_) AllReadyH.nil
   go_simp
   go_at_call 249
   unfold NumP at HM
   rcases h1:rdN (numB s) (8*s.size) q 3 with _ | ⟨x,q1⟩
   ·
    rw [h1] at HM HLD
    have Hn:Hid (d=none):=by show d=none; rw [←unhide HLD]; rfl
    refine (unhide HM).mono ?_
    rintro e x1 ⟨k1,rfl⟩
    refine ⟨rfl,?_⟩; unfold LbP; rw [unhide Hn]; exact ⟨(unhide HX).1.trans ((Keep1.refl b wr).drew.trans k1),rfl⟩
   ·
    rw [h1] at HM HLD
    simp only [Option.bind_some] at HLD
    have HB1:=hide (rdN_bd h1)
    clear h1
    refine (unhide HM).mono ?_
    rintro e x1 ⟨k1,rfl,r1⟩
    refine Shut.out hK _ _ (unhide HSW _ k1) (fun hS2=>?_)
    clear hK K
    have k1':Keep1 b wr x1:=(Keep1.refl b wr).drew.trans k1
    have hlt:=(unhide HN).2.2.2
    have o1:=(unhide HX).2.2.2.1.keep1' k1' (by omega)
    obtain ⟨c1,f1,_,_⟩:=o1.at (unhide HX).2.2.2.2.1 hol
    refine wpAnyH_take (i:=6) (v:=.pointer (some ⟨w.heap.size+1,o,none⟩)) rfl (by kernel_rfl) (by kernel_rfl) (by kernel_rfl) (fun _ _ _ h=>h) (Or.inl ⟨by rfl,fun W hSw=>by go_simp <;> (intro h; omega)⟩) hS2 ?_
    refine wpAnyH_ready (rs:=[7]) (by kernel_rfl) (by simp) ?_
    refine AllReadyH.cons rfl (fun K hK=>?_) AllReadyH.nil
    go_simp
    have hgs:w.heap.size<wr.heap.size:=(unhide HX).2.2.2.2.2.2.2
    have th1:=there_keep1 (unhide HX).2.2.2.2.2.1 k1' hgs (by omega)
    have HI:Hid (LbI b (w.heap.size+1) many s d w (.int .i64 (k+1:Nat)) (x1.setCell ⟨w.heap.size+1,o,none⟩ (.int .i64 (x:Nat)))):=by
     refine ⟨k+1,q1,l.set o (x:Nat),rfl,hkm,((unhide HX).1.trans k1').set (by omega) hlt _,r1.set hne _,(unhide HB1).1,o1.put (unhide HX).2.2.2.2.1 _,by rw [List.length_set]; exact (unhide HX).2.2.2.2.1,?_,?_,by simp; exact Nat.lt_of_lt_of_le hgs k1'.1.size,unhide HLD⟩
     ·
      intro j hj
      obtain ⟨t1,t2⟩:=th1 j hj
      exact ⟨by rw [World.cell?_setCell_other _ _ _ _ (by simp)]; exact t1,by simpa using t2⟩
     ·
      exact ((unhide HX).2.2.2.2.2.2.1.below k1'.1 (unhide HN).2.2.1).below (below_set (Below.refl b x1) (by omega) _) (unhide HN).2.2.1
    have hS3:(x1.setCell ⟨w.heap.size+1,o,none⟩ (.int .i64 (x:Nat))).cell? ⟨1,k,none⟩=some (.int .i64 (o:Nat)):=by
     rw [World.cell?_setCell_other _ _ _ _ (by simp only [ne_eq,Addr.mk.injEq]; have:=(unhide HN).2.2.1; omega)]
     exact hS2
    refine Shut.out hK _ _ hS3 (fun _=>?_)
    clear hK K
    refine wpAnyH_done (by kernel_rfl) ?_ _
    clear hS hS2 hS3 k1 k1' r1 o1 th1 HSW HM HX c1 f1
    generalize x1.setCell ⟨w.heap.size+1,o,none⟩ (.int .i64 (x:Nat))=x2 at *
    go_wp2_with fail
    go_roundw
    case rel=>exact unhide HI
    case measure=>simp [intOf]; omega
  ·
   have hkI:¬ (k:Int)<(many:Int):=by omega
   have e0:(ordL.take many).drop k=[]:=List.drop_eq_nil_of_le (by rw [List.length_take]; omega)
   rw [e0] at hd
   simp only [lbG] at hd
   have HE:=hide hd
   have hlt:=(unhide HN).2.2.2
   have HJ:=hide (own_jrow hl (ho.own hl))
   have HFB:=hide (lenFB_any _ 19 19 (w.heap.size+1) l wr hl (unhide HJ) (by omega) (by omega))
   have HX:=hide (And.intro hkp (And.intro hr (And.intro hth hsz)))
   clear hkp hr hq ho hl hth hO hsz hk e0
   cases hok:lensOk l
   ·
    rw [hok] at HFB
    simp only [Bool.false_eq_true,if_false] at HFB
    have HOk:=hide hok
    clear hok hd
    go_wp2_with fail
    refine (unhide HFB).mono ?_
    rintro e x1 ⟨b1,rfl⟩
    refine ⟨rfl,?_⟩; unfold LbP; rw [←unhide HE]; simp only [Option.bind_some]; rw [unhide HOk]; exact ⟨(unhide HX).1.later b1 (unhide HX).2.1.lt,rfl⟩
   ·
    rw [hok] at HFB
    simp only [if_true] at HFB
    have HOk:=hide hok
    clear hok hd
    go_wp2_with fail
    refine (unhide HFB).mono ?_
    rintro e x1 ⟨b1,C,rfl,hB⟩
    have HTh:Hid (x1.there w.heap.size 0 19):=fun j hj=>by
     obtain ⟨t1,t2⟩:=(unhide HX).2.2.1 j hj
     have hlt:=(unhide HX).2.2.2
     exact ⟨by rw [b1.cell (p:=⟨w.heap.size,0+j,none⟩) hlt]; exact t1,by rw [b1.frozen (p:=⟨w.heap.size,0+j,none⟩) hlt]; exact t2⟩
    have HSz:=hide hB.size
    have HOne:=hide hB.one
    have HY:=hide (And.intro ((unhide HX).1.later b1 (unhide HX).2.1.lt) (And.intro ((unhide HX).2.1.kept (b1.mono (unhide HX).2.1.lt)) hB))
    clear b1 hB HFB HJ HX
    go_wp2_with (refine wpList_store_mid rfl 259 (.tmp 4) (.tmp 21) rfl w.heap.size 0 C rfl rfl (by rw [unhide HSz]; exact unhide HTh) (by rw [unhide HSz]; exact Tryz.infoLenB) (unhide HOne) ?_)
    obtain ⟨k1,r1,hB⟩:=unhide HY
    have hr:=World.rangeAt_setCells_same x1 w.heap.size 0 C.toList (by rw [Array.length_toList,unhide HSz]; exact unhide HTh)
    have hk:∀ j,j≠w.heap.size→(x1.setCells w.heap.size 0 C.toList).heap[j]?=x1.heap[j]?:=fun j hj=>heap_setCells _ _ _ _ j hj
    have hz:(x1.setCells w.heap.size 0 C.toList).heap.size=x1.heap.size:=size_setCells _ _ _ _
    refine bodyPost_ret (results_cell_mid rfl _ _ w.heap.size _ _ rfl hr Tryz.underlying259 rfl (by rw [Array.length_toList,unhide HSz]; exact Tryz.infoLenB)) rfl ?_
    unfold LbP
    rw [←unhide HE]
    simp only [Option.bind_some]
    rw [unhide HOk]
    refine ⟨k1.setCells (Nat.le_refl _) hlt _ _,⟨C,by simp,(hB.touch hz hk (Nat.lt_succ_self _)).mono (Nat.le_succ _)⟩,?_⟩
    obtain ⟨c0,c1,c2,g0,g1,g2,hb⟩:=r1
    have hkb:=hk b (by omega)
    have hc:∀ j,(x1.setCells w.heap.size 0 C.toList).cell? ⟨b,j,none⟩=x1.cell? ⟨b,j,none⟩:=fun j=>World.cell?_of_block (w:=x1) hkb (a:=⟨b,j,none⟩)
    have hf:∀ j,(x1.setCells w.heap.size 0 C.toList).frozen? ⟨b,j,none⟩=x1.frozen? ⟨b,j,none⟩:=fun j=>World.frozen?_of_block (w:=x1) hkb (a:=⟨b,j,none⟩)
    exact ⟨(hc 0).trans c0,(hc 1).trans c1,(hc 2).trans c2,(hf 0).trans g0,(hf 1).trans g1,(hf 2).trans g2,by rw [hz]; exact hb⟩
theorem Rdr.place {w:World} {b p:Nat} {s:ByteArray} (h:Rdr w b s p) (hp:p≤8*s.size):placeN b w=p:=by
 have h1:=(h.at hp).2.1
 unfold placeN
 rw [h1]
 simp [intOf]
theorem Keep1.book {w w':World} {b g:Nat} {C:Array Value} {t:TypeId} (h:Keep1 b w w') (hg:w.heap[g]?=some (Obj.cells C t)) (hne:g≠b):w'.heap[g]?=some (Obj.cells C t):=by
 have hlt:g<w.heap.size:=by
  rcases Nat.lt_or_ge g w.heap.size with h1 | h1
  ·
   exact h1
  ·
   rw [Array.getElem?_eq_none h1] at hg; cases hg
 rw [h.2 g hlt hne]
 exact hg
theorem iown_rep {x:World} {base n k:Nat} {v:Value} {l:List Int} {y:Int} (hn:l.length=n) (h:x.ownsRow base 3 1 v (n+k) (l.map (Value.int .i64)++List.replicate k (.int .i64 y))):IOwn x base v (l++List.replicate k y):=by
 show World.ownsRow _ _ _ _ _ (l++List.replicate k y).length _
 rw [List.length_append,List.length_replicate,hn,List.map_append,List.map_replicate]
 exact h
theorem Rdr.block {x x':World} {b p:Nat} {s:ByteArray} (h:Rdr x b s p) (hk:x'.heap[b]?=x.heap[b]?) (hs:x.heap.size≤x'.heap.size):Rdr x' b s p:=by
 obtain ⟨c0,c1,c2,g0,g1,g2,hb⟩:=h
 have hc:∀ j,x'.cell? ⟨b,j,none⟩=x.cell? ⟨b,j,none⟩:=fun j=>World.cell?_of_block (w:=x) hk (a:=⟨b,j,none⟩)
 have hf:∀ j,x'.frozen? ⟨b,j,none⟩=x.frozen? ⟨b,j,none⟩:=fun j=>World.frozen?_of_block (w:=x) hk (a:=⟨b,j,none⟩)
 exact ⟨(hc 0).trans c0,(hc 1).trans c1,(hc 2).trans c2,(hf 0).trans g0,(hf 1).trans g1,(hf 2).trans g2,by omega⟩
theorem grown_keep1 {b:Nat} {w x x':World} {v:Value} {n:Nat} {xs:List Value} {t:TypeId} (hk:Keep1 b w x) (ho:x.ownsRow (w.heap.size+1) t 1 v n xs) (hg:x.grownBy x' v.ownBlock) (hb:b<w.heap.size) :
  Keep1 b w x'∧∀ j,j≤w.heap.size→j<x.heap.size→x'.heap[j]?=x.heap[j]?:=by
 have hne:∀ j,j≤w.heap.size→some j≠v.ownBlock:=fun j hj e=>by
  have:=(World.ownsRow.lt ho j e.symm).1
  omega
 have hs:=hk.1.size
 have hbk:=hg.block b (by omega) (hne b (by omega))
 refine ⟨⟨hk.1.grown hg (by omega) (fun k h=>by have:=(World.ownsRow.lt ho k h).1; omega),fun j hj h=>(hg.block j (by omega) (hne j (by omega))).trans (hk.2 j hj h),fun j hj=>⟨(World.cell?_of_block (w:=x) hbk (a:=⟨b,j,none⟩)).trans (hk.3 j hj).1,(World.frozen?_of_block (w:=x) hbk (a:=⟨b,j,none⟩)).trans (hk.3 j hj).2⟩⟩,fun j hj h=>hg.block j h (hne j hj)⟩
def LnP (w:World) (b:Nat) (s:ByteArray) (d:Option (List Int×Nat)) (e:Ending) (w':World):Prop:=
 Keep1 b w w'∧match d with
  | none=>e=faultE
  | some (l,q)=>(∃ v,e = .returned v∧IOwn w' w.heap.size v l)∧Rdr w' b s q
def LnI (b many:Nat) (s:ByteArray) (B:List Int) (C:Array Value) (d:Option (List Int×Nat)) (w:World) (v:Value) (wr:World):Prop:=
 ∃ (q:Nat) (A:List Int),IOwn wr (w.heap.size+1) v A∧A.length≤600∧Keep1 b w wr∧Rdr wr b s q∧q≤8*s.size∧wr.heap[w.heap.size]?=some (Obj.cells C 259)∧w.heap.size<wr.heap.size∧lnG (numB s) (8*s.size) B many q A=d
def LnS (b:Nat) (s:ByteArray) (C:Array Value) (w x:World) (v:Value) (A:List Int) (q:Nat):Prop:=
 IOwn x (w.heap.size+1) v A∧Keep1 b w x∧Rdr x b s q∧q≤8*s.size∧x.heap[w.heap.size]?=some (Obj.cells C 259)∧w.heap.size<x.heap.size
theorem LnS.keep {b q q':Nat} {s:ByteArray} {C:Array Value} {w x x':World} {v:Value} {A:List Int} (h:LnS b s C w x v A q) (hb:b<w.heap.size) (hk:Keep1 b x x') (hr:Rdr x' b s q') (hq:q'≤8*s.size):LnS b s C w x' v A q':=by
 obtain ⟨h1,h2,h3,h4,h5,h6⟩:=h
 exact ⟨h1.keep1' hk (by omega),h2.trans hk,hr,hq,hk.book h5 (by omega),Nat.lt_of_lt_of_le h6 hk.1.size⟩
theorem LnS.below {b q:Nat} {s:ByteArray} {C:Array Value} {w x x':World} {v:Value} {A:List Int} (h:LnS b s C w x v A q) (hb:b<w.heap.size) (hk:Below x.heap.size x x'):LnS b s C w x' v A q:=by
 have h2:=h.2.2.1.lt
 exact h.keep hb ((Keep1.refl b x).later hk h2) (h.2.2.1.kept (hk.mono h2)) h.2.2.2.1
theorem LnS.grown {b q:Nat} {s:ByteArray} {C:Array Value} {w x x':World} {v v':Value} {A A':List Int} (h:LnS b s C w x v A q) (hb:b<w.heap.size) (hg:x.grownBy x' v.ownBlock) (ho:IOwn x' (w.heap.size+1) v' A'):LnS b s C w x' v' A' q:=by
 obtain ⟨h1,h2,h3,h4,h5,h6⟩:=h
 obtain ⟨g1,g2⟩:=grown_keep1 h2 h1 hg hb
 exact ⟨ho,g1,h3.block (g2 b (by omega) h3.lt) hg.size,h4,(g2 _ (Nat.le_refl _) h6).trans h5,Nat.lt_of_lt_of_le h6 hg.size⟩
theorem LnS.done {b many q:Nat} {s:ByteArray} {B:List Int} {C:Array Value} {d:Option (List Int×Nat)} {w x:World} {v:Value} {A:List Int} (h:LnS b s C w x v A q) (hA:A.length≤600) (hd:lnG (numB s) (8*s.size) B many q A=d):LnI b many s B C d w v x:=
 ⟨q,A,h.1,hA,h.2.1,h.2.2.1,h.2.2.2.1,h.2.2.2.2.1,h.2.2.2.2.2,hd⟩
set_option maxRecDepth 100000 in
set_option maxHeartbeats 3200000 in
theorem readLens_any (b p many base:Nat) (s:ByteArray) (B:List Int) (C:Array Value) (w:World) (h:Rdr w b s p) (hp:p≤8*s.size) (hs:s.size≤2000000) (hm:many≤400) (hB:BookV w base B C) (hbb:b<base) (hok:lensOk B=true) :
  Calls Tryz.prog 270 #[.pointer (some ⟨b,0,none⟩),.int .i64 (many:Nat),.agg C] w (LnP w b s (lnG (numB s) (8*s.size) B many p [])):=by
 have hmix:Tryz.prog.follows .mixedOrders=true:=by kernel_rfl
 obtain ⟨i0,hi,hz0,hz1,hz2⟩:=info_parts Tryz.infoInt
 obtain ⟨d,hd⟩:∃ d,lnG (numB s) (8*s.size) B many p []=d:=⟨_,rfl⟩
 rw [hd]
 have hlt:=h.lt
 have hmI:(many:Int)≤400:=by omega
 have HI:Hid (LnI b many s B C d w (.slice none 0 0) (w.alloc (.cells C 259))):=
  ⟨p,[],IOwn.nil _ _,by simp,(Keep1.refl b w).alloc hlt _,h.alloc _,hp,alloc_at _ _,by simp,hd⟩
 have HN:=hide (And.intro hs (And.intro hbb (And.intro hok hlt)))
 have HZ:=hide hB.size
 have HBK:Hid (∀ W,Keep1 b w W→BookV W base B C):=fun W hW=>hB.keep1 hW hbb
 clear h hp hs hm hB hbb hok hd hlt
 go_enter Tryz.func270,Tryz.ntmps270
 go_wp2_with fail
 go_loopw [7,8] (fun v _ wr=>LnI b many s B C d w v wr) (fun _ _ wr=>8*s.size-placeN b wr)
 case atStart=>exact unhide HI
 case round=>
  obtain ⟨q,A,ho,hA,hkp,hr,hq,hat,hsz,hd⟩:=hrel
  clear HI
  obtain ⟨n,hn⟩:∃ n,A.length=n:=⟨_,rfl⟩
  obtain ⟨a,cap,rfl⟩:=ho.formN hn
  have hlt:=(unhide HN).2.2.2
  have hne:w.heap.size≠b:=by omega
  have HPl:=hide (hr.place hq)
  have HX:=hide (And.intro ho (And.intro hkp (And.intro hr (And.intro hq (And.intro hat hsz)))))
  have hnI:(n:Int)≤600:=by omega
  have HA:=hide hn
  by_cases hnm:n<many
  ·
   have hnmI:(n:Int)<(many:Int):=by omega
   rw [lnG_less hq (by omega)] at hd
   have HSy:=hide (lenSym_any b q base C B s wr (unhide HBK _ hkp) (unhide HN).2.1 (unhide HN).2.2.1 (unhide HN).1 hr hq)
   have HRW:=hide (whole_range hat)
   clear ho hkp hr hq hat hsz hn hA
   unfold SyP at HSy
   rcases h1:dec B (numB s) (8*s.size) q with _ | ⟨k,q1⟩
   ·
    rw [h1] at HSy hd
    have Hn:Hid (d=none):=by show d=none; rw [←hd]; rfl
    clear h1 hd
    go_wp2_with (refine wpList_load_half rfl 259 (.tmp 5) rfl w.heap.size 0 rfl C _ (unhide HRW) Tryz.underlying259 rfl (by rw [unhide HZ]; exact Tryz.infoLenB) ?_)
    refine (unhide HSy).mono ?_
    rintro e x1 ⟨k1,rfl⟩
    refine ⟨rfl,?_⟩; unfold LnP; rw [unhide Hn]; exact ⟨(unhide HX).2.1.trans k1,rfl⟩
   rw [h1] at HSy hd
   have hb1:=dec_bd h1
   simp only [Option.bind_some] at hd
   clear h1
   have HD:=hide hd
   clear hd
   go_wp2_with (refine wpList_load_half rfl 259 (.tmp 5) rfl w.heap.size 0 rfl C _ (unhide HRW) Tryz.underlying259 rfl (by rw [unhide HZ]; exact Tryz.infoLenB) ?_)
   refine (unhide HSy).mono ?_
   rintro e x1 ⟨k1,rfl,r1⟩
   have o1:=(unhide HX).1.keep1' k1 (by omega)
   have HY:=hide (And.intro o1 (And.intro ((unhide HX).2.1.trans k1) (And.intro r1 (And.intro hb1.1 (And.intro (k1.book (unhide HX).2.2.2.2.1 hne) (Nat.lt_of_lt_of_le (unhide HX).2.2.2.2.2 k1.1.size))))))
   have Hq:=hide hb1.2.1
   have HS:Hid (LnS b s C w x1 (.slice a n cap) A q1):=unhide HY
   clear k1 r1 o1 HX HRW HSy hb1 HY
   have hqo:=hide ((unhide HS).1.own (unhide HA))
   have hbs:w.heap.size+1≤x1.heap.size:=(unhide HS).2.2.2.2.2
   have hn6:n<400:=by omega
   by_cases h16:k=16
   ·
    have b16:(k == 16)=true:=by rw [h16]; rfl
    by_cases hn0:n=0
    ·
     have hg0:decide (0<n)=false:=decide_eq_false (by omega)
     have Hn:Hid (d=none):=by show d=none; rw [←unhide HD,h16]; unfold addLn; rw [if_pos rfl,if_pos (by rw [unhide HA]; exact hn0)]; rfl
     clear hn0 h16
     go_wp2_with fail
     refine (need_no _).mono ?_
     rintro e x2 ⟨rfl,hx2⟩
     rw [hx2]
     clear hx2 x2
     refine ⟨rfl,?_⟩; unfold LnP; rw [unhide Hn]; exact ⟨(unhide HS).2.1,rfl⟩
    ·
     have hg0:decide (0<n)=true:=decide_eq_true (by omega)
     obtain ⟨g,rfl⟩:=(unhide HS).1.somes (by rw [unhide HA]; omega)
     have HAd:Hid (addLn (numB s) (8*s.size) A k q1=(rdN (numB s) (8*s.size) q1 2).bind fun x=>some (A++List.replicate (3+x.1) (A.getD (n-1) 0),x.2)):=by
      show _=_
      rw [h16]
      unfold addLn
      rw [if_pos rfl,if_neg (by rw [unhide HA]; exact hn0),unhide HA]
     rw [unhide HAd] at HD
     obtain ⟨m,hm⟩:∃ m,n-1=m:=⟨_,rfl⟩
     have hn1:(n:Int)-1=(m:Int):=by omega
     have hmn:m+1=n:=by omega
     rw [hm] at HD
     have Hmn:=hide hmn
     have Hwr:Hid (IntKind.i64.wrap (m:Int)=(m:Int)):=by show _=_; rw [IntKind.wrap_i64]; omega
     clear HAd h16 hm hmn
     go_wp2_with fail
     refine (need_yes _).mono ?_
     rintro e x2 ⟨rfl,hx2⟩
     rw [hx2]
     clear hx2 x2
     go_wp2_with fail
     have HM:=hide (number_any b q1 2 s x1.drew (show Rdr x1.drew b s q1 from (unhide HS).2.2.1) (unhide HN).1 (by omega))
     have hcap:n≤cap:=by
      have:=(unhide hqo); rcases this.2 with ⟨e,_⟩ | ⟨g',cap',cur,e,_,_,h1,_⟩
      ·
       cases e
      ·
       simp only [Value.slice.injEq] at e; omega
     refine wp_region_held_drew (S:=fun _=>True) hmix trivial (fun hS=>?_)
     refine wpAnyH_take (i:=0) (v:=.slice (some ⟨g,0,none⟩) n cap) rfl (by kernel_rfl) (by kernel_rfl) (by kernel_rfl) (fun _ _ _ h=>h) (Or.inl ⟨by rfl,fun W hSw=>by go_simp⟩) hS ?_
     refine wpAnyH_take (i:=1) (v:=.slice (some ⟨g,0,none⟩) n cap) rfl (by kernel_rfl) (by kernel_rfl) (by kernel_rfl) (fun _ _ _ h=>h) (Or.inl ⟨by rfl,fun W hSw=>by go_simp⟩) hS ?_
     refine wpAnyH_take (i:=2) (v:=.slice (some ⟨g,0,none⟩) n cap) rfl (by kernel_rfl) (by kernel_rfl) (by kernel_rfl) (fun _ _ _ h=>h) (Or.inl ⟨by rfl,fun W hSw=>by go_simp⟩) hS ?_
     refine wpAnyH_take (i:=3) (v:=.int .i64 (n:Nat)) rfl (by kernel_rfl) (by kernel_rfl) (by kernel_rfl) (fun _ _ _ h=>h) (Or.inl ⟨by rfl,fun W hSw=>by go_simp⟩) hS ?_
     refine wpAnyH_take (i:=4) (v:=.int .i64 (m:Nat)) rfl (by kernel_rfl) (by kernel_rfl) (by kernel_rfl) (fun _ _ _ h=>h) (Or.inl ⟨by rfl,fun W hSw=>by go_simp; exact unhide Hwr⟩) hS ?_
     refine wpAnyH_take (i:=6) (v:=.pointer (some ⟨b,0,none⟩)) rfl (by kernel_rfl) (by kernel_rfl) (by kernel_rfl) (fun _ _ _ h=>h) (Or.inl ⟨by rfl,fun W hSw=>by go_simp⟩) hS ?_
     refine wpAnyH_take (i:=5) (v:=.slice (some ⟨g,m,none⟩) 1 (cap-m)) rfl (by kernel_rfl) (by kernel_rfl) (by kernel_rfl) (fun _ _ _ h=>h) (Or.inl ⟨by rfl,fun W hSw=>by go_simp; rw [if_pos (by have:=unhide Hmn; omega),if_neg (by have:=unhide Hmn; omega),show n-m=1 by have:=unhide Hmn; omega]⟩) hS ?_
     refine wpAnyH_ready (rs:=[7]) (by kernel_rfl) (by simp) ?_
     refine AllReadyH.cons rfl (fun K hK=>?_) AllReadyH.nil
     go_simp
     go_at_call 249
     unfold NumP at HM
     rcases h2:rdN (numB s) (8*s.size) q1 2 with _ | ⟨y,q2⟩
     ·
      rw [h2] at HM HD
      have Hn:Hid (d=none):=by show d=none; rw [←unhide HD]; rfl
      refine (unhide HM).mono ?_
      rintro e x2 ⟨k2,rfl⟩
      refine ⟨rfl,?_⟩; unfold LnP; rw [unhide Hn]; exact ⟨(unhide HS).2.1.trans ((Keep1.refl b x1).drew.trans k2),rfl⟩
     rw [h2] at HM HD
     simp only [Option.bind_some] at HD
     have Hb2:=hide (rdN_bd h2)
     have hy:y<4:=by have:=(rdN_bd h2).2.2.2; omega
     clear h2
     refine (unhide HM).mono ?_
     rintro e x2 ⟨k2,rfl,r2⟩
     refine Shut.out hK _ _ trivial (fun hS2=>?_)
     clear hK K
     have HS2:=hide ((unhide HS).keep (unhide HN).2.2.2 ((Keep1.refl b x1).drew.trans k2) r2 (unhide Hb2).1)
     clear k2 r2 HM
     obtain ⟨c,hc⟩:∃ c,3+y=c:=⟨_,rfl⟩
     have Hwy:Hid (IntKind.i64.wrap (3+(y:Int))=(c:Int)):=by show _=_; rw [IntKind.wrap_i64]; omega
     have hcI:(c:Int)≤7:=by omega
     have hc1:1≤c:=by omega
     rw [hc] at HD
     clear hc
     refine wpAnyH_take (i:=8) (v:=.int .i64 (c:Nat)) rfl (by kernel_rfl) (by kernel_rfl) (by kernel_rfl) (fun _ _ _ h=>h) (Or.inl ⟨by rfl,fun W hSw=>by go_simp; exact unhide Hwy⟩) hS2 ?_
     refine wpAnyH_ready (rs:=[9]) (by kernel_rfl) (by simp) ?_
     refine AllReadyH.cons rfl (fun K hK=>?_) AllReadyH.nil
     go_simp
     go_at_call 115
     have hcell:x2.cell? ⟨g,m,none⟩=some (.int .i64 (A.getD m 0)):=((unhide HS2).1.at (unhide HA) (by have:=unhide Hmn; omega)).1
     refine (repeat_one (A.getD m 0) c (cap-m) g m x2 hcell hc1 (by omega)).mono ?_
     rintro e x3 ⟨rfl,o3,b3⟩
     have HS3:=hide ((unhide HS2).below (unhide HN).2.2.2 b3)
     have HO3:=hide o3
     generalize A.getD m 0=z at *
     refine Shut.out hK _ _ trivial (fun hS3=>?_)
     clear hK K o3 b3 hcell
     refine wpAnyH_ready (rs:=[10]) (by kernel_rfl) (by simp) ?_
     refine AllReadyH.cons rfl (fun K hK=>?_) AllReadyH.nil
     refine step_append_own rfl _ _ 146 rfl (w.heap.size+1) 3 i0 (.int .i64 0) 1 8 Tryz.underlying146 hi hz0 hz1 hz2 rfl (by decide) (.slice (some ⟨g,0,none⟩) n cap) n _ rfl ((unhide HS3).1.own (unhide HA)) ⟨x2.heap.size,0,none⟩ c c ((List.replicate c z).map (Value.int .i64)) rfl (by simp) (World.ownsRow.cells ((unhide HO3).own (n:=c) (by simp)) rfl) (by intro u hu; simp only [List.mem_map] at hu; obtain ⟨_,_,rfl⟩:=hu; rfl) (by unfold maxLen; omega) (by omega) (by have:=(unhide HS3).2.2.2.2.2; omega) (fun v' x4 hown hgrow hnil=>?_)
     clear hnil
     rw [List.map_replicate] at hown
     have hS4:=(unhide HS3).grown (unhide HN).2.2.2 hgrow (iown_rep (unhide HA) hown)
     have HI:=hide (hS4.done (B:=B) (many:=many) (d:=d) (by rw [List.length_append,unhide HA,List.length_replicate]; omega) (unhide HD))
     have HPx:=hide (hS4.2.2.1.place hS4.2.2.2.1)
     clear hown hgrow hS4
     refine Shut.out hK _ _ trivial (fun hS5=>?_)
     clear hK K
     refine wpAnyH_ready (rs:=[11]) (by kernel_rfl) (by simp) ?_
     refine AllReadyH.cons rfl (fun K hK=>?_) AllReadyH.nil
     go_simp
     refine Shut.out hK _ _ trivial (fun hS6=>?_)
     clear hK K
     refine wpAnyH_done (by kernel_rfl) ?_ _
     clear HS HS2 HS3 HO3 hqo hS hS2 hS3 hS5 hS6
     go_wp2_with fail
     go_roundw
     case rel=>exact unhide HI
     case measure=>rw [unhide HPx,unhide HPl]; have:=unhide Hq; have:=unhide Hb2; omega
   ·
    by_cases h17:k=17
    ·
     have bk:(k == 17)=true:=by rw [h17]; rfl
     have b16:(k == 16)=false:=by rw [beq_eq_false_iff_ne]; exact h16
     have HM:=hide (number_any b q1 3 s x1 (unhide HS).2.2.1 (unhide HN).1 (by omega))
     have HAd:Hid (addLn (numB s) (8*s.size) A k q1=(rdN (numB s) (8*s.size) q1 3).bind fun x=>some (A++List.replicate (3+x.1) 0,x.2)):=by
      show _=_
      rw [h17]
      unfold addLn
      rw [if_neg (by decide),if_pos rfl]
     rw [unhide HAd] at HD
     clear h16 h17 HAd
     unfold NumP at HM
     rcases h2:rdN (numB s) (8*s.size) q1 3 with _ | ⟨y,q2⟩
     ·
      rw [h2] at HM HD
      have Hn:Hid (d=none):=by show d=none; rw [←unhide HD]; rfl
      clear h2 HD
      go_wp2_with fail
      refine (unhide HM).mono ?_
      rintro e x2 ⟨k2,rfl⟩
      refine ⟨rfl,?_⟩; unfold LnP; rw [unhide Hn]; exact ⟨(unhide HS).2.1.trans k2,rfl⟩
     ·
      rw [h2] at HM HD
      simp only [Option.bind_some] at HD
      have hb2:=rdN_bd h2
      have hy:y<8:=by have:=hb2.2.2.2; omega
      have Hb2:=hide (And.intro hb2.1 hb2.2.1)
      clear h2 hb2
      go_wp2_with fail
      refine (unhide HM).mono ?_
      rintro e x2 ⟨k2,rfl,r2⟩
      have HS2:=hide ((unhide HS).keep (unhide HN).2.2.2 k2 r2 (unhide Hb2).1)
      have hqo2:=hide ((unhide HS2).1.own (unhide HA))
      have hbs2:w.heap.size+1≤x2.heap.size:=(unhide HS2).2.2.2.2.2
      have bd:Hid (n+(3+y)≤maxLen∧(n+(3+y))*8≤140737488355328):=by show _∧_; unfold maxLen; omega
      clear k2 r2 HM HS hqo hbs
      go_wp2_with (at_builtin; refine wpList_append_zeros _ rfl _ _ 146 3 rfl (w.heap.size+1) 3 i0 (.int .i64 0) 8 .i64 .i64 Tryz.underlying146 Tryz.underlying3 hi hz0 hz1 hz2 rfl rfl (.slice a n cap) n _ rfl (unhide hqo2) (3+y) (by simp [Act.eval]) (by omega) (unhide bd).1 (unhide bd).2 hbs2 ?_; intro v' x3 hown hgrow)
      have hS3:=(unhide HS2).grown (unhide HN).2.2.2 hgrow (iown_rep (unhide HA) hown)
      have HI:=hide (hS3.done (B:=B) (many:=many) (d:=d) (by rw [List.length_append,unhide HA,List.length_replicate]; omega) (unhide HD))
      have HPx:=hide (hS3.2.2.1.place hS3.2.2.2.1)
      clear hown hgrow hS3
      go_wp2_with fail
      go_roundw
      case rel=>exact unhide HI
      case measure=>rw [unhide HPx,unhide HPl]; have:=unhide Hq; have:=unhide Hb2; omega
    ·
     by_cases h18:k=18
     ·
      have bk:(k == 18)=true:=by rw [h18]; rfl
      have b16:(k == 16)=false:=by rw [beq_eq_false_iff_ne]; exact h16
      have b17:(k == 17)=false:=by rw [beq_eq_false_iff_ne]; exact h17
      have HM:=hide (number_any b q1 7 s x1 (unhide HS).2.2.1 (unhide HN).1 (by omega))
      have HAd:Hid (addLn (numB s) (8*s.size) A k q1=(rdN (numB s) (8*s.size) q1 7).bind fun x=>some (A++List.replicate (11+x.1) 0,x.2)):=by
       show _=_
       rw [h18]
       unfold addLn
       rw [if_neg (by decide),if_neg (by decide),if_pos rfl]
      rw [unhide HAd] at HD
      clear h16 h17 h18 HAd
      unfold NumP at HM
      rcases h2:rdN (numB s) (8*s.size) q1 7 with _ | ⟨y,q2⟩
      ·
       rw [h2] at HM HD
       have Hn:Hid (d=none):=by show d=none; rw [←unhide HD]; rfl
       clear h2 HD
       go_wp2_with fail
       refine (unhide HM).mono ?_
       rintro e x2 ⟨k2,rfl⟩
       refine ⟨rfl,?_⟩; unfold LnP; rw [unhide Hn]; exact ⟨(unhide HS).2.1.trans k2,rfl⟩
      ·
       rw [h2] at HM HD
       simp only [Option.bind_some] at HD
       have hb2:=rdN_bd h2
       have hy:y<128:=by have:=hb2.2.2.2; omega
       have Hb2:=hide (And.intro hb2.1 hb2.2.1)
       clear h2 hb2
       go_wp2_with fail
       refine (unhide HM).mono ?_
       rintro e x2 ⟨k2,rfl,r2⟩
       have HS2:=hide ((unhide HS).keep (unhide HN).2.2.2 k2 r2 (unhide Hb2).1)
       have hqo2:=hide ((unhide HS2).1.own (unhide HA))
       have hbs2:w.heap.size+1≤x2.heap.size:=(unhide HS2).2.2.2.2.2
       have bd:Hid (n+(11+y)≤maxLen∧(n+(11+y))*8≤140737488355328):=by show _∧_; unfold maxLen; omega
       clear k2 r2 HM HS hqo hbs
       go_wp2_with (at_builtin; refine wpList_append_zeros _ rfl _ _ 146 3 rfl (w.heap.size+1) 3 i0 (.int .i64 0) 8 .i64 .i64 Tryz.underlying146 Tryz.underlying3 hi hz0 hz1 hz2 rfl rfl (.slice a n cap) n _ rfl (unhide hqo2) (11+y) (by simp [Act.eval]) (by omega) (unhide bd).1 (unhide bd).2 hbs2 ?_; intro v' x3 hown hgrow)
       have hS3:=(unhide HS2).grown (unhide HN).2.2.2 hgrow (iown_rep (unhide HA) hown)
       have HI:=hide (hS3.done (B:=B) (many:=many) (d:=d) (by rw [List.length_append,unhide HA,List.length_replicate]; omega) (unhide HD))
       have HPx:=hide (hS3.2.2.1.place hS3.2.2.2.1)
       clear hown hgrow hS3
       go_wp2_with fail
       go_roundw
       case rel=>exact unhide HI
       case measure=>rw [unhide HPx,unhide HPl]; have:=unhide Hq; have:=unhide Hb2; omega
     ·
      have b16:(k == 16)=false:=by rw [beq_eq_false_iff_ne]; exact h16
      have b17:(k == 17)=false:=by rw [beq_eq_false_iff_ne]; exact h17
      have b18:(k == 18)=false:=by rw [beq_eq_false_iff_ne]; exact h18
      have bd:Hid (n+1≤maxLen∧(n+1)*8≤140737488355328):=by show _∧_; unfold maxLen; omega
      have HE:Hid (lnG (numB s) (8*s.size) B many q1 (A++[k])=d):=by
       show _=d
       rw [←unhide HD]
       unfold addLn
       rw [if_neg h16,if_neg h17,if_neg h18]
       rfl
      clear h16 h17 h18 HD
      go_wp2_with (at_builtin; refine wpList_append_own _ rfl _ _ 146 rfl (w.heap.size+1) 3 i0 (.int .i64 0) 1 8 Tryz.underlying146 hi hz0 hz1 hz2 rfl (by decide) (.slice a n cap) _ _ rfl (World.ownsRow.alloc (unhide hqo) _) ⟨x1.heap.size,0,none⟩ 1 1 [.int .i64 k] rfl rfl (one_new _ _ rfl _ _) (one_int _) (unhide bd).1 (unhide bd).2 (size_alloc_le hbs _) ?_; intro v' x2 hown hgrow hnil; clear hnil)
      have hS2:=((unhide HS).below (unhide HN).2.2.2 ((Below.refl _ _).alloc (Nat.le_refl _) (.cells #[.int .i64 k] 3))).grown (unhide HN).2.2.2 hgrow (iown_snocN (unhide HA) hown)
      have HI:=hide (hS2.done (B:=B) (many:=many) (d:=d) (by rw [List.length_append,unhide HA,List.length_singleton]; omega) (unhide HE))
      have HPx:=hide (hS2.2.2.1.place hS2.2.2.2.1)
      have HQ:=hide hS2.2.2.2.1
      clear hown hgrow hS2
      go_wp2_with fail
      go_roundw
      case rel=>exact unhide HI
      case measure=>rw [unhide HPx,unhide HPl]; have:=unhide Hq; have:=unhide HQ; omega
  ·
   have hnmI:¬ (n:Int)<(many:Int):=by omega
   rw [lnG_same hq (by omega)] at hd
   have HD:=hide hd
   clear ho hkp hr hq hat hsz hn hA hd
   by_cases hE:n=many
   ·
    have hEb:((n:Int) == (many:Int))=true:=by rw [hE]; exact beq_self_eq_true _
    rw [if_pos (by rw [unhide HA]; exact hE)] at HD
    clear hE
    go_wp2_with fail
    refine (need_yes _).mono ?_
    rintro e x2 ⟨rfl,hx2⟩
    rw [hx2]
    clear hx2 x2
    go_wp2
    go_ret
    unfold LnP
    rw [←unhide HD]
    exact ⟨(unhide HX).2.1,⟨_,rfl,(unhide HX).1.mono (Nat.le_succ _)⟩,(unhide HX).2.2.1⟩
   ·
    have hEb:((n:Int) == (many:Int))=false:=by rw [beq_eq_false_iff_ne]; omega
    rw [if_neg (by rw [unhide HA]; exact hE)] at HD
    clear hE
    go_wp2_with fail
    refine (need_no _).mono ?_
    rintro e x2 ⟨rfl,hx2⟩
    rw [hx2]
    clear hx2 x2
    refine ⟨rfl,?_⟩; unfold LnP; rw [←unhide HD]; exact ⟨(unhide HX).2.1,rfl⟩
theorem fixL_ok:lensOk (fixL 288)=true:=by kernel_rfl
theorem fives_ok:lensOk (List.replicate 32 (5:Int))=true:=by kernel_rfl
theorem JRow.take {w:World} {base:Nat} {a:Option Addr} {l:List Int} (h:JRow w base a l) (n:Nat):JRow w base a (l.take n):=by
 have hl:(l.take n).length≤l.length:=by rw [List.length_take]; omega
 refine ⟨fun h0=>?_,fun h0=>h.2 (by omega)⟩
 obtain ⟨g,o,e,hg,hc⟩:=h.1 (by omega)
 refine ⟨g,o,e,hg,fun i hi=>?_⟩
 rw [hc i (by omega)]
 rw [List.length_take] at hi
 simp [List.getD,show i<n by omega]
theorem JRow.drop {w:World} {base g o:Nat} {l:List Int} (h:JRow w base (some ⟨g,o,none⟩) l) (n:Nat):JRow w base (some ⟨g,o+n,none⟩) (l.drop n):=by
 have hl:(l.drop n).length=l.length-n:=List.length_drop ..
 refine ⟨fun h0=>?_,fun h0 x e=>?_⟩
 ·
  obtain ⟨g',o',e,hg,hc⟩:=h.1 (by omega)
  simp only [Option.some.injEq,Addr.mk.injEq,and_true] at e
  obtain ⟨rfl,rfl⟩:=e
  refine ⟨g,o+n,rfl,hg,fun i hi=>?_⟩
  have:=hc (n+i) (by omega)
  rw [←Nat.add_assoc] at this
  rw [this]
  simp [List.getD,List.getElem?_drop]
 ·
  have:=h.2 (by omega) _ rfl
  simp only [Option.some.injEq] at e
  subst e
  exact this
set_option maxRecDepth 100000 in
theorem fixedPart_any (b p:Nat) (s:ByteArray) (T:List UInt8) (w:World) (h:Sou w b s p T) (hT:T.length≤300) (hp:p≤8*s.size) (hs:s.size≤2000000) :
  Calls Tryz.prog 247 #[.pointer (some ⟨b,0,none⟩)] w (LayP w b s (fixG (numB s) (8*s.size) p T)):=by
 obtain ⟨d,hd⟩:∃ d,fixG (numB s) (8*s.size) p T=d:=⟨_,rfl⟩
 rw [hd]
 have HX:=hide (And.intro h (And.intro hT (And.intro hp hs)))
 have HD:=hide hd
 have hlt:=h.lt
 clear h hT hp hs hd
 go_enter Tryz.func247,Tryz.ntmps247
 go_wp2_with fail
 refine (fixedBooks_any w).mono ?_
 rintro e x1 ⟨⟨C,rfl,hB⟩,b1⟩
 have HT:=hide (tokens_any b p (w.heap.size+1) s (fixL 288) (List.replicate 32 5) C T x1 ((unhide HX).1.later b1) (unhide HX).2.1 (unhide HX).2.2.1 (unhide HX).2.2.2 hB (by omega) fixL_ok fives_ok)
 have HE:=hide (show tokG (numB s) (8*s.size) (fixL 288) (List.replicate 32 5) p T=d from unhide HD)
 rw [unhide HE] at HT
 have HK:=hide ((KU.refl b w).later b1 hlt)
 clear hB b1 HX HD HE
 go_wp2_with fail
 refine (unhide HT).mono ?_
 intro e x2 h2
 unfold LayP at h2
 rcases d with _ | ⟨T',q⟩
 ·
  obtain ⟨k2,rfl⟩:=h2
  refine ⟨rfl,?_⟩; unfold LayP; exact ⟨(unhide HK).trans k2,rfl⟩
 ·
  obtain ⟨k2,rfl,s2⟩:=h2
  have HY:=hide (And.intro ((unhide HK).trans k2) s2)
  clear k2 s2 HT HK
  go_wp2
  go_end0
  unfold LayP
  exact ⟨(unhide HY).1,rfl,(unhide HY).2⟩
theorem BookV.second {w:World} {base:Nat} {L D:List Int} {C1 C2:Array Value} (h:Books w base L D (C1++C2)) (hz:C1.size=19):BookV w base D C2:=by
 obtain ⟨E1,E2,e,f1,f2⟩:=h
 have h1:=congrArg Array.toList e
 simp only [Array.toList_append] at h1
 have h2:=List.append_inj h1 (by simp [hz,f1.size])
 rw [Array.ext' h2.2]
 exact f2
theorem yieldsIf_build {P:Program} {ops:Array Oper} {S:World→Prop} {op:Oper} {a:Act} (hw:Region.wanted op (yielded ops a.tmps)=true) (t:TypeId) (parts:Array (Nat×Operand)) (ho:op.op = .build t parts) (cells:Array Value)
  (hc:P.built t (parts.map fun (i,x)=>(i,a.eval x)).toList=some cells):YieldsIf P ops S op (.agg cells) a:=
 Or.inl ⟨hw,fun w _=>by unfold execOp; simp only [ho,Sem.run_bind,run_build w t _ cells hc,Result.andThen_ok,Sem.run_pure]⟩
theorem yieldsIf_build2 {P:Program} {ops:Array Oper} {S:World→Prop} {op:Oper} {a:Act} (hw:Region.wanted op (yielded ops a.tmps)=true) (t:TypeId) (x y:Operand) (ho:op.op = .build t #[(0,x),(1,y)]) (cells:Array Value) (u v:Value) (hx:a.eval x=u) (hy:a.eval y=v)
  (hc:P.built t [(0,u),(1,v)]=some cells):YieldsIf P ops S op (.agg cells) a:=by
 have e:((#[(0,x),(1,y)]:Array (Nat×Operand)).map fun (i,x)=>(i,a.eval x)).toList=[(0,u),(1,v)]:=by simp [hx,hy]
 exact yieldsIf_build hw t _ ho cells (by rw [e]; exact hc)
set_option maxRecDepth 100000 in
set_option maxHeartbeats 3200000 in
theorem ownPart_any (b p:Nat) (s:ByteArray) (T:List UInt8) (w:World) (h:Sou w b s p T) (hT:T.length≤300) (hs:s.size≤2000000) (hO:OrdC w) (hb:1<b) :
  Calls Tryz.prog 248 #[.pointer (some ⟨b,0,none⟩)] w (LayP w b s (ownG (numB s) (8*s.size) p T)):=by
 have hmix:Tryz.prog.follows .mixedOrders=true:=by kernel_rfl
 obtain ⟨d,hd⟩:∃ d,ownG (numB s) (8*s.size) p T=d:=⟨_,rfl⟩
 rw [hd]
 have Hd:=hide hd
 unfold ownG at Hd
 have HN:=hide (And.intro hs (And.intro hT (And.intro hO hb)))
 have HM:=hide (number_any b p 5 s w h.1 hs (by omega))
 have HS:=hide h
 clear h hT hs hO hb hd
 go_enter Tryz.func248,Tryz.ntmps248
 unfold NumP at HM
 rcases h1:rdN (numB s) (8*s.size) p 5 with _ | ⟨a,q1⟩
 ·
  rw [h1] at HM Hd
  have Hn:Hid (d=none):=by show d=none; rw [←unhide Hd]; rfl
  clear h1 Hd
  go_wp2_with fail
  refine (unhide HM).mono ?_
  rintro e x1 ⟨k1,rfl⟩
  refine ⟨rfl,?_⟩; unfold LayP; rw [unhide Hn]; exact ⟨k1.ku,rfl⟩
 rw [h1] at HM Hd
 simp only [Option.bind_some] at Hd
 have ha:a<32:=by have:=(rdN_bd h1).2.2.2; omega
 clear h1
 go_wp2_with fail
 refine (unhide HM).mono ?_
 rintro e x1 ⟨k1,rfl,r1⟩
 have HK1:=hide k1
 have HR1:=hide r1
 clear k1 r1 HM
 have HM:=hide (number_any b q1 5 s x1 (unhide HR1) (unhide HN).1 (by omega))
 unfold NumP at HM
 rcases h2:rdN (numB s) (8*s.size) q1 5 with _ | ⟨c,q2⟩
 ·
  rw [h2] at HM Hd
  have Hn:Hid (d=none):=by show d=none; rw [←unhide Hd]; rfl
  clear h2 Hd
  go_wp2_with fail
  refine (unhide HM).mono ?_
  rintro e x2 ⟨k2,rfl⟩
  refine ⟨rfl,?_⟩; unfold LayP; rw [unhide Hn]; exact ⟨((unhide HK1).trans k2).ku,rfl⟩
 rw [h2] at HM Hd
 simp only [Option.bind_some] at Hd
 have hc:c<32:=by have:=(rdN_bd h2).2.2.2; omega
 clear h2
 go_wp2_with fail
 refine (unhide HM).mono ?_
 rintro e x2 ⟨k2,rfl,r2⟩
 have HK2:=hide ((unhide HK1).trans k2)
 have HR2:=hide r2
 clear k2 r2 HM HK1 HR1
 have HM:=hide (number_any b q2 4 s x2 (unhide HR2) (unhide HN).1 (by omega))
 unfold NumP at HM
 by_cases hA:a+257≤286∧c+1≤30
 ·
  rw [if_pos hA] at Hd
  have hA1:(a:Int)+256+1≤286:=by omega
  have hA2:(c:Int)+1≤30:=by omega
  clear hA
  obtain ⟨nL,hnL⟩:∃ n,a+257=n:=⟨_,rfl⟩
  obtain ⟨nD,hnD⟩:∃ n,c+1=n:=⟨_,rfl⟩
  have e1:(a:Int)+256+1=(nL:Int):=by omega
  have e2:(c:Int)+1=(nD:Int):=by omega
  have l1:nL≤286∧257≤nL:=by omega
  have l2:nD≤30∧1≤nD:=by omega
  have l1I:(nL:Int)≤286:=by omega
  have l2I:(nD:Int)≤30:=by omega
  rw [hnL,hnD] at Hd
  clear hnL hnD
  go_wp2_with fail
  refine (need_yes _).mono ?_
  rintro e x3 ⟨rfl,hx3⟩
  rw [hx3]
  clear hx3 x3
  clear e1 e2 hA1 hA2 ha hc
  rcases h3:rdN (numB s) (8*s.size) q2 4 with _ | ⟨m,q3⟩
  ·
   rw [h3] at HM Hd
   have Hn:Hid (d=none):=by show d=none; rw [←unhide Hd]; rfl
   clear h3 Hd
   go_wp2_with fail
   refine (unhide HM).mono ?_
   rintro e x3 ⟨k3,rfl⟩
   refine ⟨rfl,?_⟩; unfold LayP; rw [unhide Hn]; exact ⟨((unhide HK2).trans k3).ku,rfl⟩
  rw [h3] at HM Hd
  simp only [Option.bind_some] at Hd
  have hm16:m<16:=by have:=(rdN_bd h3).2.2.2; omega
  have Hq3:=hide (rdN_bd h3).1
  obtain ⟨mm,hmm⟩:∃ n,m+4=n:=⟨_,rfl⟩
  have e3:(m:Int)+4=(mm:Int):=by omega
  have hmm19:mm≤19:=by omega
  rw [hmm] at Hd
  clear h3 hmm
  go_wp2_with fail
  refine (unhide HM).mono ?_
  rintro e x3 ⟨k3,rfl,r3⟩
  have HK3:=hide ((unhide HK2).trans k3)
  have HR3:=hide r3
  clear k3 r3 HM HK2 HR2
  have HB:=hide (readBook_any b q3 mm s x3 (unhide HR3) (unhide Hq3) (unhide HN).1 hmm19 ((unhide HN).2.2.1.below (unhide HK3).1 (unhide HN).2.2.2) (unhide HN).2.2.2)
  unfold LbP at HB
  rcases h4:lenBkG (numB s) (8*s.size) mm q3 with _ | ⟨B,q4⟩
  ·
   rw [h4] at HB Hd
   have Hn:Hid (d=none):=by show d=none; rw [←unhide Hd]; rfl
   clear h4 Hd
   go_wp2_with fail
   refine (unhide HB).mono ?_
   rintro e x4 ⟨k4,rfl⟩
   refine ⟨rfl,?_⟩; unfold LayP; rw [unhide Hn]; exact ⟨((unhide HK3).trans k4).ku,rfl⟩
  rw [h4] at HB Hd
  simp only [Option.bind_some] at Hd
  have Hb4:=hide (lenBkG_bd h4 (unhide Hq3))
  clear h4
  go_wp2_with fail
  refine (unhide HB).mono ?_
  rintro e x4 ⟨k4,⟨C,rfl,hBV⟩,r4⟩
  have HK4:=hide ((unhide HK3).trans k4)
  have HR4:=hide r4
  have HBV:=hide hBV
  have hlt3:b<x3.heap.size:=(unhide HR3).lt
  clear k4 r4 HB HK3 HR3 hBV e3
  have HL:=hide (readLens_any b q4 (nL+nD) x3.heap.size s B C x4 (unhide HR4) (unhide Hb4).1 (unhide HN).1 (by omega) (unhide HBV) hlt3 (unhide Hb4).2.2.1)
  have e5:((nL+nD:Nat):Int)=(nL:Int)+(nD:Int):=by omega
  rw [e5] at HL
  clear e5
  unfold LnP at HL
  rcases h5:lnG (numB s) (8*s.size) B (nL+nD) q4 [] with _ | ⟨A,q5⟩
  ·
   rw [h5] at HL Hd
   have Hn:Hid (d=none):=by show d=none; rw [←unhide Hd]; rfl
   clear h5 Hd
   go_wp2_with fail
   refine (unhide HL).mono ?_
   rintro e x5 ⟨k5,rfl⟩
   refine ⟨rfl,?_⟩; unfold LayP; rw [unhide Hn]; exact ⟨((unhide HK4).trans k5).ku,rfl⟩
  rw [h5] at HL Hd
  simp only [Option.bind_some] at Hd
  have Hb5:=hide (lnG_bd h5 (unhide Hb4).1)
  clear h5
  go_wp2_with fail
  refine (unhide HL).mono ?_
  rintro e x5 ⟨k5,⟨v,rfl,hv⟩,r5⟩
  have hAl:A.length=nL+nD:=(unhide Hb5).2.2
  obtain ⟨ga,cap,rfl⟩:=hv.formN hAl
  obtain ⟨g,rfl⟩:=hv.somes (by omega)
  have hcap:nL+nD≤cap:=by
   rcases (hv.own hAl).2 with ⟨e,_⟩ | ⟨g',cap',cur,e,_,_,h1,_⟩
   ·
    cases e
   ·
    simp only [Value.slice.injEq] at e; omega
  have HK5:=hide ((unhide HK4).trans k5)
  have HS5:=hide ((unhide HS).keep1 (unhide HK5) r5)
  have HJ5:=hide (own_jrow hAl (hv.own hAl))
  have hlt4:b<x4.heap.size:=(unhide HR4).lt
  have hs45:x4.heap.size≤x5.heap.size:=k5.1.size
  clear k5 r5 HL hv HK4 HR4 HBV
  go_wp2_with fail
  refine wp_region_held_drew (S:=fun _=>True) hmix trivial (fun hS=>?_)
  refine wpAnyH_take (i:=0) (v:=.pointer (some ⟨b,0,none⟩)) rfl (by kernel_rfl) (by kernel_rfl) (by kernel_rfl) (fun _ _ _ h=>h) (Or.inl ⟨by rfl,fun W hSw=>by go_simp⟩) hS ?_
  refine wpAnyH_take (i:=1) (v:=.slice (some ⟨g,0,none⟩) (nL+nD) cap) rfl (by kernel_rfl) (by kernel_rfl) (by kernel_rfl) (fun _ _ _ h=>h) (Or.inl ⟨by rfl,fun W hSw=>by go_simp⟩) hS ?_
  refine wpAnyH_take (i:=2) (v:=.int .i64 (nL:Nat)) rfl (by kernel_rfl) (by kernel_rfl) (by kernel_rfl) (fun _ _ _ h=>h) (Or.inl ⟨by rfl,fun W hSw=>by go_simp⟩) hS ?_
  refine wpAnyH_take (i:=5) (v:=.slice (some ⟨g,0,none⟩) (nL+nD) cap) rfl (by kernel_rfl) (by kernel_rfl) (by kernel_rfl) (fun _ _ _ h=>h) (Or.inl ⟨by rfl,fun W hSw=>by go_simp⟩) hS ?_
  refine wpAnyH_take (i:=6) (v:=.int .i64 (nL:Nat)) rfl (by kernel_rfl) (by kernel_rfl) (by kernel_rfl) (fun _ _ _ h=>h) (Or.inl ⟨by rfl,fun W hSw=>by go_simp⟩) hS ?_
  refine wpAnyH_take (i:=3) (v:=.slice (some ⟨g,0,none⟩) nL cap) rfl (by kernel_rfl) (by kernel_rfl) (by kernel_rfl) (fun _ _ _ h=>h) (Or.inl ⟨by rfl,fun W hSw=>by go_simp; intro h; omega⟩) hS ?_
  refine wpAnyH_take (i:=7) (v:=.slice (some ⟨g,nL,none⟩) nD (cap-nL)) rfl (by kernel_rfl) (by kernel_rfl) (by kernel_rfl) (fun _ _ _ h=>h) (Or.inl ⟨by rfl,fun W hSw=>by go_simp; rw [if_pos (by omega),if_neg (by omega)]⟩) hS ?_
  have HJd:Hid (JRow x5.drew x4.heap.size (some ⟨g,0,none⟩) A):=(unhide HJ5).later (Below.refl _ _).drew
  have tl:(A.take nL).length=nL:=by rw [List.length_take]; omega
  have dl:(A.drop nL).length=nD:=by rw [List.length_drop]; omega
  have HF1:=hide (litFB_any (some ⟨g,0,none⟩) cap nL x4.heap.size (A.take nL) x5.drew tl ((unhide HJd).take nL) hs45 (by omega))
  refine wpAnyH_ready (rs:=[4]) (by kernel_rfl) (by simp) ?_
  refine AllReadyH.cons rfl (fun K hK=>?_) AllReadyH.nil
  go_simp
  go_at_call 272
  unfold booksG at Hd
  cases hk1:lensOk (A.take nL)
  ·
   rw [hk1] at HF1 Hd
   simp only [Bool.false_eq_true,if_false] at HF1 Hd
   refine (unhide HF1).mono ?_
   rintro e x6 ⟨b6,rfl⟩
   refine ⟨rfl,?_⟩; unfold LayP; rw [←unhide Hd]; exact ⟨((unhide HK5).drew.ku).later b6 (show b<x5.drew.heap.size from (unhide HS5).lt),rfl⟩
  rw [hk1] at HF1 Hd
  simp only [if_true] at HF1 Hd
  refine (unhide HF1).mono ?_
  rintro e x6 ⟨b6,C1,rfl,hB1⟩
  have HK6:=hide (((unhide HK5).drew.ku).later b6 (show b<x5.drew.heap.size from (unhide HS5).lt))
  have HS6:=hide (Sou.later (w:=x5.drew) (show Sou x5.drew b s q5 T from unhide HS5) b6)
  have HB1:=hide hB1
  have hs6:x4.heap.size≤x6.heap.size:=Nat.le_trans hs45 b6.size
  have HJ6:=hide ((unhide HJd).later b6)
  refine Shut.out hK _ _ trivial (fun hS2=>?_)
  clear hK K b6 hB1 HF1
  have HF2:=hide (distFB_any (some ⟨g,nL,none⟩) (cap-nL) nD x4.heap.size (A.drop nL) x6 dl (by have:=(unhide HJ6).drop nL; rwa [Nat.zero_add] at this) hs6 (by omega))
  refine wpAnyH_ready (rs:=[8]) (by kernel_rfl) (by simp) ?_
  refine AllReadyH.cons rfl (fun K hK=>?_) AllReadyH.nil
  go_simp
  go_at_call 273
  cases hk2:lensOk (A.drop nL)
  ·
   rw [hk2] at HF2 Hd
   simp only [Bool.false_eq_true,if_false] at HF2 Hd
   refine (unhide HF2).mono ?_
   rintro e x7 ⟨b7,rfl⟩
   refine ⟨rfl,?_⟩; unfold LayP; rw [←unhide Hd]; exact ⟨(unhide HK6).later b7 (unhide HS6).lt,rfl⟩
  rw [hk2] at HF2 Hd
  simp only [if_true] at HF2 Hd
  refine (unhide HF2).mono ?_
  rintro e x7 ⟨b7,C2,rfl,hB2⟩
  have HK7:=hide ((unhide HK6).later b7 (unhide HS6).lt)
  have HS7:=hide ((unhide HS6).later b7)
  have HBs:Hid (Books x7 x4.heap.size (A.take nL) (A.drop nL) (C1++C2)):=⟨C1,C2,rfl,(unhide HB1).later b7,hB2⟩
  have HB7:=(unhide HB1).later b7
  refine Shut.out hK _ _ trivial (fun hS3=>?_)
  clear hK K b7 hB2 HF2
  have HBu:Hid (Tryz.prog.built 184 [(0,.agg C1),(1,.agg C2)]=some (C1++C2)):=by
   exact built_books HB7 (BookV.second (unhide HBs) (unhide HB1).size)
  have HTk:=hide (tokens_any b q5 x4.heap.size s (A.take nL) (A.drop nL) (C1++C2) T x7 (unhide HS7) (unhide HN).2.1 (unhide Hb5).1 (unhide HN).1 (unhide HBs) hlt4 hk1 hk2)
  rw [unhide Hd] at HTk
  refine wpAnyH_take (i:=9) (v:=.agg (C1++C2)) rfl (by kernel_rfl) (by kernel_rfl) (by kernel_rfl) (fun _ _ _ h=>h) (yieldsIf_build2 (by rfl) 184 (.tmp 35) (.tmp 39) rfl (C1++C2) (.agg C1) (.agg C2) rfl rfl (unhide HBu)) hS3 ?_
  refine wpAnyH_ready (rs:=[10]) (by kernel_rfl) (by simp) ?_
  refine AllReadyH.cons rfl (fun K hK=>?_) AllReadyH.nil
  go_simp
  go_at_call 269
  refine (unhide HTk).mono ?_
  intro e x8 h8
  unfold LayP at h8
  rcases d with _ | ⟨T',q⟩
  ·
   obtain ⟨k8,rfl⟩:=h8
   refine ⟨rfl,?_⟩; unfold LayP; exact ⟨(unhide HK7).trans k8,rfl⟩
  ·
   obtain ⟨k8,rfl,s8⟩:=h8
   have HY:=hide (And.intro ((unhide HK7).trans k8) s8)
   refine Shut.out hK _ _ trivial (fun hS4=>?_)
   clear hK K k8 s8 HTk
   refine wpAnyH_done (by kernel_rfl) ?_ _
   clear hS hS2 hS3 hS4
   go_wp2
   go_end0
   unfold LayP
   exact ⟨(unhide HY).1,rfl,(unhide HY).2⟩
 ·
  rw [if_neg hA] at Hd
  have Hn:Hid (d=none):=by show d=none; rw [←unhide Hd]
  by_cases hA1:a+257≤286
  ·
   have hB1:(a:Int)+256+1≤286:=by omega
   have hB2:decide ((c:Int)+1≤30)=false:=decide_eq_false (by omega)
   clear hA hA1
   go_wp2_with fail
   refine (need_no _).mono ?_
   rintro e x3 ⟨rfl,hx3⟩
   rw [hx3]
   clear hx3 x3
   refine ⟨rfl,?_⟩; unfold LayP; rw [unhide Hn]; exact ⟨(unhide HK2).ku,rfl⟩
  ·
   have hB1:decide ((a:Int)+256+1≤286)=false:=decide_eq_false (by omega)
   clear hA hA1
   go_wp2_with fail
   refine (need_no _).mono ?_
   rintro e x3 ⟨rfl,hx3⟩
   rw [hx3]
   clear hx3 x3
   refine ⟨rfl,?_⟩; unfold LayP; rw [unhide Hn]; exact ⟨(unhide HK2).ku,rfl⟩
def MR (sz p:Nat) (T:List UInt8) (d:Option (List UInt8×Nat)) (T':List UInt8) (q:Nat) (f:Bool):Prop:=
 (f=false→q≤sz∧p≤q∧T'.length≤300+q)∧(T.length≤300→f=false→T'.length≤300→d=some (T',q))∧(T.length≤300→(f=true∨300<T'.length)→d=none)∧(300<T.length→f=true∨300<T'.length)
def MP (w:World) (b p:Nat) (s:ByteArray) (T:List UInt8) (d:Option (List UInt8×Nat)) (e:Ending) (w':World):Prop:=
 KU b w w'∧∃ v T' q f,e = .returned v∧BOwn w' (b+1) v T'∧RF w' b s q f∧MR (8*s.size) p T d T' q f
theorem MR.bad {sz p q:Nat} {T T':List UInt8} {d:Option (List UInt8×Nat)} (h:T.length≤300→d=none):MR sz p T d T' q true:=
 ⟨nofun,fun _=>nofun,fun h1 _=>h h1,fun _=>.inl rfl⟩
theorem byte_addL (R:List UInt8) (y:Nat) (hy:y<256):addL R ((y:Nat),0,0)=if R.length+1≤300 then some (R++[byteT (y:Nat)]) else none:=by
 have hB:isB (((y:Nat):Int),0,0)=true:=by unfold isB inB; simp; omega
 unfold addL addT
 rw [hB]
 simp
theorem bytesG_len {V sz:Nat} : ∀ (n p:Nat) (T T':List UInt8) (q:Nat),bytesG V sz n p T=some (T',q)→T'.length=T.length+n∧(0<n→T'.length≤300):=by
 intro n
 induction n with
 | zero=>
  intro p T T' q h
  simp only [bytesG,Option.some.injEq,Prod.mk.injEq] at h
  obtain ⟨rfl,rfl⟩:=h
  exact ⟨rfl,fun h=>by omega⟩
 | succ n ih=>
  intro p T T' q h
  simp only [bytesG] at h
  rcases h1:rdN V sz p 8 with _ | ⟨x,r⟩
  ·
   rw [h1] at h; cases h
  ·
   rw [h1] at h
   simp only [Option.bind_some] at h
   have b1:=rdN_bd h1
   rw [byte_addL T x (by have:=b1.2.2.2; omega)] at h
   split at h
   ·
    simp only [Option.bind_some] at h
    obtain ⟨a1,a2⟩:=ih _ _ _ _ h
    rw [List.length_append,List.length_singleton] at a1
    refine ⟨by omega,fun _=>?_⟩
    rcases Nat.eq_zero_or_pos n with h0 | h0
    ·
     omega
    ·
     exact a2 h0
   ·
    cases h
theorem bytesG_over {V sz n p:Nat} {T:List UInt8} (h:300<n):bytesG V sz n p T=none:=by
 rcases h1:bytesG V sz n p T with _ | ⟨T',q⟩
 ·
  rfl
 ·
  have:=bytesG_len _ _ _ _ _ h1
  have:=this.2 (by omega)
  omega
def StI (sz V x q0:Nat) (T:List UInt8) (d:Option (List UInt8×Nat)) (k q:Nat) (R:List UInt8) (f:Bool):Prop:=
 k≤x∧T.length≤R.length∧R.length≤T.length+k∧(f=false→q≤sz∧q0≤q∧R.length≤300+q∧(R.length≤300→bytesG V sz (x-k) q R=d)∧(300<R.length→T.length≤300→d=none))∧(f=true→T.length≤300→d=none)
theorem StI.next {sz V x q0 k q:Nat} {T R:List UInt8} {d:Option (List UInt8×Nat)} (h:StI sz V x q0 T d k q R false) (hk:k<x):StI sz V x q0 T d (k+1) (q+8) (R++[byteT ((V/2 ^ q%2 ^ 8:Nat):Int)]) (false || decide (sz<q+8)):=by
 obtain ⟨h1,h2,h3,h4,_⟩:=h
 obtain ⟨a1,a2,a3,a4,a5⟩:=h4 rfl
 have e:x-k=(x-(k+1))+1:=by omega
 have hy:V/2 ^ q%2 ^ 8<256:=Nat.mod_lt _ (by decide)
 rw [Bool.false_or]
 have hl:(R++[byteT ((V/2 ^ q%2 ^ 8:Nat):Int)]).length=R.length+1:=by simp
 by_cases hc:sz<q+8
 ·
  rw [decide_eq_true hc]
  refine ⟨hk,by omega,by omega,nofun,fun _ hT=>?_⟩
  by_cases hR:R.length≤300
  ·
   rw [←a4 hR,e]
   simp only [bytesG]
   rw [rdN_no (by omega)]
   rfl
  ·
   exact a5 (by omega) hT
 ·
  rw [decide_eq_false hc]
  refine ⟨hk,by omega,by omega,fun _=>⟨by omega,by omega,by omega,fun h=>?_,fun h hT=>?_⟩,nofun⟩
  ·
   have:=a4 (by omega)
   rw [e] at this
   simp only [bytesG] at this
   rw [rdN_yes (by omega)] at this
   simp only [Option.bind_some] at this
   rw [byte_addL R _ hy,if_pos (by omega)] at this
   exact this
  ·
   by_cases hR:R.length≤300
   ·
    have:=a4 hR
    rw [e] at this
    simp only [bytesG] at this
    rw [rdN_yes (by omega)] at this
    simp only [Option.bind_some] at this
    rw [byte_addL R _ hy,if_neg (by omega)] at this
    exact this.symm
   ·
    exact a5 (by omega) hT
theorem StI.done {sz V x q0 p k q:Nat} {T R:List UInt8} {d:Option (List UInt8×Nat)} {f:Bool} (h:StI sz V x q0 T d k q R f) (hp:p≤q0) (hk:f=true∨¬ k<x):MR sz p T d R q f:=by
 obtain ⟨h1,h2,h3,h4,h5⟩:=h
 cases f
 ·
  obtain ⟨a1,a2,a3,a4,a5⟩:=h4 rfl
  have hx:x-k=0:=by
   rcases hk with h | h
   ·
    cases h
   ·
    omega
  refine ⟨fun _=>⟨a1,by omega,a3⟩,fun hT _ hR=>?_,fun hT h=>?_,fun hT=>.inr (by omega)⟩
  ·
   rw [←a4 hR,hx]
   rfl
  ·
   rcases h with h | h
   ·
    cases h
   ·
    exact a5 h hT
 ·
  exact MR.bad (h5 rfl)
def MS (w:World) (b:Nat) (s:ByteArray) (x:World) (v:Value) (R:List UInt8) (q:Nat) (f:Bool):Prop:=KU b w x∧BOwn x (b+1) v R∧RF x b s q f
theorem MS.keep1 {w x x':World} {b q q':Nat} {s:ByteArray} {v:Value} {R:List UInt8} {f f':Bool} (h:MS w b s x v R q f) (hk:Keep1 b x x') (hr:RF x' b s q' f'):MS w b s x' v R q' f':=⟨h.1.trans hk.ku,h.2.1.keep1 hk (Nat.lt_succ_self _),hr⟩
theorem MS.setBad {w x:World} {b q:Nat} {s:ByteArray} {v:Value} {R:List UInt8} {f:Bool} (h:MS w b s x v R q f):MS w b s (x.setCell ⟨b,2,none⟩ (.bool true)) v R q true:=h.keep1 (keep1_set0 _ _ _ _) h.2.2.setBad
theorem MS.lt {w x:World} {b q:Nat} {s:ByteArray} {v:Value} {R:List UInt8} {f:Bool} (h:MS w b s x v R q f):b<x.heap.size:=h.2.2.lt
theorem MS.belU {w x x':World} {b q:Nat} {s:ByteArray} {v v':Value} {R R':List UInt8} {f:Bool} (h:MS w b s x v R q f) (hb:BelU (b+1) x x') (ho:BOwn x' (b+1) v' R'):MS w b s x' v' R' q f:=
 ⟨h.1.trans ⟨hb.1.mono (Nat.le_succ _),fun j hj _ hn=>hb.2 j hj hn⟩,ho,h.2.2.kept hb.1⟩
theorem MS.end {w x:World} {b p q:Nat} {s:ByteArray} {v:Value} {T R:List UInt8} {d:Option (List UInt8×Nat)} {f:Bool} (h:MS w b s x v R q f) (hm:MR (8*s.size) p T d R q f):MP w b p s T d (.returned v) x:=⟨h.1,v,R,q,f,rfl,h.2.1,h.2.2,hm⟩
theorem store_none1 {V sz p:Nat} {T:List UInt8} (h:restG V p=none):storeG V sz p T=none:=by unfold storeG; rw [h]; rfl
theorem store_some1 {V sz p q:Nat} {T:List UInt8} (h:restG V p=some q):storeG V sz p T=(rdN V sz q 16).bind fun a=>(rdN V sz a.2 16).bind fun c=>if c.1=65535-a.1 then bytesG V sz a.1 c.2 T else none:=by unfold storeG; rw [h]; rfl
theorem store_short {V sz p q:Nat} {T:List UInt8} (h:restG V p=some q) (hc:sz<q+32):storeG V sz p T=none:=by
 rw [store_some1 h]
 by_cases h1:q+16≤sz
 ·
  rw [rdN_yes h1]
  simp only [Option.bind_some]
  rw [rdN_no (by omega)]
  rfl
 ·
  rw [rdN_no h1]; rfl
theorem store_long {V sz p q:Nat} {T:List UInt8} (h:restG V p=some q) (hc:q+32≤sz):storeG V sz p T=if V/2 ^ (q+16)%2 ^ 16=65535-V/2 ^ q%2 ^ 16 then bytesG V sz (V/2 ^ q%2 ^ 16) (q+32) T else none:=by
 rw [store_some1 h,rdN_yes (by omega)]
 simp only [Option.bind_some]
 rw [rdN_yes (by omega)]
 simp only [Option.bind_some]
theorem store_not {V sz p q:Nat} {T:List UInt8} (h:restG V p=some q) (hc:¬ V/2 ^ (q+16)%2 ^ 16=65535-V/2 ^ q%2 ^ 16):storeG V sz p T=none:=by
 by_cases h1:q+32≤sz
 ·
  rw [store_long h h1,if_neg hc]
 ·
  exact store_short h (by omega)
theorem store_over {V sz p q:Nat} {T:List UInt8} (h:restG V p=some q) (hc:300<V/2 ^ q%2 ^ 16):storeG V sz p T=none:=by
 by_cases h1:q+32≤sz
 ·
  rw [store_long h h1]
  split
  ·
   exact bytesG_over hc
  ·
   rfl
 ·
  exact store_short h (by omega)
set_option maxRecDepth 100000 in
set_option maxHeartbeats 3200000 in
theorem stored_any (b p n cap:Nat) (a:Option Addr) (s:ByteArray) (T:List UInt8) (w:World) (hn:T.length=n) (ho:BOwn w (b+1) (.slice a n cap) T) (hr:Rdr w b s p) (hp:p≤8*s.size) (hs:s.size≤2000) (hT:n≤300+p) :
  Calls Tryz.prog 233 #[.pointer (some ⟨b,0,none⟩),.slice a n cap] w (MP w b p s T (storeG (numB s) (8*s.size) p T)):=by
 obtain ⟨i0,hi,hz0,hz1,hz2⟩:=info_parts Tryz.infoU8
 obtain ⟨d,hd⟩:∃ d,storeG (numB s) (8*s.size) p T=d:=⟨_,rfl⟩
 rw [hd]
 have hrf:RF w b s p false:=by have:=rdr_rf hr; rwa [decide_eq_false (by omega)] at this
 have HS0:Hid (MS w b s w (.slice a n cap) T p false):=⟨KU.refl _ _,ho,hrf⟩
 have HW:=hide (whole_rf b p false s w hrf hp (by omega))
 have HN:=hide (And.intro hs (And.intro hn (And.intro hT hp)))
 have HD:=hide hd
 clear hn ho hr hs hT hd hrf
 have hp1:p+(8-p%8)%8≤8*s.size:=by omega
 have hR:Hid (restG (numB s) p=if numB s/2 ^ p%2 ^ ((8-p%8)%8)=0 then some (p+(8-p%8)%8) else none):=rfl
 generalize hq1:p+(8-p%8)%8=q1 at *
 have Hq1:Hid (p≤q1):=by show p≤q1; omega
 clear hq1 hp
 have Hp1:=hide hp1
 clear hp1
 go_enter Tryz.func233,Tryz.ntmps233
 by_cases hc1:numB s/2 ^ p%2 ^ ((8-p%8)%8)=0
 ·
  rw [decide_eq_true hc1] at HW
  rw [if_pos hc1] at hR
  clear hc1
  go_wp2_with fail
  refine (unhide HW).mono ?_
  rintro e x1 ⟨rfl,r1,k1⟩
  have HS1:=hide ((unhide HS0).keep1 k1 r1)
  clear k1 r1 HW HS0
  have HM:=hide (num_rf b q1 16 false s x1 (unhide HS1).2.2 (fun _=>unhide Hp1) (by have:=unhide HN; omega) (by omega))
  rw [Bool.false_or] at HM
  go_wp2_with fail
  refine (unhide HM).mono ?_
  rintro e x2 ⟨rfl,r2,k2⟩
  have HS2:=hide ((unhide HS1).keep1 k2 r2)
  clear k2 r2 HM HS1
  have HM:=hide (num_rf b (q1+16) 16 _ s x2 (unhide HS2).2.2 (fun h=>by have:=of_decide_eq_false h; omega) (by have:=unhide HN; omega) (by omega))
  obtain ⟨X,hX⟩:∃ X,numB s/2 ^ q1%2 ^ 16=X:=⟨_,rfl⟩
  obtain ⟨Y,hY⟩:∃ Y,numB s/2 ^ (q1+16)%2 ^ 16=Y:=⟨_,rfl⟩
  have hXI:(X:Int)≤65535:=by
   have:numB s/2 ^ q1%2 ^ 16<65536:=Nat.mod_lt _ (by decide)
   omega
  have hYI:(Y:Int)≤65535:=by
   have:numB s/2 ^ (q1+16)%2 ^ 16<65536:=Nat.mod_lt _ (by decide)
   omega
  have hfe:∃ f,(decide (8*s.size<q1+16) || decide (8*s.size<q1+16+16))=f∧f=decide (8*s.size<q1+32):=⟨_,rfl,by rw [Bool.eq_iff_iff]; simp; omega⟩
  obtain ⟨f,hf1,hf2⟩:=hfe
  rw [hf1,hY] at HM
  rw [hX]
  have Hf:=hide hf2
  have HXY:=hide (And.intro hX hY)
  clear hf1 hf2 hX hY
  go_wp2_with fail
  refine (unhide HM).mono ?_
  rintro e x3 ⟨rfl,r3,k3⟩
  have HS3:=hide ((unhide HS2).keep1 k3 r3)
  clear k3 r3 HM HS2
  obtain ⟨c3,f3⟩:=(unhide HS3).2.2.bad
  by_cases hYX:Y=65535-X
  ·
   by_cases hX3:300<X
   ·
    have gI:(300:Int)<(X:Int):=by omega
    have g1:(Y:Int)=65535-(X:Int):=by omega
    have Hnone:Hid (T.length≤300→d=none):=fun _=>by rw [←unhide HD]; exact (store_over (unhide hR) (by rw [(unhide HXY).1]; exact hX3))
    clear hYX hX3
    have HSx0:=hide (unhide HS3).setBad
    go_wp2_with fail
    generalize x3.setCell ⟨b,2,none⟩ (.bool true)=XW at *
    have HSx:=hide (unhide HSx0)
    have c4:=(unhide HSx).2.2.bad.1
    go_loopw [1,6] (fun v i wr=>v = .slice a n cap∧i = .int .i64 0∧wr=XW) (fun _ _ _=>0)
    case atStart=>exact ⟨rfl,rfl,rfl⟩
    case round=>
     obtain ⟨rfl,rfl,rfl⟩:=hrel
     by_cases h0:0<X
     ·
      go_wp2
      go_ret
      exact (unhide HSx).end (MR.bad (unhide Hnone))
     ·
      go_wp2
      go_ret
      exact (unhide HSx).end (MR.bad (unhide Hnone))
   ·
    have gI:¬ (300:Int)<(X:Int):=by omega
    have g1:(Y:Int)=65535-(X:Int):=by omega
    cases f
    ·
     have hfl:q1+32≤8*s.size:=by have:=unhide Hf; have:=of_decide_eq_false this.symm; omega
     have HI0:Hid (StI (8*s.size) (numB s) X (q1+32) T d 0 (q1+32) T false):=by
      refine ⟨Nat.zero_le _,Nat.le_refl _,Nat.le_refl _,fun _=>⟨hfl,Nat.le_refl _,by have:=unhide HN; have:=unhide Hq1; omega,fun _=>?_,fun h1 h2=>by omega⟩,nofun⟩
      rw [←unhide HD,store_long (unhide hR) hfl,(unhide HXY).1,(unhide HXY).2,if_pos hYX]
      rfl
     have Hn:=hide (unhide HN).2.1
     have Hb3:Hid (n≤300+p∧p≤8*s.size∧s.size≤2000):=⟨(unhide HN).2.2.1,(unhide HN).2.2.2,(unhide HN).1⟩
     have HS3':Hid (MS w b s x3 (.slice a n cap) T (q1+32) false):=unhide HS3
     clear hYX hX3 hfl HS3
     go_wp2_with fail
     go_loopw [1,6] (fun v i wr=>∃ (k q:Nat) (R:List UInt8) (f:Bool),i = .int .i64 k∧MS w b s wr v R q f∧StI (8*s.size) (numB s) X (q1+32) T d k q R f) (fun _ i _=>X-(intOf i).toNat)
     case atStart=>exact ⟨0,q1+32,T,false,rfl,unhide HS3',unhide HI0⟩
     case round=>
      obtain ⟨k,q,R,f,rfl,hms,hst⟩:=hrel
      clear HS3' HI0 c3 f3
      have hkX:=hst.1
      obtain ⟨m,hm⟩:∃ m,R.length=m:=⟨_,rfl⟩
      obtain ⟨va,vc,rfl⟩:=hms.2.1.formN hm
      obtain ⟨c2,f2⟩:=hms.2.2.bad
      have HMS:=hide hms
      have HST:=hide hst
      have hmb:m≤20000:=by have:=hst.2.2.1; have:=unhide Hb3; have:=unhide Hn; omega
      have Hm:=hide hm
      clear hms hst hm
      by_cases hk:k<X
      ·
       have hkI:(k:Int)<(X:Int):=by omega
       cases f
       ·
        have HM:=hide (num_rf b q 8 false s wr (unhide HMS).2.2 (fun _=>((unhide HST).2.2.2.1 rfl).1) (by have:=unhide Hb3; omega) (by omega))
        have HST2:=hide ((unhide HST).next hk)
        obtain ⟨y,hy⟩:∃ y,numB s/2 ^ q%2 ^ 8=y:=⟨_,rfl⟩
        have hy8:y<256:=by rw [←hy]; exact Nat.mod_lt _ (by decide)
        have hu:IntKind.u8.wrap (y:Int)=(y:Int):=u8_id (by omega) (by omega)
        rw [hy] at HM HST2
        clear hy
        go_wp2_with fail
        refine (unhide HM).mono ?_
        rintro e x5 ⟨rfl,r5,k5⟩
        have HS5:=hide ((unhide HMS).keep1 k5 r5)
        have hqo:=hide ((unhide HS5).2.1.own (unhide Hm))
        have hbs:b+1≤x5.heap.size:=(unhide HS5).lt
        have bd:Hid (m+1≤maxLen∧(m+1)*1≤140737488355328):=by show _∧_; unfold maxLen; omega
        clear r5 k5 HM HMS c2 f2 HST
        go_wp2_with (at_builtin; refine wpList_append_own _ rfl _ _ 22 rfl (b+1) 5 i0 (.int .u8 0) 1 1 Tryz.underlying22 hi hz0 hz1 hz2 rfl (by decide) (.slice va m vc) _ _ rfl (World.ownsRow.alloc (unhide hqo) _) ⟨x5.heap.size,0,none⟩ 1 1 [.int .u8 (y:Int)] rfl rfl (one_new _ _ rfl _ _) (one_byte _) (unhide bd).1 (unhide bd).2 (size_alloc_le hbs _) ?_; intro v' x6 hown hgrow hnil; clear hnil)
        have hbu:BelU (b+1) x5 x6:=grown_stepU hgrow (unhide hqo) (Nat.le_refl _) hbs (BelU.refl _ _)
        have hbo:BOwn x6 (b+1) v' (R++[byteT (y:Int)]):=bown_snoc (unhide Hm) (by rw [byteT_nat (by omega) (by omega)]; exact hown)
        have HS6:=hide ((unhide HS5).belU hbu hbo)
        clear hown hgrow hbu hbo HS5 hqo
        go_wp2_with fail
        go_roundw
        case rel=>exact ⟨k+1,q+8,_,_,by go_num,unhide HS6,unhide HST2⟩
        case measure=>simp [intOf]; omega
       ·
        go_wp2
        go_ret
        exact (unhide HMS).end ((unhide HST).done (by have:=unhide Hq1; omega) (.inl rfl))
      ·
       have hkI:¬ (k:Int)<(X:Int):=by omega
       go_wp2
       go_ret
       exact (unhide HMS).end ((unhide HST).done (by have:=unhide Hq1; omega) (.inr hk))
    ·
     have Hnone:Hid (T.length≤300→d=none):=fun _=>by rw [←unhide HD]; exact store_short (unhide hR) (of_decide_eq_true (unhide Hf).symm)
     clear hYX hX3
     go_wp2_with fail
     have HSx:=HS3
     generalize x3=XW at *
     have c4:=(unhide HSx).2.2.bad.1
     go_loopw [1,6] (fun v i wr=>v = .slice a n cap∧i = .int .i64 0∧wr=XW) (fun _ _ _=>0)
     case atStart=>exact ⟨rfl,rfl,rfl⟩
     case round=>
      obtain ⟨rfl,rfl,rfl⟩:=hrel
      by_cases h0:0<X
      ·
       go_wp2
       go_ret
       exact (unhide HSx).end (MR.bad (unhide Hnone))
      ·
       go_wp2
       go_ret
       exact (unhide HSx).end (MR.bad (unhide Hnone))
  ·
   have g1:¬ (Y:Int)=65535-(X:Int):=by omega
   have Hnone:Hid (T.length≤300→d=none):=fun _=>by rw [←unhide HD]; exact (store_not (unhide hR) (by rw [(unhide HXY).1,(unhide HXY).2]; exact hYX))
   clear hYX
   have HSx0:=hide (unhide HS3).setBad
   go_wp2_with fail
   generalize x3.setCell ⟨b,2,none⟩ (.bool true)=XW at *
   have HSx:=hide (unhide HSx0)
   have c4:=(unhide HSx).2.2.bad.1
   go_loopw [1,6] (fun v i wr=>v = .slice a n cap∧i = .int .i64 0∧wr=XW) (fun _ _ _=>0)
   case atStart=>exact ⟨rfl,rfl,rfl⟩
   case round=>
    obtain ⟨rfl,rfl,rfl⟩:=hrel
    by_cases h0:0<X
    ·
     go_wp2
     go_ret
     exact (unhide HSx).end (MR.bad (unhide Hnone))
    ·
     go_wp2
     go_ret
     exact (unhide HSx).end (MR.bad (unhide Hnone))
 ·
  rw [decide_eq_false hc1] at HW
  rw [if_neg hc1] at hR
  clear hc1
  go_wp2_with fail
  refine (unhide HW).mono ?_
  rintro e x1 ⟨rfl,r1,k1⟩
  obtain ⟨c1,f1⟩:=r1.bad
  have HS1':=hide ((unhide HS0).keep1 k1 r1).setBad
  clear k1 r1 HW HS0
  go_wp2_with fail
  have HS1:=hide (unhide HS1')
  generalize x1.setCell ⟨b,2,none⟩ (.bool true)=x1b at *
  clear HS1' c1 f1
  have HM:=hide (num_rf b q1 16 true s x1b (unhide HS1).2.2 nofun (by have:=unhide HN; omega) (by omega))
  rw [Bool.true_or] at HM
  refine (unhide HM).mono ?_
  rintro e x2 ⟨rfl,r2,k2⟩
  have HS2:=hide ((unhide HS1).keep1 k2 r2)
  clear k2 r2 HM HS1
  have HM:=hide (num_rf b (q1+16) 16 true s x2 (unhide HS2).2.2 nofun (by have:=unhide HN; omega) (by omega))
  rw [Bool.true_or] at HM
  obtain ⟨X,hX⟩:∃ X,numB s/2 ^ q1%2 ^ 16=X:=⟨_,rfl⟩
  obtain ⟨Y,hY⟩:∃ Y,numB s/2 ^ (q1+16)%2 ^ 16=Y:=⟨_,rfl⟩
  have hXI:(X:Int)≤65535:=by
   have:numB s/2 ^ q1%2 ^ 16<65536:=Nat.mod_lt _ (by decide)
   omega
  have hYI:(Y:Int)≤65535:=by
   have:numB s/2 ^ (q1+16)%2 ^ 16<65536:=Nat.mod_lt _ (by decide)
   omega
  rw [hY] at HM
  rw [hX]
  clear hX hY
  go_wp2_with fail
  refine (unhide HM).mono ?_
  rintro e x3 ⟨rfl,r3,k3⟩
  have HS3:=hide ((unhide HS2).keep1 k3 r3)
  clear k3 r3 HM HS2
  obtain ⟨c3,f3⟩:=(unhide HS3).2.2.bad
  by_cases hYX:Y=65535-X
  ·
   by_cases hX3:300<X
   ·
    have gI:(300:Int)<(X:Int):=by omega
    have g1:(Y:Int)=65535-(X:Int):=by omega
    have Hnone:Hid (T.length≤300→d=none):=fun _=>by rw [←unhide HD]; exact store_none1 (unhide hR)
    clear hYX hX3
    have HSx0:=hide (unhide HS3).setBad
    go_wp2_with fail
    generalize x3.setCell ⟨b,2,none⟩ (.bool true)=XW at *
    have HSx:=hide (unhide HSx0)
    have c4:=(unhide HSx).2.2.bad.1
    go_loopw [1,6] (fun v i wr=>v = .slice a n cap∧i = .int .i64 0∧wr=XW) (fun _ _ _=>0)
    case atStart=>exact ⟨rfl,rfl,rfl⟩
    case round=>
     obtain ⟨rfl,rfl,rfl⟩:=hrel
     by_cases h0:0<X
     ·
      go_wp2
      go_ret
      exact (unhide HSx).end (MR.bad (unhide Hnone))
     ·
      go_wp2
      go_ret
      exact (unhide HSx).end (MR.bad (unhide Hnone))
   ·
    have gI:¬ (300:Int)<(X:Int):=by omega
    have g1:(Y:Int)=65535-(X:Int):=by omega
    have Hnone:Hid (T.length≤300→d=none):=fun _=>by rw [←unhide HD]; exact store_none1 (unhide hR)
    clear hYX hX3
    go_wp2_with fail
    have HSx:=HS3
    generalize x3=XW at *
    have c4:=(unhide HSx).2.2.bad.1
    go_loopw [1,6] (fun v i wr=>v = .slice a n cap∧i = .int .i64 0∧wr=XW) (fun _ _ _=>0)
    case atStart=>exact ⟨rfl,rfl,rfl⟩
    case round=>
     obtain ⟨rfl,rfl,rfl⟩:=hrel
     by_cases h0:0<X
     ·
      go_wp2
      go_ret
      exact (unhide HSx).end (MR.bad (unhide Hnone))
     ·
      go_wp2
      go_ret
      exact (unhide HSx).end (MR.bad (unhide Hnone))
  ·
   have g1:¬ (Y:Int)=65535-(X:Int):=by omega
   have Hnone:Hid (T.length≤300→d=none):=fun _=>by rw [←unhide HD]; exact store_none1 (unhide hR)
   clear hYX
   have HSx0:=hide (unhide HS3).setBad
   go_wp2_with fail
   generalize x3.setCell ⟨b,2,none⟩ (.bool true)=XW at *
   have HSx:=hide (unhide HSx0)
   have c4:=(unhide HSx).2.2.bad.1
   go_loopw [1,6] (fun v i wr=>v = .slice a n cap∧i = .int .i64 0∧wr=XW) (fun _ _ _=>0)
   case atStart=>exact ⟨rfl,rfl,rfl⟩
   case round=>
    obtain ⟨rfl,rfl,rfl⟩:=hrel
    by_cases h0:0<X
    ·
     go_wp2
     go_ret
     exact (unhide HSx).end (MR.bad (unhide Hnone))
    ·
     go_wp2
     go_ret
     exact (unhide HSx).end (MR.bad (unhide Hnone))
def agG (V sz:Nat) (D:List Int) (k p:Nat) (T:List UInt8):Option (List UInt8×Nat):=(backG V sz D k p).bind fun t=>(addT T t.1).bind fun x=>some (x,t.2)
def AgP (w:World) (b:Nat) (s:ByteArray) (d:Option (List UInt8×Nat)) (e:Ending) (w':World):Prop:=
 KU b w w'∧∃ v T' q f,e = .returned v∧BOwn w' (b+1) v T'∧RF w' b s q f∧d=if f=true then none else some (T',q)
set_option maxRecDepth 100000 in
set_option maxHeartbeats 6400000 in
theorem again_any (b p0 n cap k nD capD ccD:Nat) (a ad acd:Option Addr) (s:ByteArray) (T:List UInt8) (D:List Int) (w:World) (hn:T.length=n) (ho:BOwn w (b+1) (.slice a n cap) T) (hr:Rdr w b s p0) (hp:p0≤8*s.size) (hs:s.size≤2000) (hT:n≤300) (hk:k≤700)
  (hD:D.length=nD) (hok:lensOk D=true) (hrl:∀ W,Keep1 b w W→IRow W ad D) (hrc:∀ W,Keep1 b w W→IRow W acd (outN D 15).2) :
  Calls Tryz.prog 255 #[.pointer (some ⟨b,0,none⟩),.slice a n cap,.int .i64 ((k:Nat)+257),.slice ad nD capD,.slice acd nD ccD] w (AgP w b s (agG (numB s) (8*s.size) D k p0 T)):=by
 have hmix:Tryz.prog.follows .mixedOrders=true:=by kernel_rfl
 obtain ⟨d,hd⟩:∃ d,agG (numB s) (8*s.size) D k p0 T=d:=⟨_,rfl⟩
 rw [hd]
 have HD:=hide hd
 have hrf:RF w b s p0 false:=by have:=rdr_rf hr; rwa [decide_eq_false (by omega)] at this
 have HO:=hide ho
 have HRw:=hide hrf
 have HN:=hide (And.intro hs (And.intro hn hT))
 have Hp0:=hide hp
 have HDn:=hide (And.intro hD (And.intro hok (And.intro hrl hrc)))
 have ek:(k:Int)+257-257=(k:Int):=by omega
 have hkI:(k:Int)≤700:=by omega
 clear hn ho hr hp hs hT hD hok hrl hrc hd hrf
 go_enter Tryz.func255,Tryz.ntmps255
 go_wp2_with fail
 refine (longBits_any w).mono ?_
 rintro e x0 ⟨rfl,o0,b0⟩
 have HK0:=hide ((Keep1.refl b w).later b0 (unhide HRw).lt)
 have HR0:=hide ((unhide HRw).kept (b0.mono (unhide HRw).lt))
 clear o0 b0
 by_cases hk28:k<28
 ·
  have hkI28:(k:Int)<28:=by omega
  have Hkk:=hide hk28
  obtain ⟨E1,hE1⟩:∃ E,(stF 3 4 k).1=E:=⟨_,rfl⟩
  obtain ⟨E2,hE2⟩:∃ E,(stF 3 4 k).2=E:=⟨_,rfl⟩
  have hbd:=stF_bd (L:=3) (G:=4) (k:=k) (by omega) (by omega) (by omega) (by omega)
  rw [hE1,hE2] at hbd
  have hE1I:(E1:Int)≤200000:=by omega
  have hE2I:(E2:Int)≤14:=by omega
  have HE16:Hid (E2≤16):=by show E2≤16; omega
  have HE1:Hid (((stF 3 4 k).1:Int)=(E1:Int)):=by show _=_; rw [hE1]
  have HE2:Hid (((stF 3 4 k).2:Int)=(E2:Int)):=by show _=_; rw [hE2]
  obtain ⟨X,hX⟩:∃ X,numB s/2 ^ p0%2 ^ E2=X:=⟨_,rfl⟩
  have hXI:(X:Int)≤65535:=by
   have h1:numB s/2 ^ p0%2 ^ E2<2 ^ E2:=Nat.mod_lt _ (Nat.two_pow_pos _)
   have h2:2 ^ E2≤2 ^ 16:=Nat.pow_le_pow_right (by omega) (by omega)
   have h3:(2:Nat) ^ 16=65536:=by decide
   omega
  have HX:=hide hX
  have Hwr:Hid (IntKind.i64.wrap ((E1:Int)+(X:Int))=(E1:Int)+(X:Int)):=by show _=_; rw [IntKind.wrap_i64]; omega
  have HEE:=hide (And.intro hE1 hE2)
  clear hbd hE1 hE2 hX
  go_wp2_with fail
  go_cut [12] (fun v wx=>v = .int .i64 ((E1+X:Nat):Int)∧Keep1 b w wx∧RF wx b s (p0+E2) (decide (8*s.size<p0+E2)))
  case first=>
   refine wp_region_held_drew (S:=fun _=>True) hmix trivial (fun _=>?_)
   refine wpAnyH_take (i:=2) (v:=.int .i64 (k:Nat)) rfl (by kernel_rfl) (by kernel_rfl) (by kernel_rfl) (fun _ _ _ h=>h) (Or.inl ⟨by rfl,fun W hSw=>by go_simp⟩) trivial ?_
   refine wpAnyH_take (i:=5) (v:=.pointer (some ⟨b,0,none⟩)) rfl (by kernel_rfl) (by kernel_rfl) (by kernel_rfl) (fun _ _ _ h=>h) (Or.inl ⟨by rfl,fun W hSw=>by go_simp⟩) trivial ?_
   refine wpAnyH_take (i:=7) (v:=.int .i64 (k:Nat)) rfl (by kernel_rfl) (by kernel_rfl) (by kernel_rfl) (fun _ _ _ h=>h) (Or.inl ⟨by rfl,fun W hSw=>by go_simp⟩) trivial ?_
   refine wpAnyH_ready (rs:=[0]) (by kernel_rfl) (by simp) ?_
   refine AllReadyH.cons rfl (fun K hK=>?_) AllReadyH.nil
   go_simp
   go_at_call 260
   refine (longBits_any _).mono ?_
   rintro e y1 ⟨rfl,o1,b1⟩
   have HK1:=hide ((unhide HK0).drew.later b1 (show b<x0.drew.heap.size from (unhide HR0).lt))
   have HR1:=hide (RF.kept (w:=x0.drew) (show RF x0.drew b s p0 false from unhide HR0) (b1.mono (unhide HR0).lt))
   have HI1:=hide (o1.rowN rfl)
   clear o1 b1
   refine Shut.out hK _ _ trivial (fun _=>?_)
   clear hK K
   refine wpAnyH_ready (rs:=[1]) (by kernel_rfl) (by simp) ?_
   refine AllReadyH.cons rfl (fun K hK=>?_) AllReadyH.nil
   go_simp
   go_at_call 259
   refine (l5BaseLong_any _ 28 y1 (unhide HI1)).mono ?_
   rintro e y2 ⟨v2,rfl,o2,b2⟩
   have hl2:(longB).length=28:=baseL_len _ _ _
   obtain ⟨a2,cap2,rfl⟩:=o2.formN hl2
   obtain ⟨g2,rfl⟩:=o2.somes (by omega)
   have hlt2:g2<y2.heap.size:=o2.below.2
   have Hne1:Hid (g2≠b):=by show g2≠b; have:=o2.below.1; have:=(unhide HR1).lt; omega
   have hc2:=(o2.at hl2 (show k<28 from unhide Hkk)).1
   rw [longB_at _ (unhide Hkk),unhide HE1] at hc2
   have HK2:=hide ((unhide HK1).later b2 (unhide HR1).lt)
   have HR2:=hide ((unhide HR1).kept (b2.mono (unhide HR1).lt))
   clear o2 b2 hl2
   refine Shut.out hK _ _ trivial (fun _=>?_)
   clear hK K
   refine wpAnyH_weaken (S':=fun W=>W.cell? ⟨g2,k,none⟩=some (.int .i64 (E1:Nat))) (fun _ _=>trivial) _ _ _ _ ?_
   refine wpAnyH_take (i:=3) (v:=.pointer (some ⟨g2,k,none⟩)) rfl (by kernel_rfl) (by kernel_rfl) (by kernel_rfl) (fun _ _ _ h=>h) (Or.inl ⟨by rfl,fun W hSw=>by go_simp <;> (intro h; omega)⟩) hc2 ?_
   refine wpAnyH_take (i:=4) (v:=.int .i64 (E1:Nat)) rfl (by kernel_rfl) (by kernel_rfl) (by kernel_rfl) (fun _ _ _ h=>h) (Or.inl ⟨by rfl,fun W hSw=>by go_simp⟩) hc2 ?_
   refine wpAnyH_ready (rs:=[6]) (by kernel_rfl) (by simp) ?_
   refine AllReadyH.cons rfl (fun K hK=>?_) AllReadyH.nil
   go_simp
   go_at_call 260
   refine (longBits_any _).mono ?_
   rintro e y3 ⟨rfl,o3,b3⟩
   have hc3:=(o3.at rfl (show k<28 from unhide Hkk)).1
   rw [longL_at _ (unhide Hkk),unhide HE2] at hc3
   have hc2:=(b3.cell (p:=⟨g2,k,none⟩) hlt2).trans hc2
   have HK3:=hide ((unhide HK2).later b3 (unhide HR2).lt)
   have HR3:=hide ((unhide HR2).kept (b3.mono (unhide HR2).lt))
   have hlt3:g2<y3.heap.size:=Nat.lt_of_lt_of_le hlt2 b3.size
   generalize hg3:y2.heap.size=g3 at *
   clear o3 b3 hg3
   refine Shut.out hK _ _ hc2 (fun _=>?_)
   clear hK K
   refine wpAnyH_take (i:=8) (v:=.pointer (some ⟨g3,k,none⟩)) rfl (by kernel_rfl) (by kernel_rfl) (by kernel_rfl) (fun _ _ _ h=>h) (Or.inl ⟨by rfl,fun W hSw=>by go_simp <;> (intro h; omega)⟩) hc2 ?_
   refine wpAnyH_ready (rs:=[9]) (by kernel_rfl) (by simp) ?_
   refine AllReadyH.cons rfl (fun K hK=>?_) AllReadyH.nil
   go_simp
   refine Shut.out hK _ _ hc2 (fun _=>?_)
   clear hK K
   refine wpAnyH_ready (rs:=[10]) (by kernel_rfl) (by simp) ?_
   refine AllReadyH.cons rfl (fun K hK=>?_) AllReadyH.nil
   go_simp
   go_at_call 232
   have HM:=hide (num_rf b p0 E2 false s y3 (unhide HR3) (fun _=>unhide Hp0) (by have:=unhide HN; omega) (unhide HE16))
   rw [Bool.false_or,unhide HX] at HM
   refine (unhide HM).mono ?_
   rintro e y4 ⟨rfl,r4,k4⟩
   have hc2:y4.cell? ⟨g2,k,none⟩=some (.int .i64 (E1:Nat)):=(World.cell?_of_block (w:=y3) (k4.2 _ hlt3 (unhide Hne1)) (a:=⟨g2,k,none⟩)).trans hc2
   have HK4:=hide ((unhide HK3).trans k4)
   have HR4:=hide r4
   clear r4 k4
   refine Shut.out hK _ _ hc2 (fun _=>?_)
   clear hK K
   refine wpAnyH_take (i:=11) (v:=.int .i64 ((E1+X:Nat):Int)) rfl (by kernel_rfl) (by kernel_rfl) (by kernel_rfl) (fun _ _ _ h=>h) (Or.inl ⟨by rfl,fun W hSw=>by go_simp; exact unhide Hwr⟩) hc2 ?_
   refine wpAnyH_ready (rs:=[12]) (by kernel_rfl) (by simp) ?_
   refine AllReadyH.cons rfl (fun K hK=>?_) AllReadyH.nil
   go_simp
   refine Shut.out hK _ _ hc2 (fun _=>?_)
   clear hK K
   refine wpAnyH_done (by kernel_rfl) ?_ _
   clear HM
   go_wp2_with fail
   go_meet
   case rel=>exact ⟨rfl,unhide HK4,unhide HR4⟩
  case rest=>
   obtain ⟨rfl,hk1,hr1⟩:=hcut
   clear Hwr
   have HL:=hide (And.intro (unhide HEE) (unhide HX))
   have hLI:((E1+X:Nat):Int)≤300000:=by omega
   obtain ⟨LG,hLG⟩:∃ L,E1+X=L:=⟨_,rfl⟩
   rw [hLG] at hLI ⊢
   have HLG:=hide hLG
   by_cases hc:p0+E2≤8*s.size
   ·
    rw [decide_eq_false (by omega)] at hr1
    have Hsc:Hid (scG (numB s) (8*s.size) 3 4 28 k p0=some (LG,p0+E2)):=by
     show _=_
     unfold scG
     rw [if_pos (unhide Hkk),(unhide HEE).2,rdN_yes hc,(unhide HEE).1]
     simp only [Option.bind_some]
     rw [unhide HX,unhide HLG]
    have HSy:=hide (symbol_at ad acd capD ccD nD b (p0+E2) D s wc (unhide HDn).1 (unhide HDn).2.1 (by have:=unhide HN; omega) (rf_rdr hr1 hc) hc (fun W hW=>(unhide HDn).2.2.1 W (hk1.trans hW)) (fun W hW=>(unhide HDn).2.2.2 W (hk1.trans hW)))
    have HK1:=hide hk1
    clear hk1 hr1 hLG hE1I hE2I hXI HE1 HE2 HE16 HEE HX HLG HL
    unfold SymAt at HSy
    rcases h2:dec D (numB s) (8*s.size) (p0+E2) with _ | ⟨j,q2⟩
    ·
     rw [h2] at HSy
     have Hn:Hid (d=none):=by
      show d=none
      rw [←unhide HD]
      unfold agG backG
      rw [unhide Hsc]
      simp only [Option.bind_some]
      rw [h2]
      rfl
     clear h2
     go_wp2_with fail
     refine (unhide HSy).mono ?_
     rintro e x2 ⟨k2,xx,qq,rfl,r2⟩
     have HK2:=hide ((unhide HK1).trans k2)
     have HR2:=hide r2
     obtain ⟨c2,f2⟩:=r2.bad
     have hlt2:=r2.lt
     clear r2 k2 HK1 HSy
     go_wp2
     go_ret
     refine ⟨((unhide HK2).trans (keep1_set0 _ _ _ _)).ku,_,T,_,true,rfl,((unhide HO).keep1 (unhide HK2) (Nat.lt_succ_self _)).keep1 (keep1_set0 _ _ _ _) (Nat.lt_succ_self _),(unhide HR2).setBad,?_⟩
     rw [unhide Hn]
     rfl
    ·
     rw [h2] at HSy
     have hb2:=dec_bd h2
     obtain ⟨jn,hj⟩:=Int.eq_ofNat_of_zero_le hb2.2.2.1
     subst hj
     have hjI:(jn:Int)≤300:=by have:=lensOk_len (unhide HDn).2.1; omega
     have H2:=hide h2
     have Hq2:=hide hb2.1
     clear h2 hb2
     go_wp2_with fail
     refine (unhide HSy).mono ?_
     rintro e x2 ⟨k2,rfl,r2⟩
     have HK2:=hide ((unhide HK1).trans k2)
     have HR2:Hid (RF x2 b s q2 false):=by have:=rdr_rf r2; rwa [decide_eq_false (by have:=unhide Hq2; omega)] at this
     obtain ⟨c2,f2⟩:=(unhide HR2).bad
     clear r2 k2 HK1 HSy HK0 HR0
     go_wp2_with fail
     refine (backBits_any x2).mono ?_
     rintro e x3 ⟨rfl,o3,b3⟩
     have HK0:=hide ((unhide HK2).later b3 (unhide HR2).lt)
     have HR0:=hide ((unhide HR2).kept (b3.mono (unhide HR2).lt))
     clear o3 b3 HK2 HR2 c2 f2
     by_cases hj30:jn<30
     ·
      have hjI30:(jn:Int)<30:=by omega
      have Hkk:=hide hj30
      obtain ⟨E1,hE1⟩:∃ E,(stF 1 2 jn).1=E:=⟨_,rfl⟩
      obtain ⟨E2,hE2⟩:∃ E,(stF 1 2 jn).2=E:=⟨_,rfl⟩
      have hbd:=stF_bd (L:=1) (G:=2) (k:=jn) (by omega) (by omega) (by omega) (by omega)
      rw [hE1,hE2] at hbd
      have hE1I:(E1:Int)≤200000:=by omega
      have hE2I:(E2:Int)≤14:=by omega
      have HE16:Hid (E2≤16):=by show E2≤16; omega
      have HE1:Hid (((stF 1 2 jn).1:Int)=(E1:Int)):=by show _=_; rw [hE1]
      have HE2:Hid (((stF 1 2 jn).2:Int)=(E2:Int)):=by show _=_; rw [hE2]
      obtain ⟨X,hX⟩:∃ X,numB s/2 ^ q2%2 ^ E2=X:=⟨_,rfl⟩
      have hXI:(X:Int)≤65535:=by
       have h1:numB s/2 ^ q2%2 ^ E2<2 ^ E2:=Nat.mod_lt _ (Nat.two_pow_pos _)
       have h2:2 ^ E2≤2 ^ 16:=Nat.pow_le_pow_right (by omega) (by omega)
       have h3:(2:Nat) ^ 16=65536:=by decide
       omega
      have HX:=hide hX
      have Hwr:Hid (IntKind.i64.wrap ((E1:Int)+(X:Int))=(E1:Int)+(X:Int)):=by show _=_; rw [IntKind.wrap_i64]; omega
      have HEE:=hide (And.intro hE1 hE2)
      clear hbd hE1 hE2 hX
      go_wp2_with fail
      go_cut [13] (fun v wx=>v = .int .i64 ((E1+X:Nat):Int)∧Keep1 b w wx∧RF wx b s (q2+E2) (decide (8*s.size<q2+E2)))
      case first=>
       refine wp_region_held_drew (S:=fun _=>True) hmix trivial (fun _=>?_)
       refine wpAnyH_take (i:=2) (v:=.int .i64 (jn:Nat)) rfl (by kernel_rfl) (by kernel_rfl) (by kernel_rfl) (fun _ _ _ h=>h) (Or.inl ⟨by rfl,fun W hSw=>by go_simp⟩) trivial ?_
       refine wpAnyH_take (i:=5) (v:=.pointer (some ⟨b,0,none⟩)) rfl (by kernel_rfl) (by kernel_rfl) (by kernel_rfl) (fun _ _ _ h=>h) (Or.inl ⟨by rfl,fun W hSw=>by go_simp⟩) trivial ?_
       refine wpAnyH_take (i:=7) (v:=.int .i64 (jn:Nat)) rfl (by kernel_rfl) (by kernel_rfl) (by kernel_rfl) (fun _ _ _ h=>h) (Or.inl ⟨by rfl,fun W hSw=>by go_simp⟩) trivial ?_
       refine wpAnyH_ready (rs:=[0]) (by kernel_rfl) (by simp) ?_
       refine AllReadyH.cons rfl (fun K hK=>?_) AllReadyH.nil
       go_simp
       go_at_call 261
       refine (backBits_any _).mono ?_
       rintro e y1 ⟨rfl,o1,b1⟩
       have HK1:=hide ((unhide HK0).drew.later b1 (show b<x3.drew.heap.size from (unhide HR0).lt))
       have HR1:=hide (RF.kept (w:=x3.drew) (show RF x3.drew b s q2 false from unhide HR0) (b1.mono (unhide HR0).lt))
       have HI1:=hide (o1.rowN rfl)
       clear o1 b1
       refine Shut.out hK _ _ trivial (fun _=>?_)
       clear hK K
       refine wpAnyH_ready (rs:=[1]) (by kernel_rfl) (by simp) ?_
       refine AllReadyH.cons rfl (fun K hK=>?_) AllReadyH.nil
       go_simp
       go_at_call 259
       refine (l5BaseBack_any _ 30 y1 (unhide HI1)).mono ?_
       rintro e y2 ⟨v2,rfl,o2,b2⟩
       have hl2:(backB).length=30:=baseL_len _ _ _
       obtain ⟨a2,cap2,rfl⟩:=o2.formN hl2
       obtain ⟨g2,rfl⟩:=o2.somes (by omega)
       have hlt2:g2<y2.heap.size:=o2.below.2
       have Hne1:Hid (g2≠b):=by show g2≠b; have:=o2.below.1; have:=(unhide HR1).lt; omega
       have hc2:=(o2.at hl2 (show jn<30 from unhide Hkk)).1
       rw [backB_at _ (unhide Hkk),unhide HE1] at hc2
       have HK2:=hide ((unhide HK1).later b2 (unhide HR1).lt)
       have HR2:=hide ((unhide HR1).kept (b2.mono (unhide HR1).lt))
       clear o2 b2 hl2
       refine Shut.out hK _ _ trivial (fun _=>?_)
       clear hK K
       refine wpAnyH_weaken (S':=fun W=>W.cell? ⟨g2,jn,none⟩=some (.int .i64 (E1:Nat))) (fun _ _=>trivial) _ _ _ _ ?_
       refine wpAnyH_take (i:=3) (v:=.pointer (some ⟨g2,jn,none⟩)) rfl (by kernel_rfl) (by kernel_rfl) (by kernel_rfl) (fun _ _ _ h=>h) (Or.inl ⟨by rfl,fun W hSw=>by go_simp <;> (intro h; omega)⟩) hc2 ?_
       refine wpAnyH_take (i:=4) (v:=.int .i64 (E1:Nat)) rfl (by kernel_rfl) (by kernel_rfl) (by kernel_rfl) (fun _ _ _ h=>h) (Or.inl ⟨by rfl,fun W hSw=>by go_simp⟩) hc2 ?_
       refine wpAnyH_ready (rs:=[6]) (by kernel_rfl) (by simp) ?_
       refine AllReadyH.cons rfl (fun K hK=>?_) AllReadyH.nil
       go_simp
       go_at_call 261
       refine (backBits_any _).mono ?_
       rintro e y3 ⟨rfl,o3,b3⟩
       have hc3:=(o3.at rfl (show jn<30 from unhide Hkk)).1
       rw [backL_at _ (unhide Hkk),unhide HE2] at hc3
       have hc2:=(b3.cell (p:=⟨g2,jn,none⟩) hlt2).trans hc2
       have HK3:=hide ((unhide HK2).later b3 (unhide HR2).lt)
       have HR3:=hide ((unhide HR2).kept (b3.mono (unhide HR2).lt))
       have hlt3:g2<y3.heap.size:=Nat.lt_of_lt_of_le hlt2 b3.size
       generalize hg3:y2.heap.size=g3 at *
       clear o3 b3 hg3
       refine Shut.out hK _ _ hc2 (fun _=>?_)
       clear hK K
       refine wpAnyH_take (i:=8) (v:=.pointer (some ⟨g3,jn,none⟩)) rfl (by kernel_rfl) (by kernel_rfl) (by kernel_rfl) (fun _ _ _ h=>h) (Or.inl ⟨by rfl,fun W hSw=>by go_simp <;> (intro h; omega)⟩) hc2 ?_
       refine wpAnyH_ready (rs:=[9]) (by kernel_rfl) (by simp) ?_
       refine AllReadyH.cons rfl (fun K hK=>?_) AllReadyH.nil
       go_simp
       refine Shut.out hK _ _ hc2 (fun _=>?_)
       clear hK K
       refine wpAnyH_ready (rs:=[10]) (by kernel_rfl) (by simp) ?_
       refine AllReadyH.cons rfl (fun K hK=>?_) AllReadyH.nil
       go_simp
       go_at_call 232
       have HM:=hide (num_rf b q2 E2 false s y3 (unhide HR3) (fun _=>unhide Hq2) (by have:=unhide HN; omega) (unhide HE16))
       rw [Bool.false_or,unhide HX] at HM
       refine (unhide HM).mono ?_
       rintro e y4 ⟨rfl,r4,k4⟩
       have hc2:y4.cell? ⟨g2,jn,none⟩=some (.int .i64 (E1:Nat)):=(World.cell?_of_block (w:=y3) (k4.2 _ hlt3 (unhide Hne1)) (a:=⟨g2,jn,none⟩)).trans hc2
       have HK4:=hide ((unhide HK3).trans k4)
       have HR4:=hide r4
       clear r4 k4
       refine Shut.out hK _ _ hc2 (fun _=>?_)
       clear hK K
       refine wpAnyH_take (i:=11) (v:=.int .i64 ((E1+X:Nat):Int)) rfl (by kernel_rfl) (by kernel_rfl) (by kernel_rfl) (fun _ _ _ h=>h) (Or.inl ⟨by rfl,fun W hSw=>by go_simp; exact unhide Hwr⟩) hc2 ?_
       refine wpAnyH_ready (rs:=[12]) (by kernel_rfl) (by simp) ?_
       refine AllReadyH.cons rfl (fun K hK=>?_) AllReadyH.nil
       go_simp
       refine Shut.out hK _ _ hc2 (fun _=>?_)
       clear hK K
       refine wpAnyH_done (by kernel_rfl) ?_ _
       clear HM
       go_wp2_with fail
       go_meet
       case rel=>exact ⟨rfl,unhide HK4,unhide HR4⟩
      case rest=>
       obtain ⟨rfl,hk2,hr2⟩:=hcut
       clear Hwr
       have hBI:((E1+X:Nat):Int)≤300000:=by omega
       obtain ⟨BK,hBK⟩:∃ L,E1+X=L:=⟨_,rfl⟩
       rw [hBK] at hBI ⊢
       have HDD:Hid (d=if decide (8*s.size<q2+E2)=true then none else (addT T (0,(LG:Int),(BK:Int))).bind fun x=>some (x,q2+E2)):=by
        show d=_
        rw [←unhide HD]
        unfold agG backG
        rw [unhide Hsc]
        simp only [Option.bind_some]
        rw [unhide H2]
        simp only [Option.bind_some,Int.toNat_natCast]
        unfold scG
        rw [if_pos (unhide Hkk),(unhide HEE).2,(unhide HEE).1]
        by_cases hc2:q2+E2≤8*s.size
        ·
         rw [rdN_yes hc2,decide_eq_false (by omega)]
         simp only [Option.bind_some,unhide HX,hBK]
         rfl
        ·
         rw [rdN_no hc2,decide_eq_true (by omega)]
         rfl
       generalize decide (8*s.size<q2+E2)=F at *
       generalize q2+E2=Q at *
       have HAdd:=hide (U.l4Add_any (b+1) n cap a T (0,(LG:Int),(BK:Int)) wc (unhide HN).2.1 ((unhide HO).keep1 hk2 (Nat.lt_succ_self _)) (by have:=unhide HN; omega) hr2.lt)
       have HK3:=hide hk2
       have HR3:=hide hr2
       clear hk2 hr2 hBK hE1I hE2I hXI HE1 HE2 HE16 HEE HX Hsc H2
       simp only at HAdd
       go_wp2_with fail
       refine (unhide HAdd).mono ?_
       rintro e x4 ⟨v,T2,rfl,o4,h4,u4⟩
       have HR4:=hide ((unhide HR3).kept u4.1)
       have HK4:Hid (KU b w x4):=(unhide HK3).ku.trans ⟨u4.1.mono (Nat.le_succ _),fun j hj _ hn=>u4.2 j hj hn⟩
       have HO4:=hide o4
       obtain ⟨c4,f4⟩:=(unhide HR4).bad
       have hlt4:=(unhide HR4).lt
       clear o4 u4 HAdd HK3 HR3
       rcases hA:addT T (0,(LG:Int),(BK:Int)) with _ | T3
       ·
        rw [hA] at HDD
        simp only [Option.isSome_none]
        clear hA h4
        go_wp2
        go_ret
        refine ⟨(unhide HK4).trans (keep1_set0 _ _ _ _).ku,_,T2,_,true,rfl,(unhide HO4).keep1 (keep1_set0 _ _ _ _) (Nat.lt_succ_self _),(unhide HR4).setBad,?_⟩
        rw [unhide HDD]
        cases F <;> rfl
       ·
        rw [hA] at HDD h4
        simp only [Option.isSome_some,true_implies,Option.some.injEq] at h4 ⊢
        clear hA
        go_wp2
        go_ret
        refine ⟨unhide HK4,_,T2,Q,F,rfl,unhide HO4,unhide HR4,?_⟩
        rw [unhide HDD,h4]
        rfl
     ·
      have hjI30:¬ (jn:Int)<30:=by omega
      have Hn:Hid (d=none):=by
       show d=none
       rw [←unhide HD]
       unfold agG backG
       rw [unhide Hsc]
       simp only [Option.bind_some]
       rw [unhide H2]
       simp only [Option.bind_some,Int.toNat_natCast]
       unfold scG
       rw [if_neg hj30]
       rfl
      obtain ⟨c3,f3⟩:=(unhide HR0).bad
      have hlt3:=(unhide HR0).lt
      clear hj30
      go_wp2
      go_ret
      refine ⟨((unhide HK0).trans (keep1_set0 _ _ _ _)).ku,_,T,_,true,rfl,((unhide HO).keep1 (unhide HK0) (Nat.lt_succ_self _)).keep1 (keep1_set0 _ _ _ _) (Nat.lt_succ_self _),(unhide HR0).setBad,?_⟩
      rw [unhide Hn]
      rfl
   ·
    rw [decide_eq_true (by omega)] at hr1
    have Hn:Hid (d=none):=by
     show d=none
     rw [←unhide HD]
     unfold agG backG scG
     rw [if_pos (unhide Hkk),(unhide HEE).2,rdN_no hc]
     rfl
    have HK1:=hide hk1
    have HR1:=hide hr1
    clear hk1 hr1 hLG hE1I hE2I hXI HE1 HE2 HE16 HEE HX
    go_wp2_with fail
    refine (symbol_bad ad acd capD ccD nD b _ s wc (unhide HR1)).mono ?_
    rintro e x2 ⟨rfl,r2,k2⟩
    have HK2:=hide ((unhide HK1).trans k2)
    have HR2:=hide r2
    obtain ⟨c2,f2⟩:=r2.bad
    have hlt2:=r2.lt
    clear r2 k2 HK1 HR1
    go_wp2
    go_ret
    refine ⟨((unhide HK2).trans (keep1_set0 _ _ _ _)).ku,_,T,_,true,rfl,((unhide HO).keep1 (unhide HK2) (Nat.lt_succ_self _)).keep1 (keep1_set0 _ _ _ _) (Nat.lt_succ_self _),(unhide HR2).setBad,?_⟩
    rw [unhide Hn]
    rfl
 ·
  have hkI28:¬ (k:Int)<28:=by omega
  have Hn:Hid (d=none):=by
   show d=none
   rw [←unhide HD]
   unfold agG backG scG
   rw [if_neg hk28]
   rfl
  obtain ⟨c2,f2⟩:=(unhide HR0).bad
  have hlt2:=(unhide HR0).lt
  clear hk28
  go_wp2
  go_ret
  refine ⟨((unhide HK0).trans (keep1_set0 _ _ _ _)).ku,_,T,_,true,rfl,((unhide HO).keep1 (unhide HK0) (Nat.lt_succ_self _)).keep1 (keep1_set0 _ _ _ _) (Nat.lt_succ_self _),(unhide HR0).setBad,?_⟩
  rw [unhide Hn]
  rfl
def farN (b sz:Nat) (w:World):Nat:=match w.cell? ⟨b,2,none⟩ with
 | some (.bool true)=>0
 | _=>sz+1-placeN b w
theorem RF.far {w:World} {b p:Nat} {s:ByteArray} {f:Bool} (h:RF w b s p f):farN b (8*s.size) w=if f=true then 0 else 8*s.size+1-min p (8*s.size):=by
 unfold farN placeN
 rw [h.bad.1,h.2.1]
 cases f
 ·
  simp [intOf]
 ·
  rfl
def TmI (b:Nat) (s:ByteArray) (L D:List Int) (g1 g2 p:Nat) (d:Option (List UInt8×Nat)) (w:World) (v:Value) (x:World):Prop:=
 ∃ (q:Nat) (R:List UInt8) (f:Bool),MS w b s x v R q f∧JRow x (b+1) (some ⟨g1,0,none⟩) (outN L 15).2∧JRow x (b+1) (some ⟨g2,0,none⟩) (outN D 15).2∧(f=false→R.length≤400)∧(f=false→q≤8*s.size∧p≤q)∧(f=false→R.length≤300→tokG (numB s) (8*s.size) L D q R=d)∧((f=true∨300<R.length)→d=none)
theorem JRow.belU {w w':World} {base:Nat} {a:Option Addr} {l:List Int} (h:JRow w base a l) (hk:BelU base w w'):JRow w' base a l:=h.moved hk.1.size (fun g _ hg hn=>hk.2 g hg hn)
theorem ag_next {V sz:Nat} {L D:List Int} {kk q:Nat} {R:List UInt8} : ((oneG V sz D ((kk:Int)+257) q).bind fun t=>(addL R t.1).bind fun T'=>tokG V sz L D t.2 T')=(agG V sz D kk q R).bind fun x=>if x.1.length≤300 then tokG V sz L D x.2 x.1 else none:=by
 have e:oneG V sz D ((kk:Int)+257) q=backG V sz D kk q:=by
  unfold oneG
  rw [if_neg (by omega),show ((kk:Int)+257).toNat-257=kk by omega]
 rw [e]
 unfold agG
 rcases backG V sz D kk q with _ | ⟨t,r⟩
 ·
  rfl
 ·
  simp only [Option.bind_some]
  unfold addL
  rcases addT R t with _ | x
  ·
   rfl
  ·
   simp only [Option.bind_some]
   split <;> rfl
theorem isK_bounds {t:Tk} (h:isK t=true):3≤t.2.1∧t.2.1≤60∧1≤t.2.2∧t.2.2≤250:=by
 unfold isK inB at h; simp only [Bool.and_eq_true,decide_eq_true_eq] at h; omega
theorem ag_len {V sz:Nat} {D:List Int} {kk q q':Nat} {R T':List UInt8} (h:agG V sz D kk q R=some (T',q')):T'.length≤R.length+100:=by
 unfold agG at h
 rcases h1:backG V sz D kk q with _ | ⟨t,r⟩
 ·
  rw [h1] at h; cases h
 rw [h1] at h
 simp only [Option.bind_some] at h
 rcases h2:addT R t with _ | x
 ·
  rw [h2] at h; cases h
 rw [h2] at h
 simp only [Option.bind_some,Option.some.injEq,Prod.mk.injEq] at h
 obtain ⟨rfl,_⟩:=h
 unfold addT at h2
 split at h2
 ·
  simp only [Option.some.injEq] at h2; subst h2; simp
 ·
  split at h2
  ·
   rename_i hK
   simp only [Bool.and_eq_true] at hK
   have:=isK_bounds hK.1
   simp only [Option.some.injEq] at h2
   subst h2
   rw [rep_len]
   omega
  ·
   cases h2
theorem ag_bd {V sz:Nat} {D:List Int} {kk q q':Nat} {R T':List UInt8} (h:agG V sz D kk q R=some (T',q')):q'≤sz∧q≤q':=by
 unfold agG at h
 rcases h1:backG V sz D kk q with _ | ⟨t,r⟩
 ·
  rw [h1] at h; cases h
 rw [h1] at h
 simp only [Option.bind_some] at h
 rcases h2:addT R t with _ | x
 ·
  rw [h2] at h; cases h
 rw [h2] at h
 simp only [Option.bind_some,Option.some.injEq,Prod.mk.injEq] at h
 obtain ⟨_,rfl⟩:=h
 exact backG_bd h1
set_option maxRecDepth 100000 in
set_option maxHeartbeats 6400000 in
theorem tokensG_any (b p n cap nL capL nD capD:Nat) (a al ad:Option Addr) (s:ByteArray) (T:List UInt8) (L D:List Int) (w:World) (hn:T.length=n) (ho:BOwn w (b+1) (.slice a n cap) T) (hr:Rdr w b s p) (hp:p≤8*s.size) (hs:s.size≤2000) (hT:n≤300)
  (hL:L.length=nL) (hD:D.length=nD) (okL:lensOk L=true) (okD:lensOk D=true) (jL:JRow w (b+1) al L) (jD:JRow w (b+1) ad D) :
  Calls Tryz.prog 234 #[.pointer (some ⟨b,0,none⟩),.slice a n cap,.slice al nL capL,.slice ad nD capD] w (MP w b p s T (tokG (numB s) (8*s.size) L D p T)):=by
 obtain ⟨i0,hi,hz0,hz1,hz2⟩:=info_parts Tryz.infoU8
 obtain ⟨d,hd⟩:∃ d,tokG (numB s) (8*s.size) L D p T=d:=⟨_,rfl⟩
 rw [hd]
 have hlt:=hr.lt
 have hrf:RF w b s p false:=by have:=rdr_rf hr; rwa [decide_eq_false (by omega)] at this
 have lL:=lensOk_len okL
 have lD:=lensOk_len okD
 have HN:=hide (And.intro hs (And.intro okL (And.intro okD (And.intro hL (And.intro hD (And.intro hn hT))))))
 have HS0:Hid (MS w b s w (.slice a n cap) T p false):=⟨KU.refl _ _,ho,hrf⟩
 have HJ:=hide (And.intro jL jD)
 have HD:=hide hd
 have Hp:=hide hp
 have C1:=hide (l3Codes_any al capL nL L w hL jL.1 (by omega))
 clear hn ho hr hp hs hT hL hD okL okD jL jD hd hrf
 go_enter Tryz.func234,Tryz.ntmps234
 go_wp2_with fail
 refine (unhide C1).mono ?_
 rintro e x1 ⟨rfl,o1,b1⟩
 have C2:=hide (l3Codes_any ad capD nD D x1 (unhide HN).2.2.2.2.1 ((unhide HJ).2.later b1).1 (by have:=(unhide HN).2.2.2.2.1; omega))
 have hl1:(outN L 15).2.length=nL:=by rw [outN_len]; exact (unhide HN).2.2.2.1
 have J1:=hide ((own_jrow hl1 (o1.own hl1)).mono (b':=b+1) hlt)
 have HB1:=hide b1
 clear o1 b1 C1
 go_wp2_with fail
 refine (unhide C2).mono ?_
 rintro e x2 ⟨rfl,o2,b2⟩
 have hl2:(outN D 15).2.length=nD:=by rw [outN_len]; exact (unhide HN).2.2.2.2.1
 have hlt1:b+1≤x1.heap.size:=Nat.le_trans hlt (unhide HB1).size
 have J2:=hide ((own_jrow hl2 (o2.own hl2)).mono (b':=b+1) hlt1)
 have J1':=hide ((unhide J1).later b2)
 have hB:Below w.heap.size w x2:=(unhide HB1).trans (b2.mono (unhide HB1).size)
 generalize x1.heap.size=g2 at *
 generalize hg1:w.heap.size=g1 at *
 have hS2:MS w b s x2 (.slice a n cap) T p false:=⟨(unhide HS0).1.later (by rw [hg1]; exact hB) (by omega),(unhide HS0).2.1.later hB (by omega),(unhide HS0).2.2.kept (hB.mono (by omega))⟩
 have h0:(false=true∨300<T.length)→d=none:=by
  rintro (h | h)
  ·
   cases h
  ·
   have:=unhide HN; omega
 have HI:Hid (TmI b s L D g1 g2 p d w (.slice a n cap) x2):=⟨p,T,false,hS2,unhide J1',unhide J2,fun _=>by have:=unhide HN; omega,fun _=>⟨unhide Hp,Nat.le_refl _⟩,fun _ _=>unhide HD,h0⟩
 have HW:Hid (∀ W,KU b w W→JRow W (b+1) al L∧JRow W (b+1) ad D):=fun W hW=>⟨(unhide HJ).1.ku hW (Nat.lt_succ_self _),(unhide HJ).2.ku hW (Nat.lt_succ_self _)⟩
 clear h0 o2 b2 C2 hB hS2 HS0 HB1 J1 J1' J2 hl1 hl2 HD HJ hlt1 hg1
 go_wp2_with fail
 go_loopw [1,11] (fun v _ wr=>TmI b s L D g1 g2 p d w v wr) (fun _ _ wr=>farN b (8*s.size) wr)
 case atStart=>exact unhide HI
 case round=>
  obtain ⟨q,R,f,hms,j1,j2,hR4,hq,hdd,hnn⟩:=hrel
  clear HI
  obtain ⟨m,hm⟩:∃ m,R.length=m:=⟨_,rfl⟩
  obtain ⟨va,vc,rfl⟩:=hms.2.1.formN hm
  obtain ⟨c2,f2⟩:=hms.2.2.bad
  have HMS:=hide hms
  have HX:=hide (And.intro j1 (And.intro j2 (And.intro hq (And.intro hdd hnn))))
  have Hm:=hide hm
  have HR4:=hide hR4
  have HF:=hide hms.2.2.far
  clear hms j1 j2 hq hdd hnn hR4 hm
  cases f
  ·
   have hmI:(m:Int)≤400:=by have:=unhide HR4 rfl; have:=unhide Hm; omega
   by_cases hm3:m≤300
   ·
    have hm3I:(m:Int)≤300:=by omega
    have hW:=unhide HW wr (unhide HMS).1
    have hq:=(unhide HX).2.2.1 rfl
    have hdd:=(unhide HX).2.2.2.1 rfl (by rw [unhide Hm]; exact hm3)
    have HSy:=hide (symbol_at al (some ⟨g1,0,none⟩) capL nL nL b q L s wr (unhide HN).2.2.2.1 (unhide HN).2.1 (by have:=unhide HN; omega) (rf_rdr (unhide HMS).2.2 hq.1) hq.1 (fun W h=>(hW.1.keep1 h (Nat.lt_succ_self _)).1) (fun W h=>((unhide HX).1.keep1 h (Nat.lt_succ_self _)).1))
    have Hq:=hide hq
    clear hW hq
    unfold SymAt at HSy
    rcases h1:dec L (numB s) (8*s.size) q with _ | ⟨k,q1⟩
    ·
     rw [h1] at HSy
     rw [tokG_none h1] at hdd
     have Hn:Hid (d=none):=hdd.symm
     clear h1 hdd
     go_wp2_with fail
     refine (unhide HSy).mono ?_
     rintro e x3 ⟨k3,xx,qq,rfl,r3⟩
     have HS3:=hide ((unhide HMS).keep1 k3 r3)
     obtain ⟨c3,f3⟩:=r3.bad
     clear k3 r3 HSy HMS c2 f2
     go_wp2
     go_ret
     exact (unhide HS3).end (MR.bad (fun _=>unhide Hn))
    ·
     rw [h1] at HSy
     have hb1:=dec_bd h1
     have hkI:k≤300:=by have:=lensOk_len (unhide HN).2.1; omega
     have hk0:=hb1.2.2.1
     have Hb1:=hide (And.intro hb1.1 hb1.2.1)
     by_cases hk:k=256
     ·
      subst hk
      rw [tokG_end h1] at hdd
      have HE:=hide hdd
      clear h1 hdd hb1
      go_wp2_with fail
      refine (unhide HSy).mono ?_
      rintro e x3 ⟨k3,rfl,r3⟩
      have r3':RF x3 b s q1 false:=by have:=rdr_rf r3; rwa [decide_eq_false (by have:=unhide Hb1; omega)] at this
      have HS3:=hide ((unhide HMS).keep1 k3 r3')
      obtain ⟨c3,f3⟩:=r3'.bad
      clear k3 r3 r3' HSy HMS c2 f2
      go_wp2
      go_ret
      refine (unhide HS3).end ⟨fun _=>⟨(unhide Hb1).1,by have:=unhide Hb1; have:=unhide Hq; omega,by rw [unhide Hm]; omega⟩,fun _ _ _=>(unhide HE).symm,fun _ h=>?_,fun h=>by have:=unhide HN; omega⟩
      rcases h with h | h
      ·
       cases h
      ·
       rw [unhide Hm] at h; omega
     ·
      rw [tokG_step h1 hk] at hdd
      have HE:=hide hdd
      clear h1 hdd hb1
      obtain ⟨y,hy⟩:=Int.eq_ofNat_of_zero_le hk0
      subst hy
      have hkne:¬ (y:Int)=256:=hk
      by_cases hk8:y<256
      ·
       have hk8I:(y:Int)<256:=by omega
       have hu:IntKind.u8.wrap (y:Int)=(y:Int):=u8_id (by omega) (by omega)
       have HE2:Hid ((if m+1≤300 then tokG (numB s) (8*s.size) L D q1 (R++[byteT (y:Int)]) else none)=d):=by
        show _=d
        rw [←unhide HE]
        have e1:oneG (numB s) (8*s.size) D (y:Int) q1=some (((y:Int),0,0),q1):=by unfold oneG; rw [if_pos hk8I]
        rw [e1]
        simp only [Option.bind_some]
        rw [byte_addL R y hk8,unhide Hm]
        split <;> rfl
       clear hk hk8 hk0 HE
       go_wp2_with fail
       refine (unhide HSy).mono ?_
       rintro e x3 ⟨k3,rfl,r3⟩
       have r3':RF x3 b s q1 false:=by have:=rdr_rf r3; rwa [decide_eq_false (by have:=unhide Hb1; omega)] at this
       have HS3:=hide ((unhide HMS).keep1 k3 r3')
       obtain ⟨c3,f3⟩:=r3'.bad
       have J3:=hide (And.intro ((unhide HX).1.keep1 k3 (Nat.lt_succ_self _)) ((unhide HX).2.1.keep1 k3 (Nat.lt_succ_self _)))
       have hqo:=hide ((unhide HS3).2.1.own (unhide Hm))
       have hbs:b+1≤x3.heap.size:=(unhide HS3).lt
       have bd:Hid (m+1≤maxLen∧(m+1)*1≤140737488355328):=by show _∧_; unfold maxLen; omega
       clear k3 r3 r3' HSy HMS c2 f2
       go_wp2_with (at_builtin; refine wpList_append_own _ rfl _ _ 22 rfl (b+1) 5 i0 (.int .u8 0) 1 1 Tryz.underlying22 hi hz0 hz1 hz2 rfl (by decide) (.slice va m vc) _ _ rfl (World.ownsRow.alloc (unhide hqo) _) ⟨x3.heap.size,0,none⟩ 1 1 [.int .u8 (y:Int)] rfl rfl (one_new _ _ rfl _ _) (one_byte _) (unhide bd).1 (unhide bd).2 (size_alloc_le hbs _) ?_; intro v' x6 hown hgrow hnil; clear hnil)
       have hbu:BelU (b+1) x3 x6:=grown_stepU hgrow (unhide hqo) (Nat.le_refl _) hbs (BelU.refl _ _)
       have hbo:BOwn x6 (b+1) v' (R++[byteT (y:Int)]):=bown_snoc (unhide Hm) (by rw [byteT_nat (by omega) (by omega)]; exact hown)
       have hS6:=(unhide HS3).belU hbu hbo
       have hln:(R++[byteT (y:Int)]).length=m+1:=by rw [List.length_append,unhide Hm]; rfl
       have HI:Hid (TmI b s L D g1 g2 p d w v' x6):=by
        refine ⟨q1,_,false,hS6,(unhide J3).1.belU hbu,(unhide J3).2.belU hbu,fun _=>by omega,fun _=>⟨(unhide Hb1).1,by have:=unhide Hb1; have:=unhide Hq; omega⟩,fun _ h=>?_,fun h=>?_⟩
        ·
         have:=unhide HE2
         rwa [if_pos (by omega)] at this
        ·
         have:=unhide HE2
         rcases h with h | h
         ·
          cases h
         ·
          rw [if_neg (by omega)] at this
          exact this.symm
       have HF6:=hide hS6.2.2.far
       clear hown hgrow hbu hbo hS6 HS3 hqo J3 hln
       go_wp2_with fail
       go_roundw
       case rel=>exact unhide HI
       case measure=>
        rw [unhide HF6,unhide HF]
        have:=unhide Hb1; have:=unhide Hq
        simp only [Bool.false_eq_true,if_false]
        omega
      ·
       obtain ⟨kk,ey⟩:∃ kk:Nat,(y:Int)=(kk:Int)+257:=⟨y-257,by omega⟩
       rw [ey] at HSy HE hkI hkne
       have hkkI:(kk:Int)≤43:=by omega
       have HE2:=hide (ag_next.symm.trans (unhide HE))
       clear hk hk8 hk0 HE ey hkI
       go_wp2_with fail
       refine (unhide HSy).mono ?_
       rintro e x3 ⟨k3,rfl,r3⟩
       have r3':RF x3 b s q1 false:=by have:=rdr_rf r3; rwa [decide_eq_false (by have:=unhide Hb1; omega)] at this
       have HS3:=hide ((unhide HMS).keep1 k3 r3')
       obtain ⟨c3,f3⟩:=r3'.bad
       have J3:=hide (And.intro ((unhide HX).1.keep1 k3 (Nat.lt_succ_self _)) ((unhide HX).2.1.keep1 k3 (Nat.lt_succ_self _)))
       have hW3:=unhide HW x3 (unhide HS3).1
       have HAg:=hide (again_any b q1 m vc kk nD capD nD va ad (some ⟨g2,0,none⟩) s R D x3 (unhide Hm) (unhide HS3).2.1 r3 (unhide Hb1).1 (unhide HN).1 hm3 (by omega) (unhide HN).2.2.2.2.1 (unhide HN).2.2.1 (fun W h=>(hW3.2.keep1 h (Nat.lt_succ_self _)).1) (fun W h=>((unhide J3).2.keep1 h (Nat.lt_succ_self _)).1))
       clear k3 r3 r3' HSy HMS c2 f2 hW3
       go_wp2_with fail
       refine (unhide HAg).mono ?_
       rintro e x4 ⟨k4,v4,T4,q4,f4,rfl,o4,r4,e4⟩
       have hS4:MS w b s x4 v4 T4 q4 f4:=⟨(unhide HS3).1.trans k4,o4,r4⟩
       have HI:Hid (TmI b s L D g1 g2 p d w v4 x4):=by
        have hE:=unhide HE2
        rw [e4] at hE
        refine ⟨q4,T4,f4,hS4,(unhide J3).1.ku k4 (Nat.lt_succ_self _),(unhide J3).2.ku k4 (Nat.lt_succ_self _),fun h=>?_,fun h=>?_,fun h h2=>?_,fun h=>?_⟩
        ·
         rw [h] at e4
         have:=ag_len e4
         rw [unhide Hm] at this
         omega
        ·
         rw [h] at e4
         have:=ag_bd e4
         have:=unhide Hb1; have:=unhide Hq
         omega
        ·
         rw [h] at hE
         simp only [Bool.false_eq_true,if_false,Option.bind_some] at hE
         rwa [if_pos h2] at hE
        ·
         cases f4
         ·
          rcases h with h | h
          ·
           cases h
          ·
           simp only [Bool.false_eq_true,if_false,Option.bind_some] at hE
           rw [if_neg (by omega)] at hE
           exact hE.symm
         ·
          exact hE.symm
       have HF6:Hid (farN b (8*s.size) x4<farN b (8*s.size) wr):=by
        show _<_
        rw [r4.far,unhide HF]
        have:=unhide Hb1; have:=unhide Hq
        cases f4
        ·
         have:=ag_bd e4
         simp only [Bool.false_eq_true,if_false]
         omega
        ·
         simp only [if_true,Bool.false_eq_true,if_false]
         omega
       clear k4 o4 r4 e4 hS4 HS3 J3 HAg c3 f3
       go_wp2_with fail
       go_roundw
       case rel=>exact unhide HI
       case measure=>exact unhide HF6
   ·
    have hm3I:¬ (m:Int)≤300:=by omega
    have Hn:Hid (d=none):=(unhide HX).2.2.2.2 (.inr (by rw [unhide Hm]; omega))
    go_wp2
    go_ret
    exact ((unhide HMS).setBad).end (MR.bad (fun _=>unhide Hn))
  ·
   have Hn:Hid (d=none):=(unhide HX).2.2.2.2 (.inl rfl)
   go_wp2
   go_ret
   exact ((unhide HMS).setBad).end (MR.bad (fun _=>unhide Hn))
set_option maxRecDepth 100000 in
set_option maxHeartbeats 1600000 in
theorem tokensD_any (b p n cap nL capL nD capD:Nat) (a al ad:Option Addr) (s:ByteArray) (T:List UInt8) (L D:List Int) (d:Option (List UInt8×Nat)) (w:World) (hn:T.length=n) (ho:BOwn w (b+1) (.slice a n cap) T) (hr:Rdr w b s p) (hp:p≤8*s.size) (hT:300<n) (hT2:n≤100000)
  (hL:L.length=nL) (hD:D.length=nD) (okL:lensOk L=true) (okD:lensOk D=true) (jL:JRow w (b+1) al L) (jD:JRow w (b+1) ad D) :
  Calls Tryz.prog 234 #[.pointer (some ⟨b,0,none⟩),.slice a n cap,.slice al nL capL,.slice ad nD capD] w (MP w b p s T d):=by
 have hlt:=hr.lt
 have hrf:RF w b s p false:=by have:=rdr_rf hr; rwa [decide_eq_false (by omega)] at this
 have lL:=lensOk_len okL
 have lD:=lensOk_len okD
 have HS0:Hid (MS w b s w (.slice a n cap) T p false):=⟨KU.refl _ _,ho,hrf⟩
 have C1:=hide (l3Codes_any al capL nL L w hL jL.1 (by omega))
 have C2:=hide (fun W (hW:Below w.heap.size w W)=>l3Codes_any ad capD nD D W hD (jD.later hW).1 (by omega))
 have HT:=hide (And.intro hn hT)
 have hnI:¬ (n:Int)≤300:=by omega
 have hnI2:(n:Int)≤100000:=by omega
 clear hn ho hr hp hT hT2 hL hD okL okD jL jD hrf
 go_enter Tryz.func234,Tryz.ntmps234
 go_wp2_with fail
 refine (unhide C1).mono ?_
 rintro e x1 ⟨rfl,o1,b1⟩
 have HB1:=hide b1
 clear o1 b1 C1
 go_wp2_with fail
 refine (unhide C2 x1 (unhide HB1)).mono ?_
 rintro e x2 ⟨rfl,o2,b2⟩
 have hB:Below w.heap.size w x2:=(unhide HB1).trans (b2.mono (unhide HB1).size)
 have hS2:MS w b s x2 (.slice a n cap) T p false:=⟨(unhide HS0).1.later hB hlt,(unhide HS0).2.1.later hB (Nat.le_refl _),(unhide HS0).2.2.kept (hB.mono hlt)⟩
 have HS2:=hide hS2
 obtain ⟨c2,f2⟩:=hS2.2.2.bad
 have hltb:=hS2.lt
 clear o2 b2 C2 hB hS2 HS0 HB1
 go_wp2_with fail
 go_loopw [1,11] (fun v _ wr=>v = .slice a n cap∧wr=x2) (fun _ _ _=>0)
 case atStart=>exact ⟨rfl,rfl⟩
 case round=>
  obtain ⟨rfl,rfl⟩:=hrel
  go_wp2
  go_ret
  exact ((unhide HS2).setBad).end (MR.bad (fun h=>by have:=unhide HT; omega))
structure KI (b B:Nat) (w w':World):Prop where
 below:Below b w w'
 keep:∀ j,j<B→j≠b→j<w.heap.size→w'.heap[j]?=w.heap[j]?
theorem KI.refl (b B:Nat) (w:World):KI b B w w:=⟨Below.refl _ _,fun _ _ _ _=>rfl⟩
theorem KI.trans {b B:Nat} {w w1 w2:World} (h:KI b B w w1) (k:KI b B w1 w2):KI b B w w2:=⟨h.1.trans k.1,fun j h1 h2 h3=>(k.2 j h1 h2 (Nat.lt_of_lt_of_le h3 h.1.size)).trans (h.2 j h1 h2 h3)⟩
theorem Keep1.ki {b:Nat} {w w':World} (h:Keep1 b w w') (B:Nat):KI b B w w':=⟨h.1,fun j _ hne hj=>h.2 j hj hne⟩
def NS (w:World) (b B:Nat) (s:ByteArray) (x:World) (v:Value) (A:List Int) (q:Nat) (f:Bool):Prop:=KI b B w x∧IOwn x B v A∧RF x b s q f∧B≤x.heap.size
theorem NS.keep1 {w x x':World} {b B q q':Nat} {s:ByteArray} {v:Value} {A:List Int} {f f':Bool} (h:NS w b B s x v A q f) (hb:b<B) (hk:Keep1 b x x') (hr:RF x' b s q' f'):NS w b B s x' v A q' f':=⟨h.1.trans (hk.ki B),h.2.1.keep1' hk hb,hr,Nat.le_trans h.2.2.2 hk.1.size⟩
theorem NS.setBad {w x:World} {b B q:Nat} {s:ByteArray} {v:Value} {A:List Int} {f:Bool} (h:NS w b B s x v A q f) (hb:b<B):NS w b B s (x.setCell ⟨b,2,none⟩ (.bool true)) v A q true:=h.keep1 hb (keep1_set0 _ _ _ _) h.2.2.1.setBad
theorem NS.grown {w x x':World} {b B q:Nat} {s:ByteArray} {v v':Value} {A A':List Int} {o:Obj} {f:Bool} (h:NS w b B s x v A q f) (hb:b<B) (hg:(x.alloc o).grownBy x' v.ownBlock) (ho:IOwn x' B v' A'):NS w b B s x' v' A' q f:=by
 have hne:∀ j,j<B→some j≠v.ownBlock:=fun j hj e=>by
  have:=(World.ownsRow.lt h.2.1 j e.symm).1
  omega
 have hk:∀ j,j<B→j<x.heap.size→x'.heap[j]?=x.heap[j]?:=fun j h1 h2=>(hg.block j (by simp; omega) (hne j h1)).trans (Below.heap_alloc x o j h2)
 have hs:x.heap.size≤x'.heap.size:=by have:=hg.size; simp at this; omega
 have hbx:Below (b+1) x x':=((Below.refl _ x).alloc (by have:=h.2.2.2; omega) o).grown hg (by have:=h.2.2.2; simp; omega) (fun k e=>by have:=(World.ownsRow.lt h.2.1 k e).1; omega)
 exact ⟨h.1.trans ⟨hbx.mono (Nat.le_succ _),fun j h1 _ h3=>hk j h1 h3⟩,ho,h.2.2.1.kept hbx,Nat.le_trans h.2.2.2 hs⟩
def MnP (w:World) (b B q:Nat) (s:ByteArray) (A:List Int) (k:Int) (f:Bool) (e:Ending) (w':World):Prop:=
 ∃ v A' q' f',e = .returned v∧NS w b B s w' v A' q' f'∧(f=true→f'=true)∧(f=false→addLn (numB s) (8*s.size) A k q=if f'=true then none else some (A',q'))
set_option maxRecDepth 100000 in
set_option maxHeartbeats 3200000 in
theorem many_any (b B q n cap:Nat) (a:Option Addr) (s:ByteArray) (A:List Int) (k:Int) (f:Bool) (w:World) (hn:A.length=n) (hn6:n≤600) (h:NS w b B s w (.slice a n cap) A q f) (hb:b<B) (hf:f=false→q≤8*s.size) (hs:s.size≤2000) :
  Calls Tryz.prog 258 #[.pointer (some ⟨b,0,none⟩),.slice a n cap,.int .i64 k] w (MnP w b B q s A k f):=by
 obtain ⟨i0,hi,hz0,hz1,hz2⟩:=info_parts Tryz.infoInt
 have HS0:=hide h
 have HN:=hide (And.intro hn (And.intro hn6 (And.intro hb hs)))
 have HF:=hide hf
 have hnI:(n:Int)≤600:=by omega
 obtain ⟨c0,f0⟩:=h.2.2.1.bad
 clear h hn hn6 hb hf hs
 go_enter Tryz.func258,Tryz.ntmps258
 by_cases h16:k=16
 ·
  subst h16
  by_cases h0:n=0
  ·
   have h0I:(n:Int)=0:=by omega
   have hz:Hid (addLn (numB s) (8*s.size) A 16 q=none):=by show _=_; unfold addLn; rw [if_pos rfl,if_pos (by rw [(unhide HN).1]; exact h0)]
   have HSx0:=hide ((unhide HS0).setBad (unhide HN).2.2.1)
   clear h0
   go_wp2_with fail
   generalize w.setCell ⟨b,2,none⟩ (.bool true)=XW at *
   have c4:=(unhide HSx0).2.2.1.bad.1
   go_loopw [1,9] (fun v i wr=>v = .slice a n cap∧i = .int .i64 0∧wr=XW) (fun _ _ _=>0)
   case atStart=>exact ⟨by first | rfl | (rw [h0I]) | simp [h0I],rfl,rfl⟩
   case round=>
    obtain ⟨rfl,rfl,rfl⟩:=hrel
    go_wp2
    go_ret
    exact ⟨_,_,_,true,rfl,unhide HSx0,fun _=>rfl,fun _=>unhide hz⟩
  ·
   obtain ⟨g,rfl⟩:=(unhide HS0).2.1.somes (by rw [(unhide HN).1]; omega)
   obtain ⟨m1,hm1⟩:∃ m,n-1=m:=⟨_,rfl⟩
   have hn1:(n:Int)-1=(m1:Int):=by omega
   have hm1I:(m1:Int)<(n:Int):=by omega
   have HL1:Hid (A.getD (A.length-1) 0=A.getD m1 0):=by show _=_; rw [(unhide HN).1,hm1]
   have cL:=((unhide HS0).2.1.at (unhide HN).1 (show m1<n by omega)).1
   have Hz:Hid (¬ A.length=0):=by show ¬ _; rw [(unhide HN).1]; exact h0
   clear h0 hm1
   generalize A.getD m1 0=L at *
   have HM:=hide (num_rf b q 2 f s w (unhide HS0).2.2.1 (unhide HF) (by have:=unhide HN; omega) (by omega))
   obtain ⟨y,hy⟩:∃ y,numB s/2 ^ q%2 ^ 2=y:=⟨_,rfl⟩
   have hyI:(y:Int)≤3:=by omega
   obtain ⟨CN,hCN⟩:∃ c,3+y=c:=⟨_,rfl⟩
   obtain ⟨F,hF⟩:∃ F,(f || decide (8*s.size<q+2))=F:=⟨_,rfl⟩
   have HR:Hid ((f=true→F=true)∧(f=false→addLn (numB s) (8*s.size) A 16 q=if F=true then none else some (A++List.replicate CN L,q+2))):=by
    refine ⟨fun h=>by rw [←hF,h]; rfl,fun h=>?_⟩
    rw [←hF,h,Bool.false_or]
    unfold addLn; rw [if_pos rfl,if_neg (unhide Hz),unhide HL1]
    by_cases hc:q+2≤8*s.size
    ·
     rw [rdN_yes hc,decide_eq_false (by omega),hy]
     simp only [Option.bind_some]
     rw [hCN]
     rfl
    ·
     rw [rdN_no hc,decide_eq_true (by omega)]
     rfl
   have eC:(3:Int)+(y:Int)=(CN:Int):=by omega
   rw [hF,hy] at HM
   clear hy hF hCN
   go_wp2_with fail
   refine (unhide HM).mono ?_
   rintro e XW ⟨rfl,r1,k1⟩
   have HSx:=hide ((unhide HS0).keep1 (unhide HN).2.2.1 k1 r1)
   generalize hQ:q+2=Q at *
   clear k1 r1 HM HS0 c0 f0 hQ
   go_wp2_with fail
   have c4:=(unhide HSx).2.2.1.bad.1
   go_loopw [1,9] (fun v i wr=>∃ j:Nat,j≤CN∧i = .int .i64 j∧(F=true→j=0)∧NS w b B s wr v (A++List.replicate j L) Q F) (fun _ i _=>CN-(intOf i).toNat)
   case atStart=>exact ⟨0,Nat.zero_le _,rfl,fun _=>rfl,by rw [List.replicate_zero,List.append_nil]; exact unhide HSx⟩
   case round=>
    obtain ⟨j,hj,rfl,hjF,hns⟩:=hrel
    clear HSx c4
    obtain ⟨m,hm⟩:∃ m,(A++List.replicate j L).length=m:=⟨_,rfl⟩
    have hmn:m≤900:=by rw [←hm,List.length_append,List.length_replicate,(unhide HN).1]; have:=(unhide HN).2.1; omega
    obtain ⟨va,vc,rfl⟩:=hns.2.1.formN hm
    obtain ⟨c5,f5⟩:=hns.2.2.1.bad
    have Hm:=hide hm
    have HNS:=hide hns
    have HjF:=hide hjF
    clear hns hm hjF
    have hend:Hid ((F=true∨¬ j<CN)→MnP w b B q s A 16 f (.returned (.slice va m vc)) wr):=by
     intro hc
     refine ⟨_,_,Q,F,rfl,unhide HNS,(unhide HR).1,fun hff=>?_⟩
     rw [(unhide HR).2 hff]
     cases hF:F
     ·
      have:j=CN:=by
       rcases hc with h | h
       ·
        rw [hF] at h; cases h
       ·
        omega
      rw [this]
     ·
      rfl
    by_cases hlt2:j<CN
    ·
     have hltI:(j:Int)<(CN:Int):=by omega
     cases F
     ·
      have hqo:=hide ((unhide HNS).2.1.own (unhide Hm))
      have hbs:B≤wr.heap.size:=(unhide HNS).2.2.2
      have bd:Hid (m+1≤maxLen∧(m+1)*8≤140737488355328):=by show _∧_; unfold maxLen; omega
      go_wp2_with (at_builtin; refine wpList_append_own _ rfl _ _ 146 rfl B 3 i0 (.int .i64 0) 1 8 Tryz.underlying146 hi hz0 hz1 hz2 rfl (by decide) (.slice va m vc) _ _ rfl (World.ownsRow.alloc (unhide hqo) _) ⟨wr.heap.size,0,none⟩ 1 1 [.int .i64 L] rfl rfl (one_new _ _ rfl _ _) (one_int _) (unhide bd).1 (unhide bd).2 (size_alloc_le hbs _) ?_; intro v' x6 hown hgrow hnil; clear hnil)
      have hbo:IOwn x6 B v' (A++List.replicate (j+1) L):=by
       have:=iown_snocN (unhide Hm) hown
       rw [List.append_assoc,←List.replicate_succ'] at this
       exact this
      have HS6:=hide ((unhide HNS).grown (unhide HN).2.2.1 hgrow hbo)
      clear hown hgrow hbo
      go_wp2_with fail
      go_roundw
      case rel=>first | exact ⟨j+1,by omega,by go_num,nofun,unhide HS6⟩ | exact ⟨j+1,by omega,by go_num,unhide HS6⟩
      case measure=>simp [intOf]; omega
     ·
      go_wp2
      go_ret
      exact unhide hend (Or.inl (by simp))
    ·
     have hltI:¬ (j:Int)<(CN:Int):=by omega
     go_wp2
     go_ret
     exact unhide hend (.inr hlt2)
 ·
  have b16:¬ k=16:=h16
  by_cases h17:k=17
  ·
   subst h17
   clear h16 b16
   have HM:=hide (num_rf b q 3 f s w (unhide HS0).2.2.1 (unhide HF) (by have:=unhide HN; omega) (by omega))
   obtain ⟨y,hy⟩:∃ y,numB s/2 ^ q%2 ^ 3=y:=⟨_,rfl⟩
   have hyI:(y:Int)≤7:=by omega
   obtain ⟨CN,hCN⟩:∃ c,3+y=c:=⟨_,rfl⟩
   obtain ⟨F,hF⟩:∃ F,(f || decide (8*s.size<q+3))=F:=⟨_,rfl⟩
   have HR:Hid ((f=true→F=true)∧(f=false→addLn (numB s) (8*s.size) A 17 q=if F=true then none else some (A++List.replicate CN 0,q+3))):=by
    refine ⟨fun h=>by rw [←hF,h]; rfl,fun h=>?_⟩
    rw [←hF,h,Bool.false_or]
    unfold addLn; rw [if_neg (by decide),if_pos rfl]
    by_cases hc:q+3≤8*s.size
    ·
     rw [rdN_yes hc,decide_eq_false (by omega),hy]
     simp only [Option.bind_some]
     rw [hCN]
     rfl
    ·
     rw [rdN_no hc,decide_eq_true (by omega)]
     rfl
   have eC:(3:Int)+(y:Int)=(CN:Int):=by omega
   rw [hF,hy] at HM
   clear hy hF hCN
   go_wp2_with fail
   refine (unhide HM).mono ?_
   rintro e XW ⟨rfl,r1,k1⟩
   have HSx:=hide ((unhide HS0).keep1 (unhide HN).2.2.1 k1 r1)
   generalize hQ:q+3=Q at *
   clear k1 r1 HM HS0 c0 f0 hQ
   go_wp2_with fail
   have c4:=(unhide HSx).2.2.1.bad.1
   go_loopw [1,9] (fun v i wr=>∃ j:Nat,j≤CN∧i = .int .i64 j∧(F=true→j=0)∧NS w b B s wr v (A++List.replicate j 0) Q F) (fun _ i _=>CN-(intOf i).toNat)
   case atStart=>exact ⟨0,Nat.zero_le _,rfl,fun _=>rfl,by rw [List.replicate_zero,List.append_nil]; exact unhide HSx⟩
   case round=>
    obtain ⟨j,hj,rfl,hjF,hns⟩:=hrel
    clear HSx c4
    obtain ⟨m,hm⟩:∃ m,(A++List.replicate j 0).length=m:=⟨_,rfl⟩
    have hmn:m≤900:=by rw [←hm,List.length_append,List.length_replicate,(unhide HN).1]; have:=(unhide HN).2.1; omega
    obtain ⟨va,vc,rfl⟩:=hns.2.1.formN hm
    obtain ⟨c5,f5⟩:=hns.2.2.1.bad
    have Hm:=hide hm
    have HNS:=hide hns
    have HjF:=hide hjF
    clear hns hm hjF
    have hend:Hid ((F=true∨¬ j<CN)→MnP w b B q s A 17 f (.returned (.slice va m vc)) wr):=by
     intro hc
     refine ⟨_,_,Q,F,rfl,unhide HNS,(unhide HR).1,fun hff=>?_⟩
     rw [(unhide HR).2 hff]
     cases hF:F
     ·
      have:j=CN:=by
       rcases hc with h | h
       ·
        rw [hF] at h; cases h
       ·
        omega
      rw [this]
     ·
      rfl
    by_cases hlt2:j<CN
    ·
     have hltI:(j:Int)<(CN:Int):=by omega
     cases F
     ·
      have hqo:=hide ((unhide HNS).2.1.own (unhide Hm))
      have hbs:B≤wr.heap.size:=(unhide HNS).2.2.2
      have bd:Hid (m+1≤maxLen∧(m+1)*8≤140737488355328):=by show _∧_; unfold maxLen; omega
      go_wp2_with (at_builtin; refine wpList_append_own _ rfl _ _ 146 rfl B 3 i0 (.int .i64 0) 1 8 Tryz.underlying146 hi hz0 hz1 hz2 rfl (by decide) (.slice va m vc) _ _ rfl (World.ownsRow.alloc (unhide hqo) _) ⟨wr.heap.size,0,none⟩ 1 1 [.int .i64 0] rfl rfl (one_new _ _ rfl _ _) (one_int _) (unhide bd).1 (unhide bd).2 (size_alloc_le hbs _) ?_; intro v' x6 hown hgrow hnil; clear hnil)
      have hbo:IOwn x6 B v' (A++List.replicate (j+1) 0):=by
       have:=iown_snocN (unhide Hm) hown
       rw [List.append_assoc,←List.replicate_succ'] at this
       exact this
      have HS6:=hide ((unhide HNS).grown (unhide HN).2.2.1 hgrow hbo)
      clear hown hgrow hbo
      go_wp2_with fail
      go_roundw
      case rel=>first | exact ⟨j+1,by omega,by go_num,nofun,unhide HS6⟩ | exact ⟨j+1,by omega,by go_num,unhide HS6⟩
      case measure=>simp [intOf]; omega
     ·
      go_wp2
      go_ret
      exact unhide hend (Or.inl (by simp))
    ·
     have hltI:¬ (j:Int)<(CN:Int):=by omega
     go_wp2
     go_ret
     exact unhide hend (.inr hlt2)
  ·
   have b17:¬ k=17:=h17
   by_cases h18:k=18
   ·
    subst h18
    clear h16 h17 b16 b17
    have HM:=hide (num_rf b q 7 f s w (unhide HS0).2.2.1 (unhide HF) (by have:=unhide HN; omega) (by omega))
    obtain ⟨y,hy⟩:∃ y,numB s/2 ^ q%2 ^ 7=y:=⟨_,rfl⟩
    have hyI:(y:Int)≤127:=by omega
    obtain ⟨CN,hCN⟩:∃ c,11+y=c:=⟨_,rfl⟩
    obtain ⟨F,hF⟩:∃ F,(f || decide (8*s.size<q+7))=F:=⟨_,rfl⟩
    have HR:Hid ((f=true→F=true)∧(f=false→addLn (numB s) (8*s.size) A 18 q=if F=true then none else some (A++List.replicate CN 0,q+7))):=by
     refine ⟨fun h=>by rw [←hF,h]; rfl,fun h=>?_⟩
     rw [←hF,h,Bool.false_or]
     unfold addLn; rw [if_neg (by decide),if_neg (by decide),if_pos rfl]
     by_cases hc:q+7≤8*s.size
     ·
      rw [rdN_yes hc,decide_eq_false (by omega),hy]
      simp only [Option.bind_some]
      rw [hCN]
      rfl
     ·
      rw [rdN_no hc,decide_eq_true (by omega)]
      rfl
    have eC:(11:Int)+(y:Int)=(CN:Int):=by omega
    rw [hF,hy] at HM
    clear hy hF hCN
    go_wp2_with fail
    refine (unhide HM).mono ?_
    rintro e XW ⟨rfl,r1,k1⟩
    have HSx:=hide ((unhide HS0).keep1 (unhide HN).2.2.1 k1 r1)
    generalize hQ:q+7=Q at *
    clear k1 r1 HM HS0 c0 f0 hQ
    go_wp2_with fail
    have c4:=(unhide HSx).2.2.1.bad.1
    go_loopw [1,9] (fun v i wr=>∃ j:Nat,j≤CN∧i = .int .i64 j∧(F=true→j=0)∧NS w b B s wr v (A++List.replicate j 0) Q F) (fun _ i _=>CN-(intOf i).toNat)
    case atStart=>exact ⟨0,Nat.zero_le _,rfl,fun _=>rfl,by rw [List.replicate_zero,List.append_nil]; exact unhide HSx⟩
    case round=>
     obtain ⟨j,hj,rfl,hjF,hns⟩:=hrel
     clear HSx c4
     obtain ⟨m,hm⟩:∃ m,(A++List.replicate j 0).length=m:=⟨_,rfl⟩
     have hmn:m≤900:=by rw [←hm,List.length_append,List.length_replicate,(unhide HN).1]; have:=(unhide HN).2.1; omega
     obtain ⟨va,vc,rfl⟩:=hns.2.1.formN hm
     obtain ⟨c5,f5⟩:=hns.2.2.1.bad
     have Hm:=hide hm
     have HNS:=hide hns
     have HjF:=hide hjF
     clear hns hm hjF
     have hend:Hid ((F=true∨¬ j<CN)→MnP w b B q s A 18 f (.returned (.slice va m vc)) wr):=by
      intro hc
      refine ⟨_,_,Q,F,rfl,unhide HNS,(unhide HR).1,fun hff=>?_⟩
      rw [(unhide HR).2 hff]
      cases hF:F
      ·
       have:j=CN:=by
        rcases hc with h | h
        ·
         rw [hF] at h; cases h
        ·
         omega
       rw [this]
      ·
       rfl
     by_cases hlt2:j<CN
     ·
      have hltI:(j:Int)<(CN:Int):=by omega
      cases F
      ·
       have hqo:=hide ((unhide HNS).2.1.own (unhide Hm))
       have hbs:B≤wr.heap.size:=(unhide HNS).2.2.2
       have bd:Hid (m+1≤maxLen∧(m+1)*8≤140737488355328):=by show _∧_; unfold maxLen; omega
       go_wp2_with (at_builtin; refine wpList_append_own _ rfl _ _ 146 rfl B 3 i0 (.int .i64 0) 1 8 Tryz.underlying146 hi hz0 hz1 hz2 rfl (by decide) (.slice va m vc) _ _ rfl (World.ownsRow.alloc (unhide hqo) _) ⟨wr.heap.size,0,none⟩ 1 1 [.int .i64 0] rfl rfl (one_new _ _ rfl _ _) (one_int _) (unhide bd).1 (unhide bd).2 (size_alloc_le hbs _) ?_; intro v' x6 hown hgrow hnil; clear hnil)
       have hbo:IOwn x6 B v' (A++List.replicate (j+1) 0):=by
        have:=iown_snocN (unhide Hm) hown
        rw [List.append_assoc,←List.replicate_succ'] at this
        exact this
       have HS6:=hide ((unhide HNS).grown (unhide HN).2.2.1 hgrow hbo)
       clear hown hgrow hbo
       go_wp2_with fail
       go_roundw
       case rel=>first | exact ⟨j+1,by omega,by go_num,nofun,unhide HS6⟩ | exact ⟨j+1,by omega,by go_num,unhide HS6⟩
       case measure=>simp [intOf]; omega
      ·
       go_wp2
       go_ret
       exact unhide hend (Or.inl (by simp))
     ·
      have hltI:¬ (j:Int)<(CN:Int):=by omega
      go_wp2
      go_ret
      exact unhide hend (.inr hlt2)
   ·
    have b18:¬ k=18:=h18
    have HSx:=HS0
    have HR:Hid ((f=true→f=true)∧(f=false→addLn (numB s) (8*s.size) A k q=if f=true then none else some (A++List.replicate 1 k,q))):=by
     refine ⟨id,fun h=>?_⟩
     rw [h]
     unfold addLn
     rw [if_neg h16,if_neg h17,if_neg h18]
     rfl
    clear HS0 c0 f0 h16 h17 h18
    go_wp2_with fail
    have c4:=(unhide HSx).2.2.1.bad.1
    go_loopw [1,9] (fun v i wr=>∃ j:Nat,j≤1∧i = .int .i64 j∧(f=true→j=0)∧NS w b B s wr v (A++List.replicate j k) q f) (fun _ i _=>1-(intOf i).toNat)
    case atStart=>exact ⟨0,Nat.zero_le _,rfl,fun _=>rfl,by rw [List.replicate_zero,List.append_nil]; exact unhide HSx⟩
    case round=>
     obtain ⟨j,hj,rfl,hjF,hns⟩:=hrel
     clear HSx c4
     obtain ⟨m,hm⟩:∃ m,(A++List.replicate j k).length=m:=⟨_,rfl⟩
     have hmn:m≤900:=by rw [←hm,List.length_append,List.length_replicate,(unhide HN).1]; have:=(unhide HN).2.1; omega
     obtain ⟨va,vc,rfl⟩:=hns.2.1.formN hm
     obtain ⟨c5,f5⟩:=hns.2.2.1.bad
     have Hm:=hide hm
     have HNS:=hide hns
     have HjF:=hide hjF
     clear hns hm hjF
     have hend:Hid ((f=true∨¬ j<1)→MnP w b B q s A k f (.returned (.slice va m vc)) wr):=by
      intro hc
      refine ⟨_,_,q,f,rfl,unhide HNS,(unhide HR).1,fun hff=>?_⟩
      rw [(unhide HR).2 hff]
      cases hF:f
      ·
       have:j=1:=by
        rcases hc with h | h
        ·
         rw [hF] at h; cases h
        ·
         omega
       rw [this]
      ·
       rfl
     by_cases hlt2:j<1
     ·
      have hltI:(j:Int)<(1:Int):=by omega
      cases f
      ·
       have hqo:=hide ((unhide HNS).2.1.own (unhide Hm))
       have hbs:B≤wr.heap.size:=(unhide HNS).2.2.2
       have bd:Hid (m+1≤maxLen∧(m+1)*8≤140737488355328):=by show _∧_; unfold maxLen; omega
       go_wp2_with (at_builtin; refine wpList_append_own _ rfl _ _ 146 rfl B 3 i0 (.int .i64 0) 1 8 Tryz.underlying146 hi hz0 hz1 hz2 rfl (by decide) (.slice va m vc) _ _ rfl (World.ownsRow.alloc (unhide hqo) _) ⟨wr.heap.size,0,none⟩ 1 1 [.int .i64 k] rfl rfl (one_new _ _ rfl _ _) (one_int _) (unhide bd).1 (unhide bd).2 (size_alloc_le hbs _) ?_; intro v' x6 hown hgrow hnil; clear hnil)
       have hbo:IOwn x6 B v' (A++List.replicate (j+1) k):=by
        have:=iown_snocN (unhide Hm) hown
        rw [List.append_assoc,←List.replicate_succ'] at this
        exact this
       have HS6:=hide ((unhide HNS).grown (unhide HN).2.2.1 hgrow hbo)
       clear hown hgrow hbo
       go_wp2_with fail
       go_roundw
       case rel=>first | exact ⟨j+1,by omega,by go_num,nofun,unhide HS6⟩ | exact ⟨j+1,by omega,by go_num,unhide HS6⟩
       case measure=>simp [intOf]; omega
      ·
       go_wp2
       go_ret
       exact unhide hend (Or.inl (by simp))
     ·
      have hltI:¬ (j:Int)<(1:Int):=by omega
      go_wp2
      go_ret
      exact unhide hend (.inr hlt2)
def lbV (V:Nat):List Nat→Nat→List Int→List Int
 | [],_,l=>l
 | i :: is,p,l=>lbV V is (p+3) (l.set i ((V/2 ^ p%2 ^ 3:Nat):Int))
theorem lbG_V {V sz:Nat} : ∀ (is:List Nat) (p:Nat) (l:List Int),p≤sz→lbG V sz is p l=if p+3*is.length≤sz then some (lbV V is p l,p+3*is.length) else none:=by
 intro is
 induction is with
 | nil=>intro p l h; simp [lbG,lbV,h]
 | cons i is ih=>
  intro p l h
  simp only [lbG,lbV,List.length_cons]
  by_cases hc:p+3≤sz
  ·
   rw [rdN_yes hc]
   simp only [Option.bind_some]
   rw [ih _ _ hc,show p+3+3*is.length=p+3*(is.length+1) by omega]
  ·
   rw [rdN_no hc,if_neg (by omega)]
   rfl
def lensG (V sz p:Nat):Option (Nat×List Int×Nat):=
 (rdN V sz p 5).bind fun a=>(rdN V sz a.2 5).bind fun c=>if a.1+257≤286∧c.1+1≤30 then
  (rdN V sz c.2 4).bind fun m=>(lenBkG V sz (m.1+4) m.2).bind fun B=>(lnG V sz B.1 (a.1+257+(c.1+1)) B.2 []).bind fun A=>
   if lensOk (A.1.take (a.1+257))=true∧lensOk (A.1.drop (a.1+257))=true then some (a.1+257,A.1,A.2) else none
  else none
theorem ownG_lens {V sz p:Nat} {T:List UInt8} : ownG V sz p T=(lensG V sz p).bind fun x=>tokG V sz (x.2.1.take x.1) (x.2.1.drop x.1) x.2.2 T:=by
 unfold ownG lensG
 rcases rdN V sz p 5 with _ | ⟨a,q1⟩
 ·
  rfl
 simp only [Option.bind_some]
 rcases rdN V sz q1 5 with _ | ⟨c,q2⟩
 ·
  rfl
 simp only [Option.bind_some]
 split
 ·
  rcases rdN V sz q2 4 with _ | ⟨m,q3⟩
  ·
   rfl
  simp only [Option.bind_some]
  rcases lenBkG V sz (m+4) q3 with _ | ⟨B,q4⟩
  ·
   rfl
  simp only [Option.bind_some]
  rcases lnG V sz B (a+257+(c+1)) q4 [] with _ | ⟨A,q5⟩
  ·
   rfl
  simp only [Option.bind_some]
  unfold booksG
  by_cases h1:lensOk (A.take (a+257))=true
  ·
   by_cases h2:lensOk (A.drop (a+257))=true
   ·
    rw [if_pos h1,if_pos h2,if_pos ⟨h1,h2⟩]; rfl
   ·
    rw [if_pos h1,if_neg h2,if_neg (fun h=>h2 h.2)]; rfl
  ·
   rw [if_neg h1,if_neg (fun h=>h1 h.1)]; rfl
 ·
  rfl
theorem lensG_bd {V sz p n q:Nat} {A:List Int} (h:lensG V sz p=some (n,A,q)):q≤sz∧p≤q∧lensOk (A.take n)=true∧lensOk (A.drop n)=true:=by
 unfold lensG at h
 rcases h1:rdN V sz p 5 with _ | ⟨a,q1⟩
 ·
  rw [h1] at h; cases h
 rw [h1] at h
 simp only [Option.bind_some] at h
 rcases h2:rdN V sz q1 5 with _ | ⟨c,q2⟩
 ·
  rw [h2] at h; cases h
 rw [h2] at h
 simp only [Option.bind_some] at h
 split at h
 ·
  rcases h3:rdN V sz q2 4 with _ | ⟨m,q3⟩
  ·
   rw [h3] at h; cases h
  rw [h3] at h
  simp only [Option.bind_some] at h
  rcases h4:lenBkG V sz (m+4) q3 with _ | ⟨B,q4⟩
  ·
   rw [h4] at h; cases h
  rw [h4] at h
  simp only [Option.bind_some] at h
  rcases h5:lnG V sz B (a+257+(c+1)) q4 [] with _ | ⟨A5,q5⟩
  ·
   rw [h5] at h; cases h
  rw [h5] at h
  simp only [Option.bind_some] at h
  have b1:=rdN_bd h1
  have b2:=rdN_bd h2
  have b3:=rdN_bd h3
  have b4:=lenBkG_bd h4 b3.1
  have b5:=lnG_bd h5 b4.1
  split at h
  ·
   rename_i hk
   simp only [Option.some.injEq,Prod.mk.injEq] at h
   obtain ⟨rfl,rfl,rfl⟩:=h
   exact ⟨b5.1,by omega,hk.1,hk.2⟩
  ·
   cases h
 ·
  cases h
theorem lensG_at {V sz p X1 X2 X3:Nat} {l:List Int} (hp:p≤sz) (h1:V/2 ^ p%2 ^ 5=X1) (h2:V/2 ^ (p+5)%2 ^ 5=X2) (h3:V/2 ^ (p+5+5)%2 ^ 4=X3) (hl:lbV V (ordL.take (X3+4)) (p+5+5+4) (List.replicate 19 0)=l) :
  lensG V sz p=if p+5+5+4+3*(X3+4)≤sz∧lensOk l=true∧X1+257≤286∧X2+1≤30 then (lnG V sz l (X1+257+(X2+1)) (p+5+5+4+3*(X3+4)) []).bind fun A=>
   if lensOk (A.1.take (X1+257))=true∧lensOk (A.1.drop (X1+257))=true then some (X1+257,A.1,A.2) else none else none:=by
 have hlen:(ordL.take (X3+4)).length=X3+4:=by rw [List.length_take]; have:ordL.length=19:=rfl; omega
 unfold lensG
 by_cases c1:p+5≤sz
 ·
  rw [rdN_yes c1]
  simp only [Option.bind_some]
  rw [h1]
  by_cases c2:p+5+5≤sz
  ·
   rw [rdN_yes c2]
   simp only [Option.bind_some]
   rw [h2]
   by_cases cc:X1+257≤286∧X2+1≤30
   ·
    rw [if_pos cc]
    by_cases c3:p+5+5+4≤sz
    ·
     rw [rdN_yes c3]
     simp only [Option.bind_some]
     rw [h3]
     unfold lenBkG
     rw [lbG_V _ _ _ c3,hlen,hl]
     by_cases c4:p+5+5+4+3*(X3+4)≤sz
     ·
      rw [if_pos c4]
      simp only [Option.bind_some]
      by_cases c5:lensOk l=true
      ·
       rw [if_pos c5,if_pos ⟨c4,c5,cc⟩]; rfl
      ·
       rw [if_neg c5,if_neg (fun h=>c5 h.2.1)]; rfl
     ·
      rw [if_neg c4,if_neg (fun h=>c4 h.1)]; rfl
    ·
     rw [rdN_no c3,if_neg (by omega)]; rfl
   ·
    rw [if_neg cc,if_neg (fun h=>cc h.2.2)]
  ·
   rw [rdN_no c2,if_neg (by omega)]; rfl
 ·
  rw [rdN_no c1,if_neg (by omega)]; rfl
def LmP (w:World) (b p:Nat) (s:ByteArray) (e:Ending) (w':World):Prop:=
 KI b w.heap.size w w'∧∃ va vb q f,e = .returned (.tuple #[va,vb])∧RF w' b s q f∧(f=true→lensG (numB s) (8*s.size) p=none) ∧
  (f=false→∃ n m A al cl ad cd,va = .slice al n cl∧vb = .slice ad m cd∧lensG (numB s) (8*s.size) p=some (n,A,q)∧A.length=n+m∧JRow w' (b+1) al (A.take n)∧JRow w' (b+1) ad (A.drop n))
def LmI (b gL many P:Nat) (s:ByteArray) (lf:List Int) (w:World) (i:Value) (wr:World):Prop:=
 ∃ (k:Nat) (l:List Int),i = .int .i64 k∧k≤many∧Keep1 b w wr∧Rdr wr b s (P+3*k)∧IOwn wr gL (.slice (some ⟨gL,0,none⟩) 19 19) l∧l.length=19∧lbV (numB s) ((ordL.take many).drop k) (P+3*k) l=lf∧gL<wr.heap.size
def LaI (b B N:Nat) (s:ByteArray) (l:List Int) (d:Option (List Int×Nat)) (w:World) (v:Value) (x:World):Prop:=
 ∃ (A:List Int) (q:Nat) (f:Bool),NS w b B s x v A q f∧(f=false→A.length≤500∧q≤8*s.size∧lnG (numB s) (8*s.size) l N q A=d)∧(f=true→d=none)
theorem KI.ku {b:Nat} {w x:World} (h:KI b w.heap.size w x):KU b w x:=⟨h.1,fun j hj hne _=>h.2 j hj hne hj⟩
theorem KI.grow {b B:Nat} {w x y:World} (h:KI b B w x) (hb:Below x.heap.size x y) (hx:b≤x.heap.size):KI b B w y:=⟨h.1.trans (hb.mono hx),fun j h1 h2 h3=>(hb.block j (Nat.lt_of_lt_of_le h3 h.1.size)).trans (h.2 j h1 h2 h3)⟩
theorem KI.less {b B B':Nat} {w x:World} (h:KI b B w x) (hB:B'≤B):KI b B' w x:=⟨h.1,fun j h1 h2 h3=>h.2 j (Nat.lt_of_lt_of_le h1 hB) h2 h3⟩
theorem JRow.ki {w x:World} {b base:Nat} {a:Option Addr} {l:List Int} (h:JRow w base a l) (hk:KI b w.heap.size w x) (hb:b<base):JRow x base a l:=h.moved hk.1.size (fun g h1 hg _=>hk.2 g hg (by omega) hg)
theorem LmP.badEnd {w x:World} {b p q:Nat} {s:ByteArray} {f:Bool} {va vb:Value} {o1 o2:Obj} (hk:KI b w.heap.size w x) (hr:RF x b s q f) (hn:lensG (numB s) (8*s.size) p=none):LmP w b p s (.returned (.tuple #[va,vb])) (((x.setCell ⟨b,2,none⟩ (.bool true)).alloc o1).alloc o2):=by
 have h1:=hr.setBad
 have bb:Below (x.setCell ⟨b,2,none⟩ (.bool true)).heap.size (x.setCell ⟨b,2,none⟩ (.bool true)) (((x.setCell ⟨b,2,none⟩ (.bool true)).alloc o1).alloc o2):=((Below.refl _ _).alloc (Nat.le_refl _) _).alloc (by simp) _
 exact ⟨(hk.trans ((keep1_set0 _ _ _ _).ki _)).grow bb (Nat.le_of_lt h1.lt),va,vb,q,true,rfl,h1.kept (bb.mono h1.lt),fun _=>hn,nofun⟩
theorem lnG_past {V sz n p:Nat} {B A:List Int} (h:sz<p):lnG V sz B n p A=none:=by
 unfold lnG
 rw [show sz+1-p=0 by omega]
 rfl
set_option maxRecDepth 100000 in
set_option maxHeartbeats 6400000 in
theorem lensR_any (b p:Nat) (s:ByteArray) (w:World) (hr:Rdr w b s p) (hp:p≤8*s.size) (hs:s.size≤2000) :
  Calls Tryz.prog 237 #[.pointer (some ⟨b,0,none⟩)] w (LmP w b p s):=by
 have hmix:Tryz.prog.follows .mixedOrders=true:=by kernel_rfl
 obtain ⟨i0,hi,hz0,hz1,hz2⟩:=info_parts Tryz.infoInt
 have hlt:=hr.lt
 obtain ⟨X1,h1⟩:∃ X,numB s/2 ^ p%2 ^ 5=X:=⟨_,rfl⟩
 obtain ⟨X2,h2⟩:∃ X,numB s/2 ^ (p+5)%2 ^ 5=X:=⟨_,rfl⟩
 obtain ⟨X3,h3⟩:∃ X,numB s/2 ^ (p+5+5)%2 ^ 4=X:=⟨_,rfl⟩
 obtain ⟨lf,hlf⟩:∃ l,lbV (numB s) (ordL.take (X3+4)) (p+5+5+4) (List.replicate 19 0)=l:=⟨_,rfl⟩
 have HG:=hide (lensG_at hp h1 h2 h3 hlf)
 have N1:=hide (srcNum_any b p 5 s w hr (by omega) (by omega))
 have N2:=hide (fun W (h:Rdr W b s (p+5))=>srcNum_any b (p+5) 5 s W h (by omega) (by omega))
 have N3:=hide (fun W (h:Rdr W b s (p+5+5))=>srcNum_any b (p+5+5) 4 s W h (by omega) (by omega))
 rw [h1] at N1
 rw [h2] at N2
 rw [h3] at N3
 obtain ⟨NL,hNL⟩:∃ n,X1+257=n:=⟨_,rfl⟩
 obtain ⟨NB,hNB⟩:∃ n,X2+1=n:=⟨_,rfl⟩
 obtain ⟨many,hmany⟩:∃ n,X3+4=n:=⟨_,rfl⟩
 rw [hNL,hNB,hmany] at HG
 rw [hmany] at hlf
 have eL:(257:Int)+(X1:Int)=(NL:Int):=by omega
 have eB:(1:Int)+(X2:Int)=(NB:Int):=by omega
 have eM:(4:Int)+(X3:Int)=(many:Int):=by omega
 have bL:(NL:Int)≤288:=by omega
 have bB:(NB:Int)≤32:=by omega
 have bM:(many:Int)≤19:=by omega
 have HN:Hid (s.size≤2000∧many≤19∧b<w.heap.size∧NL≤288∧NB≤32):=⟨hs,by omega,hlt,by omega,by omega⟩
 generalize hP:p+5+5+4=P at *
 have HLF:=hide hlf
 clear h1 h2 h3 hNL hNB hmany hlf hr hp hs
 go_enter Tryz.func237,Tryz.ntmps237
 go_wp2_with fail
 refine (unhide N1).mono ?_
 rintro e x1 ⟨rfl,r1,k1⟩
 have HX1:=hide (And.intro r1 k1)
 clear r1 k1 N1
 go_wp2_with fail
 refine (unhide N2 x1 (unhide HX1).1).mono ?_
 rintro e x2 ⟨rfl,r2,k2⟩
 have HX2:=hide (And.intro r2 ((unhide HX1).2.trans k2))
 clear r2 k2 N2 HX1
 go_wp2_with fail
 refine (unhide N3 x2 (unhide HX2).1).mono ?_
 rintro e x3 ⟨rfl,r3,k3⟩
 have HX3:=hide (And.intro r3 ((unhide HX2).2.trans k3))
 have hg0:w.heap.size≤x3.heap.size:=(unhide HX3).2.1.size
 clear r3 k3 N3 HX2 hP
 go_wp2_with (at_make; refine wpList_make_full _ rfl _ _ 146 rfl x3.heap.size 3 i0 (.int .i64 0) 1 Tryz.underlying146 hi hz0 hz1 .i64 .i64 _ _ 19 rfl rfl rfl rfl (by rw [hz2]; omega) (by unfold maxLen; omega) (Nat.le_refl _) ?_; intro w1 hown hgrow)
 have hO1:IOwn w1 x3.heap.size (.slice (some ⟨x3.heap.size,0,none⟩) 19 19) (List.replicate 19 0):=made_ints hown
 have hb1:Below x3.heap.size x3 w1:=(Below.refl _ _).grown hgrow (Nat.le_refl _) (fun k h=>by cases h)
 have hlt3:b<x3.heap.size:=(unhide HX3).1.lt
 have hg1:x3.heap.size<w1.heap.size:=hO1.below.2
 generalize hgL:x3.heap.size=gL at *
 have HI:Hid (LmI b gL many P s lf w (.int .i64 (0:Nat)) w1):=⟨0,List.replicate 19 0,rfl,Nat.zero_le _,(unhide HX3).2.later (by rw [hgL]; exact hb1) (by rw [hgL]; exact hlt3),(unhide HX3).1.kept (hb1.mono hlt3),hO1,by simp,by rw [List.drop_zero]; exact unhide HLF,hg1⟩
 clear hown hgrow hi hz0 hz1 hz2 HX3 hO1 hb1 HLF hgL hg1
 go_wp2_with fail
 go_loopw [8] (fun i wr=>LmI b gL many P s lf w i wr) (fun i _=>many-(intOf i).toNat)
 case atStart=>exact unhide HI
 case round=>
  obtain ⟨k,l,rfl,hk,hkp,hr,ho,hl,hd,hsz⟩:=hrel
  clear HI
  by_cases hkm:k<many
  ·
   have hkI:(k:Int)<(many:Int):=by omega
   have hk19:k<19:=by have:=(unhide HN).2.1; omega
   have hol:=ord_lt k hk19
   rw [ord_drop hkm (unhide HN).2.1] at hd
   simp only [lbV] at hd
   have HOr:=hide (l5Order_at wr.drew)
   obtain ⟨y,hy⟩:∃ y,numB s/2 ^ (P+3*k)%2 ^ 3=y:=⟨_,rfl⟩
   have HM:=hide (fun W (h:Rdr W b s (P+3*k))=>srcNum_any b (P+3*k) 3 s W h (by have:=unhide HN; omega) (by omega))
   rw [hy] at HM hd
   have HX:=hide (And.intro hkp (And.intro hr (And.intro ho (And.intro hl hsz))))
   have HLD:=hide hd
   have HOG:Hid (ordI.getD k 0=(ordL.getD k 0:Nat)):=ordI_get k hk19
   have hgw:=hsz
   clear hkp hr ho hl hsz hk hd hy
   generalize ordL.getD k 0=o at *
   have hoI:(o:Int)<19:=by omega
   have hszd:wr.drew.heap.size=wr.heap.size:=rfl
   go_wp2_with fail
   refine wp_region_held_drew (S:=fun _=>True) hmix trivial (fun hS=>?_)
   refine wpAnyH_take (i:=0) (v:=.slice (some ⟨gL,0,none⟩) 19 19) rfl (by kernel_rfl) (by kernel_rfl) (by kernel_rfl) (fun _ _ _ h=>h) (Or.inl ⟨by rfl,fun W hSw=>by go_simp⟩) hS ?_
   refine wpAnyH_take (i:=2) (v:=.int .i64 (k:Nat)) rfl (by kernel_rfl) (by kernel_rfl) (by kernel_rfl) (fun _ _ _ h=>h) (Or.inl ⟨by rfl,fun W hSw=>by go_simp⟩) hS ?_
   refine wpAnyH_take (i:=5) (v:=.pointer (some ⟨b,0,none⟩)) rfl (by kernel_rfl) (by kernel_rfl) (by kernel_rfl) (fun _ _ _ h=>h) (Or.inl ⟨by rfl,fun W hSw=>by go_simp⟩) hS ?_
   refine wpAnyH_ready (rs:=[1]) (by kernel_rfl) (by simp) ?_
   refine AllReadyH.cons rfl (fun K hK=>?_) AllReadyH.nil
   go_simp
   go_at_call 256
   refine (unhide HOr).mono ?_
   rintro e x4 ⟨rfl,o4,b4⟩
   refine Shut.out hK _ _ trivial (fun _=>?_)
   clear hK K
   have hgo:wr.heap.size<x4.heap.size:=o4.below.2
   have b4':Below wr.heap.size wr x4:=(Below.refl wr.heap.size wr).drew.trans b4
   have k4:Keep1 b wr x4:=(Keep1.refl b wr).later b4' (unhide HX).2.1.lt
   obtain ⟨c4,_,_,_⟩:=o4.at ordI_len hk19
   rw [unhide HOG] at c4
   have HS4:Hid (∀ W,Keep1 b x4 W→W.cell? ⟨wr.heap.size,k,none⟩=some (.int .i64 (o:Nat))):=fun W h=>by
    have h1:=h.2 wr.heap.size hgo (by have:=(unhide HX).2.1.lt; omega)
    rw [World.cell?_of_block (w:=x4) h1 (a:=⟨wr.heap.size,k,none⟩)]
    exact c4
   have HX4:Hid (Keep1 b w x4∧Rdr x4 b s (P+3*k)∧IOwn x4 gL (.slice (some ⟨gL,0,none⟩) 19 19) l∧gL<x4.heap.size∧l.length=19):=⟨(unhide HX).1.trans k4,(unhide HX).2.1.kept (b4'.mono (unhide HX).2.1.lt),(unhide HX).2.2.1.later b4' (Nat.le_refl _),by have:=(unhide HX).2.2.2.2; omega,(unhide HX).2.2.2.1⟩
   clear HX HOr o4 b4 b4' k4 hgo
   refine wpAnyH_weaken (S':=fun W=>W.cell? ⟨wr.heap.size,k,none⟩=some (.int .i64 (o:Nat))) (fun _ _=>trivial) _ _ _ _ ?_
   have hS1:x4.cell? ⟨wr.heap.size,k,none⟩=some (.int .i64 (o:Nat)):=c4
   refine wpAnyH_take (i:=3) (v:=.pointer (some ⟨wr.heap.size,k,none⟩)) rfl (by kernel_rfl) (by kernel_rfl) (by kernel_rfl) (fun _ _ _ h=>h) (Or.inl ⟨by rfl,fun W hSw=>by go_simp <;> (intro h; omega)⟩) hS1 ?_
   refine wpAnyH_take (i:=4) (v:=.int .i64 (o:Nat)) rfl (by kernel_rfl) (by kernel_rfl) (by kernel_rfl) (fun _ _ _ h=>h) (Or.inl ⟨by rfl,fun W hSw=>by go_simp⟩) hS1 ?_
   refine wpAnyH_ready (rs:=[6]) (by kernel_rfl) (by simp) ?_
   refine AllReadyH.cons rfl (fun K hK=>?_) AllReadyH.nil
   go_simp
   go_at_call 232
   refine (unhide HM x4 (unhide HX4).2.1).mono ?_
   rintro e x5 ⟨rfl,r5,k5⟩
   refine Shut.out hK _ _ (unhide HS4 _ k5) (fun hS2=>?_)
   clear hK K
   have hne:gL≠b:=by omega
   have o5:=(unhide HX4).2.2.1.keep1' k5 (by omega)
   obtain ⟨c5,f5,_,_⟩:=o5.at (unhide HX4).2.2.2.2 hol
   refine wpAnyH_take (i:=7) (v:=.pointer (some ⟨gL,o,none⟩)) rfl (by kernel_rfl) (by kernel_rfl) (by kernel_rfl) (fun _ _ _ h=>h) (Or.inl ⟨by rfl,fun W hSw=>by go_simp <;> (intro h; omega)⟩) hS2 ?_
   refine wpAnyH_ready (rs:=[8]) (by kernel_rfl) (by simp) ?_
   refine AllReadyH.cons rfl (fun K hK=>?_) AllReadyH.nil
   go_simp
   have HI:Hid (LmI b gL many P s lf w (.int .i64 (k+1:Nat)) (x5.setCell ⟨gL,o,none⟩ (.int .i64 (y:Nat)))):=by
    refine ⟨k+1,l.set o (y:Nat),rfl,hkm,((unhide HX4).1.trans k5).set hg0 (unhide HN).2.2.1 _,?_,o5.put (unhide HX4).2.2.2.2 _,by rw [List.length_set]; exact (unhide HX4).2.2.2.2,by rw [show P+3*(k+1)=P+3*k+3 by omega]; exact unhide HLD,?_⟩
    ·
     rw [show P+3*(k+1)=P+3*k+3 by omega]
     exact r5.set hne _
    ·
     have:=k5.1.size; have:=(unhide HX4).2.2.2.1; simp; omega
   have hS3:(x5.setCell ⟨gL,o,none⟩ (.int .i64 (y:Nat))).cell? ⟨wr.heap.size,k,none⟩=some (.int .i64 (o:Nat)):=by
    rw [World.cell?_setCell_other _ _ _ _ (by simp only [ne_eq,Addr.mk.injEq]; omega)]
    exact hS2
   refine Shut.out hK _ _ hS3 (fun _=>?_)
   clear hK K
   refine wpAnyH_done (by kernel_rfl) ?_ _
   clear hS1 hS2 hS3 k5 r5 o5 HS4 HM HX4 c4 c5 f5
   generalize x5.setCell ⟨gL,o,none⟩ (.int .i64 (y:Nat))=x6 at *
   go_wp2_with fail
   go_roundw
   case rel=>exact unhide HI
   case measure=>simp [intOf]; omega
  ·
   have hkI:¬ (k:Int)<(many:Int):=by omega
   have hkk:k=many:=by omega
   subst hkk
   have e0:(ordL.take k).drop k=[]:=List.drop_eq_nil_of_le (by rw [List.length_take]; omega)
   rw [e0] at hd
   simp only [lbV] at hd
   subst hd
   have HL:=hide (specLensOk_any (some ⟨gL,0,none⟩) 19 19 l wr hl (ho.rowN hl) (by omega))
   have HC:=hide (l3Codes_any (some ⟨gL,0,none⟩) 19 19 l wr hl (ho.rowN hl) (by omega))
   have JL:=hide ((own_jrow hl (ho.own hl)).mono (b':=b+1) (by omega))
   have HX:=hide (And.intro hkp (And.intro hr hl))
   clear hkp hr hl ho hk e0 hkm
   by_cases hok:lensOk l=true∧NL≤286∧NB≤30
   ·
    obtain ⟨ok1,ok2,ok3⟩:=hok
    rw [ok1] at HL
    have HOK:=hide ok1
    obtain ⟨d,hd⟩:∃ d,lnG (numB s) (8*s.size) l (NL+NB) (P+3*k) []=d:=⟨_,rfl⟩
    have HG2:Hid (lensG (numB s) (8*s.size) p=d.bind fun A=>if lensOk (A.1.take NL)=true∧lensOk (A.1.drop NL)=true then some (NL,A.1,A.2) else none):=by
     show _=_
     rw [unhide HG,hd]
     by_cases hQ:P+3*k≤8*s.size
     ·
      rw [if_pos ⟨hQ,ok1,ok2,ok3⟩]
     ·
      rw [if_neg (fun h=>hQ h.1),←hd,lnG_past (by omega)]
      rfl
    have HD:=hide hd
    have hL2:¬ (286:Int)<(NL:Int):=by omega
    have hB2:¬ (30:Int)<(NB:Int):=by omega
    have HK:=hide (And.intro ok2 ok3)
    clear ok1 ok2 ok3 hd HG
    go_wp2_with fail
    refine (unhide HL).mono ?_
    rintro e x4 ⟨rfl,rfl⟩
    clear HL
    go_wp2_with fail
    refine (unhide HC).mono ?_
    rintro e x5 ⟨rfl,o5,b5⟩
    have hl2:(outN l 15).2.length=19:=by rw [outN_len]; exact (unhide HX).2.2
    have hlt4:b<x4.heap.size:=(unhide HX).2.1.lt
    have J5:=hide (And.intro ((unhide JL).later b5) ((own_jrow hl2 (o5.own hl2)).mono (b':=b+1) hlt4))
    have K5:=hide ((unhide HX).1.later b5 hlt4)
    have R5:=hide (rdr_rf ((unhide HX).2.1.kept (b5.mono hlt4)))
    have hlt5:b<x5.heap.size:=(unhide R5).lt
    have hR0:World.ownsRow (x5.alloc (.cells #[] 3)) x5.heap.size 3 1 (.slice (some ⟨x5.heap.size,0,none⟩) 0 0) 0 []:=World.ownsRow_lit x5 #[] 0 (Nat.le_refl _) (by unfold maxLen; omega) rfl
    have hB0:Below x5.heap.size x5 (x5.alloc (.cells #[] 3)):=(Below.refl _ _).alloc (Nat.le_refl _) _
    have HI:Hid (LaI b x5.heap.size (NL+NB) s l d x5 (.slice (some ⟨x5.heap.size,0,none⟩) 0 0) (x5.alloc (.cells #[] 3))):=by
     refine ⟨[],P+3*k,_,⟨(KI.refl _ _ _).grow hB0 (Nat.le_of_lt hlt5),hR0,(unhide R5).kept (hB0.mono hlt5),hB0.size⟩,fun h=>⟨by simp,by simpa using h,unhide HD⟩,fun h=>?_⟩
     rw [←unhide HD,lnG_past (by simpa using h)]
    generalize hgC:x4.heap.size=gC at *
    have Hl:=hide (unhide HX).2.2
    clear o5 b5 HC JL HX R5 hR0 hB0 HD hl2 hgC
    go_wp2_with fail
    generalize x5.alloc (.cells #[] 3)=x6 at *
    obtain ⟨N,hN⟩:∃ N,NL+NB=N:=⟨_,rfl⟩
    rw [hN] at HI
    have eN:(NL:Int)+(NB:Int)=(N:Int):=by omega
    have bN:(N:Int)≤316:=by have:=unhide HK; omega
    go_loopw [10] (fun v wr=>LaI b x5.heap.size N s l d x5 v wr) (fun _ wr=>farN b (8*s.size) wr)
    case atStart=>exact unhide HI
    case round=>
     obtain ⟨A,q,f,hns,hfF,hfT⟩:=hrel
     clear HI
     obtain ⟨m,hm⟩:∃ m,A.length=m:=⟨_,rfl⟩
     obtain ⟨va,vc,rfl⟩:=hns.2.1.formN hm
     obtain ⟨c2,f2⟩:=hns.2.2.1.bad
     have hltb:=hns.2.2.1.lt
     have Hm:=hide hm
     have HNS:=hide hns
     have HF:=hide (And.intro hfF hfT)
     have HFar:=hide hns.2.2.1.far
     have HKI:Hid (KI b w.heap.size w _):=((unhide K5).ki _).trans (hns.1.less (unhide K5).1.size)
     have HJ:=hide (And.intro ((unhide J5).1.ki hns.1 (Nat.lt_succ_self _)) ((unhide J5).2.ki hns.1 (Nat.lt_succ_self _)))
     clear hm hns hfF hfT
     cases f
     ·
      obtain ⟨hA5,hq,hdd⟩:=(unhide HF).1 rfl
      rw [unhide Hm] at hA5
      by_cases hmN:m<N
      ·
       have hmNI:(m:Int)<(N:Int):=by omega
       rw [lnG_less hq (by rw [unhide Hm]; exact hmN)] at hdd
       have HSy:=hide (symbol_at (some ⟨gL,0,none⟩) (some ⟨gC,0,none⟩) 19 19 19 b q l s wr (unhide Hl) (unhide HOK) (by have:=unhide HN; omega) (rf_rdr (unhide HNS).2.2.1 hq) hq (fun W h=>((unhide HJ).1.keep1 h (Nat.lt_succ_self _)).1) (fun W h=>((unhide HJ).2.keep1 h (Nat.lt_succ_self _)).1))
       unfold SymAt at HSy
       have Hq:=hide hq
       clear hq
       rcases h1:dec l (numB s) (8*s.size) q with _ | ⟨kk,q1⟩
       ·
        rw [h1] at HSy hdd
        have Hn:Hid (d=none):=hdd.symm
        clear h1 hdd
        go_wp2_with fail
        refine (unhide HSy).mono ?_
        rintro e x7 ⟨k7,xx,qq,rfl,r7⟩
        have HM7:=hide (many_any b x5.heap.size qq m vc va s A xx true x7 (unhide Hm) (by omega) ((unhide HNS).keep1 hlt5 k7 r7 |> fun h=>⟨KI.refl _ _ _,h.2.1,h.2.2.1,h.2.2.2⟩) hlt5 nofun (unhide HN).1)
        have HK7:=hide ((unhide HNS).1.trans (k7.ki _))
        clear HSy k7 r7 c2 f2
        go_wp2_with fail
        refine (unhide HM7).mono ?_
        rintro e x8 ⟨v8,A8,q8,f8,rfl,n8,t8,_⟩
        have ht:f8=true:=t8 rfl
        subst ht
        have HI:Hid (LaI b x5.heap.size N s l d x5 v8 x8):=⟨A8,q8,true,⟨(unhide HK7).trans n8.1,n8.2.1,n8.2.2.1,n8.2.2.2⟩,nofun,fun _=>unhide Hn⟩
        have HF8:Hid (farN b (8*s.size) x8<farN b (8*s.size) wr):=by
         show _<_
         rw [n8.2.2.1.far,unhide HFar]
         simp only [if_true,Bool.false_eq_true,if_false]
         omega
        clear n8 t8 HM7 HK7
        go_wp2_with fail
        go_roundw
        case rel=>exact unhide HI
        case measure=>exact unhide HF8
       ·
        rw [h1] at HSy hdd
        have hb1:=dec_bd h1
        have Hb1:=hide (And.intro hb1.1 hb1.2.1)
        have HE:=hide hdd
        clear h1 hdd hb1
        go_wp2_with fail
        refine (unhide HSy).mono ?_
        rintro e x7 ⟨k7,rfl,r7⟩
        have r7':RF x7 b s q1 false:=by have:=rdr_rf r7; rwa [decide_eq_false (by have:=unhide Hb1; omega)] at this
        have HM7:=hide (many_any b x5.heap.size q1 m vc va s A kk false x7 (unhide Hm) (by omega) ((unhide HNS).keep1 hlt5 k7 r7' |> fun h=>⟨KI.refl _ _ _,h.2.1,h.2.2.1,h.2.2.2⟩) hlt5 (fun _=>(unhide Hb1).1) (unhide HN).1)
        have HK7:=hide ((unhide HNS).1.trans (k7.ki _))
        clear HSy k7 r7 r7' c2 f2
        go_wp2_with fail
        refine (unhide HM7).mono ?_
        rintro e x8 ⟨v8,A8,q8,f8,rfl,n8,_,t8⟩
        have t8':=t8 rfl
        have hE:=unhide HE
        simp only [Option.bind_some] at hE
        rw [t8'] at hE
        have HI:Hid (LaI b x5.heap.size N s l d x5 v8 x8):=by
         refine ⟨A8,q8,f8,⟨(unhide HK7).trans n8.1,n8.2.1,n8.2.2.1,n8.2.2.2⟩,fun h=>?_,fun h=>?_⟩
         ·
          rw [h] at hE t8'
          have:=addLn_bd t8' (unhide Hb1).1
          rw [unhide Hm] at this
          exact ⟨by omega,this.1,hE⟩
         ·
          rw [h] at hE
          exact hE.symm
        have HF8:Hid (farN b (8*s.size) x8<farN b (8*s.size) wr):=by
         show _<_
         rw [n8.2.2.1.far,unhide HFar]
         have:=unhide Hb1; have:=unhide Hq
         cases f8
         ·
          have:=addLn_bd t8' (unhide Hb1).1
          simp only [Bool.false_eq_true,if_false]
          omega
         ·
          simp only [if_true,Bool.false_eq_true,if_false]
          omega
        clear n8 t8 t8' hE HM7 HK7
        go_wp2_with fail
        go_roundw
        case rel=>exact unhide HI
        case measure=>exact unhide HF8
      ·
       have hmNI:¬ (m:Int)<(N:Int):=by omega
       rw [lnG_same hq (by rw [unhide Hm]; exact hmN),unhide Hm] at hdd
       by_cases hmE:m=N
       ·
        subst hmE
        rw [if_pos rfl] at hdd
        have HE:=hide hdd
        clear hdd hmN
        obtain ⟨g,rfl⟩:=(unhide HNS).2.1.somes (by rw [unhide Hm]; omega)
        have hcap:m≤vc:=by
         rcases ((unhide HNS).2.1.own (unhide Hm)).2 with ⟨e,_⟩ | ⟨g',cap',cur,e,_,_,h1,_⟩
         ·
          cases e
         ·
          simp only [Value.slice.injEq] at e; omega
        have tl:(A.take NL).length=NL:=by rw [List.length_take,unhide Hm]; omega
        have dl:(A.drop NL).length=m-NL:=by rw [List.length_drop,unhide Hm]
        have JA:=hide ((own_jrow (unhide Hm) ((unhide HNS).2.1.own (unhide Hm))).mono (b':=b+1) hlt5)
        have JD:=hide ((unhide JA).drop NL)
        rw [Nat.zero_add] at JD
        have HL1:=hide (specLensOk_any (some ⟨g,0,none⟩) vc NL (A.take NL) wr tl ((unhide JA).take NL).1 (by omega))
        have HL2:=hide (specLensOk_any (some ⟨g,NL,none⟩) (vc-NL) (m-NL) (A.drop NL) wr dl (unhide JD).1 (by omega))
        have hNLm:(NL:Int)≤(m:Int):=by omega
        clear tl dl
        cases k1:lensOk (A.take NL)
        ·
         have Hn:Hid (lensG (numB s) (8*s.size) p=none):=by show _=_; rw [unhide HG2,←unhide HE]; simp only [Option.bind_some]; rw [if_neg (fun h=>by rw [k1] at h; cases h.1)]
         rw [k1] at HL1
         clear k1
         go_wp2_with fail
         refine (unhide HL1).mono ?_
         rintro e x7 ⟨rfl,rfl⟩
         clear HL1
         go_wp2
         go_ret2
         exact LmP.badEnd (unhide HKI) (unhide HNS).2.2.1 (unhide Hn)
        ·
         rw [k1] at HL1
         cases k2:lensOk (A.drop NL)
         ·
          have Hn:Hid (lensG (numB s) (8*s.size) p=none):=by show _=_; rw [unhide HG2,←unhide HE]; simp only [Option.bind_some]; rw [if_neg (fun h=>by rw [k2] at h; cases h.2)]
          rw [k2] at HL2
          clear k1 k2
          go_wp2_with fail
          refine (unhide HL1).mono ?_
          rintro e x7 ⟨rfl,rfl⟩
          clear HL1
          go_wp2_with fail
          refine (unhide HL2).mono ?_
          rintro e x8 ⟨rfl,rfl⟩
          clear HL2
          go_wp2
          go_ret2
          exact LmP.badEnd (unhide HKI) (unhide HNS).2.2.1 (unhide Hn)
         ·
          have Hn:Hid (lensG (numB s) (8*s.size) p=some (NL,A,q)):=by show _=_; rw [unhide HG2,←unhide HE]; simp only [Option.bind_some]; rw [if_pos ⟨k1,k2⟩]
          rw [k2] at HL2
          clear k1 k2
          go_wp2_with fail
          refine (unhide HL1).mono ?_
          rintro e x7 ⟨rfl,rfl⟩
          clear HL1
          go_wp2_with fail
          refine (unhide HL2).mono ?_
          rintro e x8 ⟨rfl,rfl⟩
          clear HL2
          go_wp2_with fail
          go_quiet (fail)
          go_wp2
          go_ret2
          have bb:Below x8.heap.size x8 (x8.drewN nq):=below_drewN (Below.refl _ _) nq
          exact ⟨(unhide HKI).grow bb (Nat.le_of_lt hltb),_,_,q,false,rfl,(unhide HNS).2.2.1.kept (bb.mono hltb),nofun,fun _=>⟨NL,m-NL,A,_,_,_,_,rfl,rfl,unhide Hn,by rw [unhide Hm]; omega,((unhide JA).take NL).later bb,(unhide JD).later bb⟩⟩
       ·
        rw [if_neg hmE] at hdd
        have hmEI:¬ (m:Int)=(N:Int):=by omega
        have Hn:Hid (lensG (numB s) (8*s.size) p=none):=by show _=_; rw [unhide HG2,←hdd]; rfl
        clear hdd
        go_wp2
        go_ret2
        exact LmP.badEnd (unhide HKI) (unhide HNS).2.2.1 (unhide Hn)
     ·
      have Hn:Hid (lensG (numB s) (8*s.size) p=none):=by show _=_; rw [unhide HG2,(unhide HF).2 rfl]; rfl
      by_cases hmN:m<N
      ·
       have hmNI:(m:Int)<(N:Int):=by omega
       go_wp2
       go_ret2
       exact LmP.badEnd (unhide HKI) (unhide HNS).2.2.1 (unhide Hn)
      ·
       have hmNI:¬ (m:Int)<(N:Int):=by omega
       go_wp2
       go_ret2
       exact LmP.badEnd (unhide HKI) (unhide HNS).2.2.1 (unhide Hn)
   ·
    have Hn:Hid (lensG (numB s) (8*s.size) p=none):=by show _=_; rw [unhide HG,if_neg (fun h=>hok h.2)]
    have hc2:wr.cell? ⟨b,2,none⟩=some (.bool (decide (8*s.size<P+3*k)))∧wr.frozen? ⟨b,2,none⟩=false:=(rdr_rf (unhide HX).2.1).bad
    have hltb:=(unhide HX).2.1.lt
    obtain ⟨c2,f2⟩:=hc2
    cases hk1:lensOk l
    ·
     rw [hk1] at HL
     clear hk1 hok
     go_wp2_with fail
     refine (unhide HL).mono ?_
     rintro e x4 ⟨rfl,rfl⟩
     clear HL
     go_wp2
     go_ret2
     exact LmP.badEnd ((unhide HX).1.ki _) (rdr_rf (unhide HX).2.1) (unhide Hn)
    ·
     rw [hk1] at HL
     by_cases hk2:NL≤286
     ·
      have hk3:¬ NB≤30:=fun h=>hok ⟨hk1,hk2,h⟩
      have hL2:¬ (286:Int)<(NL:Int):=by omega
      have hB2:(30:Int)<(NB:Int):=by omega
      clear hk1 hok hk2 hk3
      go_wp2_with fail
      refine (unhide HL).mono ?_
      rintro e x4 ⟨rfl,rfl⟩
      clear HL
      go_wp2
      go_ret2
      exact LmP.badEnd ((unhide HX).1.ki _) (rdr_rf (unhide HX).2.1) (unhide Hn)
     ·
      have hL2:(286:Int)<(NL:Int):=by omega
      clear hk1 hok hk2
      go_wp2_with fail
      refine (unhide HL).mono ?_
      rintro e x4 ⟨rfl,rfl⟩
      clear HL
      go_wp2
      go_ret2
      exact LmP.badEnd ((unhide HX).1.ki _) (rdr_rf (unhide HX).2.1) (unhide Hn)
set_option maxRecDepth 100000 in
set_option maxHeartbeats 1600000 in
theorem storedB_any (b p n cap:Nat) (a:Option Addr) (s:ByteArray) (T:List UInt8) (d:Option (List UInt8×Nat)) (w:World) (ho:BOwn w (b+1) (.slice a n cap) T) (hr:RF w b s p true) (hs:s.size≤2000) (hd:T.length≤300→d=none) (P:Nat) :
  Calls Tryz.prog 233 #[.pointer (some ⟨b,0,none⟩),.slice a n cap] w (MP w b P s T d):=by
 obtain ⟨p,hp,hr⟩:=hr.cut
 have HS0:Hid (MS w b s w (.slice a n cap) T p true):=⟨KU.refl _ _,ho,hr⟩
 have HW:=hide (whole_rf b p true s w hr hp (by omega))
 have HN:=hide hs
 have Hd:=hide hd
 clear ho hr hs hp hd
 go_enter Tryz.func233,Tryz.ntmps233
 by_cases hc1:numB s/2 ^ p%2 ^ ((8-p%8)%8)=0
 case' pos=>
  rw [decide_eq_true hc1] at HW
  clear hc1
  go_wp2_with fail
  refine (unhide HW).mono ?_
  rintro e x1 ⟨rfl,r1,k1⟩
  have HS1:=hide ((unhide HS0).keep1 k1 r1)
  clear k1 r1 HW HS0
 case' neg=>
  rw [decide_eq_false hc1] at HW
  clear hc1
  go_wp2_with fail
  refine (unhide HW).mono ?_
  rintro e x0 ⟨rfl,r1,k1⟩
  have HS0':=hide ((unhide HS0).keep1 k1 r1)
  obtain ⟨c0,f0⟩:=r1.bad
  clear k1 r1 HW HS0
  have HS1:=hide (unhide HS0').setBad
  go_wp2_with fail
  generalize x0.setCell ⟨b,2,none⟩ (.bool true)=x1 at *
  clear HS0' c0 f0
 all_goals
  obtain ⟨Q1,hQ1⟩:∃ Q,p+(8-p%8)%8=Q:=⟨_,rfl⟩
  rw [hQ1] at HS1
  have HM:=hide (num_rf b Q1 16 true s _ (unhide HS1).2.2 nofun (by have:=unhide HN; omega) (by omega))
  rw [Bool.true_or] at HM
  go_wp2_with fail
  refine (unhide HM).mono ?_
  rintro e x2 ⟨rfl,r2,k2⟩
  have HS2:=hide ((unhide HS1).keep1 k2 r2)
  clear k2 r2 HM HS1
  have HM:=hide (num_rf b (Q1+16) 16 true s x2 (unhide HS2).2.2 nofun (by have:=unhide HN; omega) (by omega))
  obtain ⟨X,hX⟩:∃ X,numB s/2 ^ Q1%2 ^ 16=X:=⟨_,rfl⟩
  obtain ⟨Y,hY⟩:∃ Y,numB s/2 ^ (Q1+16)%2 ^ 16=Y:=⟨_,rfl⟩
  have hXI:(X:Int)≤65535:=by
   have:numB s/2 ^ Q1%2 ^ 16<65536:=Nat.mod_lt _ (by decide)
   omega
  rw [Bool.true_or,hY] at HM
  rw [hX]
  clear hX hY
  go_wp2_with fail
  refine (unhide HM).mono ?_
  rintro e x3 ⟨rfl,r3,k3⟩
  have HS3:=hide ((unhide HS2).keep1 k3 r3)
  clear k3 r3 HM HS2
  obtain ⟨c3,f3⟩:=(unhide HS3).2.2.bad
  by_cases hYX:Y=65535-X
  case' neg=>
   have g1:¬ (Y:Int)=65535-(X:Int):=by omega
   have HSx:=hide (unhide HS3).setBad
   clear hYX
   go_wp2_with fail
   generalize x3.setCell ⟨b,2,none⟩ (.bool true)=XW at *
  case' pos=>
   have g1:(Y:Int)=65535-(X:Int):=by omega
   clear hYX
   rcases (by omega:(300:Int)<(X:Int)∨¬ (300:Int)<(X:Int)) with gI | gI
   case' inl=>
    have HSx:=hide (unhide HS3).setBad
    go_wp2_with fail
    generalize x3.setCell ⟨b,2,none⟩ (.bool true)=XW at *
   case' inr=>
    have HSx:=HS3
    go_wp2_with fail
    generalize x3=XW at *
  all_goals
   have c4:=(unhide HSx).2.2.bad.1
   go_loopw [1,6] (fun v i wr=>v = .slice a n cap∧i = .int .i64 0∧wr=XW) (fun _ _ _=>0)
   case atStart=>exact ⟨rfl,rfl,rfl⟩
   case round=>
    obtain ⟨rfl,rfl,rfl⟩:=hrel
    by_cases h0:0<X
    all_goals
     go_wp2
     go_ret
     exact (unhide HSx).end (MR.bad (unhide Hd))
set_option maxRecDepth 100000 in
set_option maxHeartbeats 1600000 in
theorem tokensB_any (b p P n cap nL capL nD capD:Nat) (a al ad:Option Addr) (s:ByteArray) (T:List UInt8) (L D:List Int) (d:Option (List UInt8×Nat)) (w:World) (ho:BOwn w (b+1) (.slice a n cap) T) (hr:RF w b s p true) (hd:T.length≤300→d=none)
  (hL:L.length=nL) (hD:D.length=nD) (okL:lensOk L=true) (okD:lensOk D=true) (jL:JRow w (b+1) al L) (jD:JRow w (b+1) ad D) :
  Calls Tryz.prog 234 #[.pointer (some ⟨b,0,none⟩),.slice a n cap,.slice al nL capL,.slice ad nD capD] w (MP w b P s T d):=by
 have hlt:=hr.lt
 have lL:=lensOk_len okL
 have lD:=lensOk_len okD
 have HS0:Hid (MS w b s w (.slice a n cap) T p true):=⟨KU.refl _ _,ho,hr⟩
 have C1:=hide (l3Codes_any al capL nL L w hL jL.1 (by omega))
 have C2:=hide (fun W (hW:Below w.heap.size w W)=>l3Codes_any ad capD nD D W hD (jD.later hW).1 (by omega))
 have Hd:=hide hd
 clear ho hr hL hD okL okD jL jD hd
 go_enter Tryz.func234,Tryz.ntmps234
 go_wp2_with fail
 refine (unhide C1).mono ?_
 rintro e x1 ⟨rfl,o1,b1⟩
 have HB1:=hide b1
 clear o1 b1 C1
 go_wp2_with fail
 refine (unhide C2 x1 (unhide HB1)).mono ?_
 rintro e x2 ⟨rfl,o2,b2⟩
 have hB:Below w.heap.size w x2:=(unhide HB1).trans (b2.mono (unhide HB1).size)
 have hS2:MS w b s x2 (.slice a n cap) T p true:=⟨(unhide HS0).1.later hB hlt,(unhide HS0).2.1.later hB (Nat.le_refl _),(unhide HS0).2.2.kept (hB.mono hlt)⟩
 have HS2:=hide hS2
 obtain ⟨c2,f2⟩:=hS2.2.2.bad
 have hltb:=hS2.lt
 clear o2 b2 C2 hB hS2 HS0 HB1
 go_wp2_with fail
 go_loopw [1,11] (fun v _ wr=>v = .slice a n cap∧wr=x2) (fun _ _ _=>0)
 case atStart=>exact ⟨rfl,rfl⟩
 case round=>
  obtain ⟨rfl,rfl⟩:=hrel
  go_wp2
  go_ret
  exact ((unhide HS2).setBad).end (MR.bad (unhide Hd))
def partD (V sz p:Nat) (T:List UInt8):Option (List UInt8×Nat):=(rdN V sz p 1).bind fun a=>(rdN V sz a.2 2).bind fun k=>kindG V sz k.1 k.2 T
theorem partD_yes {V sz p:Nat} {T:List UInt8} (h:p+1+2≤sz):partD V sz p T=kindG V sz (V/2 ^ (p+1)%2 ^ 2) (p+1+2) T:=by
 unfold partD
 rw [rdN_yes (by omega)]
 simp only [Option.bind_some]
 rw [rdN_yes h]
 rfl
theorem partD_no {V sz p:Nat} {T:List UInt8} (h:¬ p+1+2≤sz):partD V sz p T=none:=by
 unfold partD
 by_cases h1:p+1≤sz
 ·
  rw [rdN_yes h1]
  simp only [Option.bind_some]
  rw [rdN_no h]
  rfl
 ·
  rw [rdN_no h1]
  rfl
theorem kind_past {s:ByteArray} {p:Nat} (h:¬ p+1+2≤8*s.size):numB s/2 ^ (p+1)%2 ^ 2<2:=by
 have h1:=numB_past s (p+2) (by omega)
 rw [show p+2=p+1+1 by omega,Nat.pow_succ,←Nat.div_div_eq_div_mul] at h1
 generalize numB s/2 ^ (p+1)=x at *
 omega
theorem MR.from {sz p p' q:Nat} {T T':List UInt8} {d:Option (List UInt8×Nat)} {f:Bool} (h:MR sz p T d T' q f) (hp:p'≤p):MR sz p' T d T' q f:=⟨fun hf=>⟨(h.1 hf).1,Nat.le_trans hp (h.1 hf).2.1,(h.1 hf).2.2⟩,h.2⟩
def PmP (w:World) (b p:Nat) (s:ByteArray) (T:List UInt8) (l:Bool) (d:Option (List UInt8×Nat)) (e:Ending) (w':World):Prop:=
 KU b w w'∧∃ v T' q f,e = .returned (.tuple #[v,.bool l])∧BOwn w' (b+1) v T'∧RF w' b s q f∧MR (8*s.size) p T d T' q f
theorem MP.part {w x x':World} {b p p':Nat} {s:ByteArray} {T:List UInt8} {l:Bool} {d:Option (List UInt8×Nat)} {v:Value} (h:MP x b p s T d (.returned v) x') (hk:KU b w x) (hp:p'≤p):PmP w b p' s T l d (.returned (.tuple #[v,.bool l])) x':=by
 obtain ⟨h1,v',T',q,f,e,h2,h3,h4⟩:=h
 simp only [Ending.returned.injEq] at e
 subst e
 exact ⟨hk.trans h1,v,T',q,f,rfl,h2,h3,h4.from hp⟩
theorem storedX_any (b p n cap:Nat) (a:Option Addr) (s:ByteArray) (T:List UInt8) (d:Option (List UInt8×Nat)) (w:World) (hn:T.length=n) (ho:BOwn w (b+1) (.slice a n cap) T) (hr:Rdr w b s p) (hs:s.size≤2000) (hT:n≤300+p) (hd:d=if p≤8*s.size then storeG (numB s) (8*s.size) p T else none) :
  Calls Tryz.prog 233 #[.pointer (some ⟨b,0,none⟩),.slice a n cap] w (MP w b p s T d):=by
 by_cases hp:p≤8*s.size
 ·
  rw [hd,if_pos hp]
  exact stored_any b p n cap a s T w hn ho hr hp hs hT
 ·
  have h1:=rdr_rf hr
  rw [decide_eq_true (by omega)] at h1
  exact storedB_any b p n cap a s T d w ho h1 hs (fun _=>by rw [hd,if_neg hp]) p
theorem tokensX_any (b p n cap nL capL nD capD:Nat) (a al ad:Option Addr) (s:ByteArray) (T:List UInt8) (L D:List Int) (d:Option (List UInt8×Nat)) (w:World) (hn:T.length=n) (ho:BOwn w (b+1) (.slice a n cap) T) (hr:Rdr w b s p) (hs:s.size≤2000) (hT:n≤100000) (hd:d=if p≤8*s.size then tokG (numB s) (8*s.size) L D p T else none)
  (hL:L.length=nL) (hD:D.length=nD) (okL:lensOk L=true) (okD:lensOk D=true) (jL:JRow w (b+1) al L) (jD:JRow w (b+1) ad D) :
  Calls Tryz.prog 234 #[.pointer (some ⟨b,0,none⟩),.slice a n cap,.slice al nL capL,.slice ad nD capD] w (MP w b p s T d):=by
 by_cases hp:p≤8*s.size
 ·
  by_cases hT3:n≤300
  ·
   rw [hd,if_pos hp]
   exact tokensG_any b p n cap nL capL nD capD a al ad s T L D w hn ho hr hp hs hT3 hL hD okL okD jL jD
  ·
   exact tokensD_any b p n cap nL capL nD capD a al ad s T L D d w hn ho hr hp (by omega) hT hL hD okL okD jL jD
 ·
  have h1:=rdr_rf hr
  rw [decide_eq_true (by omega)] at h1
  exact tokensB_any b p p n cap nL capL nD capD a al ad s T L D d w ho h1 (fun _=>by rw [hd,if_neg hp]) hL hD okL okD jL jD
theorem BOwn.ki {w x:World} {b base:Nat} {v:Value} {T:List UInt8} (h:BOwn w base v T) (hk:KI b w.heap.size w x) (hb:b<base):BOwn x base v T:=by
 refine ⟨h.1,?_⟩
 rcases h.2 with hn | ⟨g,cap,cur,rfl,hbg,hgg,rest⟩
 ·
  exact .inl hn
 ·
  have hlt:=(Array.getElem?_eq_some_iff.1 hgg).1
  refine .inr ⟨g,cap,cur,rfl,hbg,?_,rest⟩
  rw [hk.2 g hlt (by omega) hlt]
  exact hgg
set_option maxRecDepth 100000 in
set_option maxHeartbeats 3200000 in
theorem partM_any (b p n cap:Nat) (a:Option Addr) (s:ByteArray) (T:List UInt8) (w:World) (hn:T.length=n) (ho:BOwn w (b+1) (.slice a n cap) T) (hr:Rdr w b s p) (hp:p≤8*s.size) (hs:s.size≤2000) (hT:n≤300+p) :
  Calls Tryz.prog 218 #[.pointer (some ⟨b,0,none⟩),.slice a n cap] w (PmP w b (p+1+2) s T (decide (((numB s/2 ^ p%2:Nat):Int)=1)) (partD (numB s) (8*s.size) p T)):=by
 obtain ⟨d,hd⟩:∃ d,partD (numB s) (8*s.size) p T=d:=⟨_,rfl⟩
 rw [hd]
 obtain ⟨X,hX⟩:∃ X,numB s/2 ^ p%2=X:=⟨_,rfl⟩
 obtain ⟨K,hK⟩:∃ K,numB s/2 ^ (p+1)%2 ^ 2=K:=⟨_,rfl⟩
 have hK4:K<4:=by rw [←hK]; exact Nat.mod_lt _ (by decide)
 have hDk:Hid (d=if p+1+2≤8*s.size then kindG (numB s) (8*s.size) K (p+1+2) T else none):=by
  show d=_
  rw [←hd]
  by_cases hc:p+1+2≤8*s.size
  ·
   rw [if_pos hc,partD_yes hc,hK]
  ·
   rw [if_neg hc,partD_no hc]
 have HKP:Hid (¬ p+1+2≤8*s.size→K<2):=fun h=>by rw [←hK]; exact kind_past h
 have N1:=hide (srcBit_any b p s w hr (by omega))
 have N2:=hide (fun W (h:Rdr W b s (p+1))=>srcNum_any b (p+1) 2 s W h (by omega) (by omega))
 rw [hX] at N1
 rw [hK] at N2
 rw [hX]
 have HN:Hid (T.length=n∧s.size≤2000∧n≤300+p∧p≤8*s.size):=⟨hn,hs,hT,hp⟩
 have HO:=hide ho
 have hnI:(n:Int)≤100000:=by omega
 clear hn ho hr hp hs hT hd hX hK
 go_enter Tryz.func218,Tryz.ntmps218
 go_wp2_with fail
 refine (unhide N1).mono ?_
 rintro e x1 ⟨rfl,r1,k1⟩
 have HX1:=hide (And.intro r1 k1)
 clear r1 k1 N1
 go_wp2_with fail
 refine (unhide N2 x1 (unhide HX1).1).mono ?_
 rintro e x2 ⟨rfl,r2,k2⟩
 have HX2:=hide (And.intro r2 ((unhide HX1).2.trans k2))
 have HO2:=hide ((unhide HO).keep1 (unhide HX2).2 (Nat.lt_succ_self _))
 clear r2 k2 N2 HX1 HO
 generalize hP:p+1+2=P at *
 have hlt2:=(unhide HX2).1.lt
 have hKc:K=0∨K=1∨K=2∨K=3:=by omega
 rcases hKc with rfl | rfl | rfl | rfl
 ·
  have HC:=hide (storedX_any b P n cap a s T d x2 (unhide HN).1 (unhide HO2) (unhide HX2).1 (unhide HN).2.1 (by have:=unhide HN; omega) (unhide hDk))
  go_wp2_with fail
  refine (unhide HC).mono ?_
  rintro e x3 hM
  obtain ⟨v,rfl⟩:∃ v,e = .returned v:=⟨_,hM.2.choose_spec.choose_spec.choose_spec.choose_spec.1⟩
  have HM:=hide hM
  clear hM HC
  go_wp2
  go_ret2
  exact (unhide HM).part (unhide HX2).2.ku (Nat.le_refl _)
 ·
  have C1:=hide (l5Fixed_any x2)
  go_wp2_with fail
  refine (unhide C1).mono ?_
  rintro e x3 ⟨v3,rfl,o3,b3⟩
  have l3:(fixL 288).length=288:=by kernel_rfl
  obtain ⟨a3,c3,rfl⟩:=o3.formN l3
  have J3:=hide ((own_jrow l3 (o3.own l3)).mono (b':=b+1) hlt2)
  have R3:=hide (And.intro ((unhide HX2).1.kept (b3.mono hlt2)) ((unhide HX2).2.later b3 hlt2))
  have O3:=hide ((unhide HO2).later b3 (Nat.le_refl _))
  have hlt3:=(unhide R3).1.lt
  have C2:=hide (l5Fives_any x3)
  clear C1 o3 b3 HX2 HO2 l3
  go_wp2_with fail
  refine (unhide C2).mono ?_
  rintro e x4 ⟨v4,rfl,o4,b4⟩
  have l4:(List.replicate 32 (5:Int)).length=32:=by simp
  obtain ⟨a4,c4,rfl⟩:=o4.formN l4
  have HC:=hide (tokensX_any b P n cap 288 c3 32 c4 a a3 a4 s T (fixL 288) (List.replicate 32 5) d x4 (unhide HN).1 ((unhide O3).later b4 (Nat.le_refl _)) ((unhide R3).1.kept (b4.mono hlt3)) (unhide HN).2.1 (by have:=unhide HN; omega) (unhide hDk) (by kernel_rfl) l4 fixL_ok fives_ok ((unhide J3).later b4) ((own_jrow l4 (o4.own l4)).mono (b':=b+1) hlt3))
  have HK4:=hide ((unhide R3).2.later b4 hlt3)
  clear C2 o4 b4 R3 O3 J3 l4
  go_wp2_with fail
  refine (unhide HC).mono ?_
  rintro e x5 hM
  obtain ⟨v,rfl⟩:∃ v,e = .returned v:=⟨_,hM.2.choose_spec.choose_spec.choose_spec.choose_spec.1⟩
  have HM:=hide hM
  clear hM HC
  go_wp2
  go_ret2
  exact (unhide HM).part (unhide HK4).ku (Nat.le_refl _)
 ·
  have hPs:P≤8*s.size:=by
   by_cases h:P≤8*s.size
   ·
    exact h
   ·
    have:=unhide HKP h; omega
  have C1:=hide (lensR_any b P s x2 (unhide HX2).1 hPs (unhide HN).2.1)
  have hDk2:Hid (d=(lensG (numB s) (8*s.size) P).bind fun x=>tokG (numB s) (8*s.size) (x.2.1.take x.1) (x.2.1.drop x.1) x.2.2 T):=by
   show d=_
   rw [unhide hDk,if_pos hPs,←ownG_lens]
   rfl
  clear hDk hPs
  go_wp2_with fail
  refine (unhide C1).mono ?_
  rintro e x3 ⟨k3,va,vb,q,f,rfl,r3,ht,hf⟩
  have O3:=hide ((unhide HO2).ki k3 (Nat.lt_succ_self _))
  have K3:=hide ((unhide HX2).2.ku.trans k3.ku)
  obtain ⟨c3,f3⟩:=r3.bad
  have hlt3:=r3.lt
  cases f
  ·
   obtain ⟨nL,nD,A,al,cl,ad,cd,rfl,rfl,hG,hA,jL,jD⟩:=hf rfl
   obtain ⟨g1,g2,g3,g4⟩:=lensG_bd hG
   have hdd:d=if q≤8*s.size then tokG (numB s) (8*s.size) (A.take nL) (A.drop nL) q T else none:=by rw [unhide hDk2,hG,if_pos g1]; rfl
   have HC:=hide (tokensX_any b q n cap nL cl nD cd a al ad s T (A.take nL) (A.drop nL) d x3 (unhide HN).1 (unhide O3) (rf_rdr r3 g1) (unhide HN).2.1 (by have:=unhide HN; omega) hdd (by rw [List.length_take]; omega) (by rw [List.length_drop]; omega) g3 g4 jL jD)
   have HPq:=hide g2
   clear C1 k3 r3 ht hf hG hA jL jD g1 g2 g3 g4 hdd
   go_wp2_with fail
   refine (unhide HC).mono ?_
   rintro e x5 hM
   obtain ⟨v,rfl⟩:∃ v,e = .returned v:=⟨_,hM.2.choose_spec.choose_spec.choose_spec.choose_spec.1⟩
   have HM:=hide hM
   clear hM HC
   go_wp2
   go_ret2
   exact (unhide HM).part (unhide K3) (unhide HPq)
  ·
   have Hn:Hid (d=none):=by show d=none; rw [unhide hDk2,ht rfl]; rfl
   have R3:=hide r3
   clear C1 k3 r3 ht hf
   go_wp2
   go_ret2
   exact ⟨unhide K3,_,T,q,true,rfl,unhide O3,unhide R3,MR.bad (fun _=>unhide Hn)⟩
 ·
  have Hn:Hid (d=none):=by
   show d=none
   rw [unhide hDk]
   split
   ·
    unfold kindG; rw [if_neg (by decide),if_neg (by decide),if_neg (by decide)]
   ·
    rfl
  have hS2:MS w b s x2 (.slice a n cap) T P (decide (8*s.size<P)):=⟨(unhide HX2).2.ku,unhide HO2,rdr_rf (unhide HX2).1⟩
  obtain ⟨c2,f2⟩:=hS2.2.2.bad
  have HS2:=hide hS2
  clear hS2
  go_wp2
  go_ret2
  exact ⟨(unhide HS2).setBad.1,_,T,P,true,rfl,(unhide HS2).setBad.2.1,(unhide HS2).setBad.2.2,MR.bad (fun _=>unhide Hn)⟩
end Go.Proofs.YtkdlcomfpffhhaaGreatDoor
