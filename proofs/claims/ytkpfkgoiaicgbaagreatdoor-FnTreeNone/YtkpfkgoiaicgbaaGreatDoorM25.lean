/- Of what the proof is made: 11 texts, one behind the other. -/
import Derived.Test.YtkpfkgoiaicgbaaGreatDoorM20
import Derived.Test.YtkpfkgoiaicgbaaGreatDoorM13
import Derived.Test.YtkpfkgoiaicgbaaGreatDoorM9
import Derived.Test.YtkpfkgoiaicgbaaGreatDoorM24
import Derived.Test.YtkpfkgoiaicgbaaGreatDoorM22
import Derived.Test.YtkpfkgoiaicgbaaGreatDoorM17
import Derived.Test.YtkpfkgoiaicgbaaGreatDoorFb2
import Derived.Test.YtkpfkgoiaicgbaaGreatDoorTi1
import Derived.Test.YtkpfkgoiaicgbaaGreatDoorM16
import Derived.Test.YtkpfkgoiaicgbaaGreatDoorM2
import Derived.Deep.RegionHeld3
import Derived.Test.YtkpfkgoiaicgbaaGreatDoorM5
import Derived.Deep.RegionLawGrows
import Derived.Test.YtkpfkgoiaicgbaaGreatDoorM11
set_option linter.unusedSimpArgs false
set_option linter.unusedVariables false
set_option maxHeartbeats 6400000
namespace Go.Proofs.YtkpfkgoiaicgbaaGreatDoor
open Go.RowKit Corb
def Mc(p:Nat×Nat)(l:List (Int×Int)):Nat×Nat:=gm p (nu l)
def pcM(l:List Int)(k:Nat):Int×Int:=((rv (l.getD k 0).toNat ((bB l 15).2.getD k 0).toNat:Nat),l.getD k 0)
theorem oG{l:List Int}{k:Nat}(h:0<=l.getD k 0/\l.getD k 0<=15):pOk (pcM l k).1 (pcM l k).2=true:=by
 refine aW.2 ⟨⟨h.1,by show l.getD k 0<=16;omega⟩,by show(0:Int)<=((_:Nat):Int);omega,?_⟩;show((rv (l.getD k 0).toNat ((bB l 15).2.getD k 0).toNat:Nat):Int)<((p2 (l.getD k 0).toNat:Nat):Int);have:=Lt (l.getD k 0).toNat ((bB l 15).2.getD k 0).toNat
 unfold p2;omega
end Go.Proofs.YtkpfkgoiaicgbaaGreatDoor
namespace Go.Proofs.YtkpfkgoiaicgbaaGreatDoor
open Go.RowKit Corb Bkx
set_option maxRecDepth 100000
set_option linter.unusedSimpArgs false
set_option linter.defProp false
theorem ax.drew{b:Nat}{w w':World}(h:ax b w w'):ax b w w'.drew:=⟨h.1.drew,h.2,h.3⟩
theorem dN.keep1{w w':World}{base b:Nat}{a:Option Addr}{l:List Int}(h:dN w base a l)(hk:ax b w w')(hb:b<base):dN w' base a l:=h.moved hk.1.size (fun g h1 hg _=>hk.2 g hg (by omega))
theorem bm.keep1{w w':World}{base b:Nat}{l:List Int}{C:Array Value}(h:bm w base l C)(hk:ax b w w')(hb:b<base):bm w' base l C:=by
 obtain⟨a,cap,ac,cc,q,sc,e,h1,h2,h3⟩:=h;exact⟨a,cap,ac,cc,q,sc,e,h1.keep1 hk hb,h2.keep1 hk hb,h3.keep1 hk hb⟩
def SyP(w:World)(b:Nat)(s:ByteArray)(d:Option (Int×Nat))(e:Ending)(w':World):Prop:=
 ax b w w'/\match d with
  | none=>e=iJ
  | some (i,q)=>e = .returned (.int .i64 i)/\Rdr w' b s q
def nW:Array Value:=#[Value.slice none 0 0,Value.slice none 0 0,Value.int .i64 0,Value.int .i64 0,Value.int .i64 0,Value.int .i64 0,Value.int .i64 0,Value.int .i64 0,Value.int .i64 0,Value.int .i64 0,Value.int .i64 0,Value.int .i64 0,Value.int .i64 0,Value.int .i64 0,Value.int .i64 0,Value.int .i64 0,Value.int .i64 0,Value.int .i64 0,Value.slice none 0 0]
theorem Tryz.infoLenB:(Tryz.prog.info? 265).map (·.size)=some 19:=by kernel_rfl
theorem Fu(B:BkI)(hI:Bks B)(b p base:Nat)(C:Array Value)(l:List Int)(s:ByteArray)(w:World)(hB:bm w base l C)(hbb:b<base)(hok:ap l=true)(hs:s.size<=2000000)(hr:Rdr w b s p)(hp:p<=8*s.size) :
  Calls Tryz.prog B.g #[.agg C,.pointer (some ⟨b,0,none⟩)] w (kS w b s (dec l (au s) (8*s.size) p)):=by
 obtain⟨a,cap,ac,cc,q,sc,e,h1,h2,h3⟩:=hB;exact Bkx.bookGet_any B hI a q cap l.length _ sc b p _ C l s w e hok rfl hs hr hp (fun W hW=>(h3.keep1 hW hbb).1)
theorem qp(B:BkI)(hI:Bks B)(b p base:Nat)(C:Array Value)(l:List Int)(s:ByteArray)(w:World)(hB:bm w base l C)(hbb:b<base)(hok:ap l=true)(hs:s.size<=2000000)(hr:Rdr w b s p)(hp:p<=8*s.size) :
  Calls Tryz.prog B.s #[.pointer (some ⟨b,0,none⟩),.agg C] w (SyP w b s (dec l (au s) (8*s.size) p)):=by
 have hmix:Tryz.prog.follows .mixedOrders=true:=by kernel_rfl
 have hbl:=hr.lt;have hA:Below w.heap.size w (w.alloc (.cells C B.T)):=(Below.refl _ _).alloc (Nat.le_refl _) _;have hK1:ax b w (w.alloc (.cells C B.T)).drew:=((ax.refl b w).alloc hbl _).drew;have hr1:Rdr (w.alloc (.cells C B.T)).drew b s p:=hr.alloc _;have hB1:bm (w.alloc (.cells C B.T)).drew base l C:=hB.later hA.drew;have hsz:=hB.size;have hi1:(Tryz.prog.info? B.T).map (·.size)=some C.size:=by rw[hsz];exact hI.info
 have hR0:(w.alloc (.cells C B.T)).rangeAt w.heap.size 0 C.toList:=by
  intro j v hv;rw[Nat.zero_add,bn (alloc_at w (.cells C B.T))];simpa using hv
 have HG:=af (Fu B hI b p base C l s _ hB1 hbb hok hs hr1 hp);have HK1:=af hK1;have hne:w.heap.size≠b:=by omega
 have HRK:Hid (∀W,ax b (w.alloc (.cells C B.T)).drew W->W.rangeAt w.heap.size 0 C.toList):=by
  intro W hW j v hv;rw[←hR0 j v hv];exact World.cell?_of_block (w:=w.alloc (.cells C B.T)) (hW.2 w.heap.size (by simp) hne)
 have hR1:(w.alloc (.cells C B.T)).drew.rangeAt w.heap.size 0 C.toList:=hR0;clear hB hok hs hr hp hA hK1 hr1 hB1 hsz hR0 hbb;obtain⟨ds,hUd,hdr⟩:=hI.und;rcases hI with rfl|rfl|rfl;all_goals
  simp only[bkL,bkD,bkN]at hi1 HG HK1 HRK hR1 hUd ⊢;generalize dec l (au s) (8*s.size) p=d at *
  unfold SyP;unfold kS at HG;rcases d with _|⟨i,q⟩;all_goals
   simp only at HG ⊢
   (first|go_enter Tryz.func219,Tryz.ntmps219|go_enter Tryz.func226,Tryz.ntmps226|go_enter Tryz.func221,Tryz.ntmps221)
   go_wp2_with fail;refine wp_region_held_drew (S:=fun W=>W.rangeAt w.heap.size 0 C.toList) hmix hR1 (fun hS=>?_);refine wpAnyH_take (i:=0) (v:=.agg C) rfl (by kernel_rfl) (by kernel_rfl) (by kernel_rfl) (fun _ _ _ h=>h) (cA (by rfl) _ (.tmp 3) rfl w.heap.size 0 rfl C _ (fun _ h=>h) hUd hdr hi1) hS ?_;refine ag 1 (.pointer (some ⟨b,0,none⟩)) rfl (by kernel_rfl) (fun _ _ _ h=>h) rfl (fun W hSw=>by go_simp) hS ?_;refine ag 2 (.pointer (some ⟨b,0,none⟩)) rfl (by kernel_rfl) (fun _ _ _ h=>h) rfl (fun W hSw=>by go_simp) hS ?_;refine ag 3 (.pointer (some ⟨b,0,none⟩)) rfl (by kernel_rfl) (fun _ _ _ h=>h) rfl (fun W hSw=>by go_simp) hS ?_;refine ah 4 (by kernel_rfl) rfl fun K hK=>?_;go_simp
   (first|go_at_call 224|go_at_call 230|go_at_call 228)
   refine(ae HG).mono ?_
  · rintro e x1 ⟨k1,rfl⟩;have HKK:=af ((ae HK1).trans k1);refine Shut.out hK _ _ (ae HRK _ k1) (fun hS2=>?_);clear hK K;refine wpAnyH_take (i:=5) (v:=.tuple #[.int .i64 0,.bool false]) rfl (by kernel_rfl) (by kernel_rfl) (by kernel_rfl) (fun _ _ _ h=>h) (Or.inl ⟨by rfl,fun W hSw=>by go_simp⟩) hS2 ?_;refine wpAnyH_take (i:=6) (v:=.int .i64 0) rfl (by kernel_rfl) (by kernel_rfl) (by kernel_rfl) (fun _ _ _ h=>h) (Or.inl ⟨by rfl,fun W hSw=>by go_simp⟩) hS2 ?_;refine wpAnyH_take (i:=7) (v:=.bool false) rfl (by kernel_rfl) (by kernel_rfl) (by kernel_rfl) (fun _ _ _ h=>h) (Or.inl ⟨by rfl,fun W hSw=>by go_simp⟩) hS2 ?_;refine ah 8 (by kernel_rfl) rfl fun K hK=>?_;go_simp;refine Shut.out hK _ _ (ae HRK _ k1) (fun hS3=>?_);clear hK K;refine ah 9 (by kernel_rfl) rfl fun K hK=>?_;go_simp;refine Shut.out hK _ _ (ae HRK _ k1) (fun hS4=>?_);clear hK K;refine wpAnyH_done (by kernel_rfl) ?_ _;clear hS hS2 hS3 hS4 k1 HRK;go_wp2_with fail;refine(dP _).mono ?_;rintro e x2 ⟨rfl,hx2⟩;rw[hx2];clear hx2 x2;exact⟨rfl,ae HKK,rfl⟩
  · rintro e x1 ⟨k1,rfl,r1⟩;have HKK:=af (And.intro ((ae HK1).trans k1) r1);refine Shut.out hK _ _ (ae HRK _ k1) (fun hS2=>?_);clear hK K;refine wpAnyH_take (i:=5) (v:=.tuple #[.int .i64 i,.bool true]) rfl (by kernel_rfl) (by kernel_rfl) (by kernel_rfl) (fun _ _ _ h=>h) (Or.inl ⟨by rfl,fun W hSw=>by go_simp⟩) hS2 ?_;refine wpAnyH_take (i:=6) (v:=.int .i64 i) rfl (by kernel_rfl) (by kernel_rfl) (by kernel_rfl) (fun _ _ _ h=>h) (Or.inl ⟨by rfl,fun W hSw=>by go_simp⟩) hS2 ?_;refine wpAnyH_take (i:=7) (v:=.bool true) rfl (by kernel_rfl) (by kernel_rfl) (by kernel_rfl) (fun _ _ _ h=>h) (Or.inl ⟨by rfl,fun W hSw=>by go_simp⟩) hS2 ?_;refine ah 8 (by kernel_rfl) rfl fun K hK=>?_;go_simp;refine Shut.out hK _ _ (ae HRK _ k1) (fun hS3=>?_);clear hK K;refine ah 9 (by kernel_rfl) rfl fun K hK=>?_;go_simp;refine Shut.out hK _ _ (ae HRK _ k1) (fun hS4=>?_);clear hK K;refine wpAnyH_done (by kernel_rfl) ?_ _;clear hS hS2 hS3 hS4 k1 HRK;clear r1;go_wp2_with fail;refine(cj _).mono ?_;rintro e x2 ⟨rfl,hx2⟩;rw[hx2];clear hx2 x2;go_wp2;go_ret;exact⟨(ae HKK).1,rfl,(ae HKK).2⟩
theorem uz(B:BkI)(hI:Bks B)(a:Option Addr)(cap n base:Nat)(l:List Int)(w:World)(hn:l.length=n)(h:dN w base a l)(hB:base<=w.heap.size)(hm:n<=1000) :
  Calls Tryz.prog B.b #[.slice a n cap] w fun e w'=>Below w.heap.size w w'/\if ap l=true then ∃C,e = .returned (.agg C)/\bm w' base l C else e=iJ:=by
 obtain⟨W0,hW0⟩:∃W,w.alloc (.cells nW B.T)=W:=⟨_,rfl⟩;have S0:W0.heap.size=w.heap.size+1:=by rw[←hW0];exact cV _ _
 have B0:Below w.heap.size w W0:=by rw[←hW0];exact(Below.refl _ _).alloc (Nat.le_refl _) _
 have T0:Hid (W0.there w.heap.size 0 19):=by rw[←hW0];exact fK w nW _ _ rfl
 have hI0:bC W0 a l:=(h.later B0).1;have HL:=af (qO a cap n l W0 hn hI0 (by omega));have E0:=af hW0;unfold nW at E0;have HB0:=af B0;have HS0:=af S0;have HJ:=af h;have Hn:=af hn;clear hW0 S0 B0;have HC0:=fun hh=>Bkx.codeBook_any B hI a cap n l W0 hn hI0 hh;have hIB:=hI.info;have HNe:=af hI.ne;obtain⟨ds,hUd,hdr⟩:=hI.und;rcases hI with rfl|rfl|rfl;all_goals
  simp only[bkL,bkD,bkN]at E0 hIB HC0 hUd ⊢;cases hok:ap l
  ·
   rw[hok]at HL;simp only[Bool.false_eq_true,if_false];clear hok
   (first|go_enter Tryz.func215,Tryz.ntmps215|go_enter Tryz.func216,Tryz.ntmps216|go_enter Tryz.func222,Tryz.ntmps222)
   go_wp2_with fail;rw[ae E0];refine(ae HL).mono ?_;rintro e x1 ⟨rfl,hx1⟩;rw[hx1];clear hx1 x1;go_wp2_with fail;refine(dP _).mono ?_;rintro e x2 ⟨rfl,hx2⟩;rw[hx2];clear hx2 x2;exact⟨rfl,ae HB0,rfl⟩
  ·
   rw[hok]at HL;simp only[if_true];have HCb:=af (HC0 (by have:=g9 hok;omega));clear hok hI0 h hn HC0
   (first|go_enter Tryz.func215,Tryz.ntmps215|go_enter Tryz.func216,Tryz.ntmps216|go_enter Tryz.func222,Tryz.ntmps222)
   go_wp2_with fail;rw[ae E0];refine(ae HL).mono ?_;rintro e x1 ⟨rfl,hx1⟩;rw[hx1];clear hx1 x1;go_wp2_with fail;refine(cj _).mono ?_;rintro e x2 ⟨rfl,hx2⟩;rw[hx2];clear hx2 x2;go_wp2_with fail;refine(ae HCb).mono ?_;rintro e x3 ⟨vs,C,rfl,hC,h1,h2,hb⟩;obtain⟨q,sc,rfl⟩:=h2.form;have hsz:C.size=19:=by rw[hC];simp[bX]
   have hone:C.all (·.oneCell')=true:=by rw[hC];exact iH rfl rfl rfl
   have HTh:Hid (x3.there w.heap.size 0 19):=fun j hj=>by
    obtain⟨t1,t2⟩:=ae T0 j hj;have hlt:w.heap.size<W0.heap.size:=by have:=ae HS0;omega
    exact⟨by rw[hb.cell (p:=⟨w.heap.size,0+j,none⟩) hlt];exact t1,by rw[hb.frozen (p:=⟨w.heap.size,0+j,none⟩) hlt];exact t2⟩
   have HSz:=af hsz;have HOne:=af hone;have HX:=af (And.intro hC (And.intro h1 (And.intro h2 hb)));clear hsz hone hC h1 h2 hb;go_wp2_with (refine wpList_store_mid rfl _ (.tmp 2) (.tmp 7) rfl w.heap.size 0 C rfl rfl (by rw[ae HSz];exact ae HTh) (by rw[ae HSz];exact hIB) (ae HOne) ?_);obtain⟨hC,h1,h2,hb⟩:=ae HX;have hr:=World.rangeAt_setCells_same x3 w.heap.size 0 C.toList (by rw[Array.length_toList,ae HSz];exact ae HTh);have hk:∀j,j≠w.heap.size->(x3.setCells w.heap.size 0 C.toList).heap[j]?=x3.heap[j]?:=fun j hj=>cW _ _ _ _ j hj;have hz:(x3.setCells w.heap.size 0 C.toList).heap.size=x3.heap.size:=size_setCells _ _ _ _;have hBw:=aj (ae HB0) hb;have s0:=ae HS0;refine bodyPost_ret (dQ rfl _ _ w.heap.size _ _ rfl hr hUd hdr (by rw[Array.length_toList,ae HSz];exact hIB)) rfl ⟨below_setCells (Nat.le_refl _) _ _ _ hBw,C,by simp,?_⟩;have hn:=ae Hn;subst hn;have hmv:dN (x3.setCells w.heap.size 0 C.toList) base a l:=(ae HJ).moved (by rw[hz];exact hBw.size) (fun g _ hg _=>(hk g (by omega)).trans (hBw.block g hg));exact⟨a,cap,_,_,q,sc,hC,hmv,((cw (dc l 15) (h1.own (dc l 15))).mono (b':=w.heap.size+1) (by omega)).touch hz hk (by omega) |>.mono (by omega),((cw rfl h2 (ae HNe)).mono (b':=w.heap.size+1) (by omega)).touch hz hk (by omega) |>.mono (by omega)⟩
def rn:=@qp bkL (.inl rfl)
def DK:=@uz bkL (.inl rfl)
def wh:=@qp bkD (.inr (.inl rfl))
def zt:=@uz bkD (.inr (.inl rfl))
def zT:=@qp bkN (.inr (.inr rfl))
def DF:=@uz bkN (.inr (.inr rfl))
end Go.Proofs.YtkpfkgoiaicgbaaGreatDoor
namespace Go.Proofs.YtkpfkgoiaicgbaaGreatDoor
open Go.RowKit Corb
def Sou(w:World)(b:Nat)(s:ByteArray)(p:Nat)(T:List UInt8):Prop:=
 Rdr w b s p/\∃v,w.cell? ⟨b,3,none⟩=some v/\w.frozen? ⟨b,3,none⟩=false/\bH w (b+1) v T
theorem bH.keep1{w w':World}{b base:Nat}{v:Value}{l:List UInt8}(h:bH w base v l)(hk:ax b w w')(hb:b<base):bH w' base v l:=hk.own h hb
theorem Sou.keep1{w w':World}{b p q:Nat}{s:ByteArray}{T:List UInt8}(h:Sou w b s p T)(hk:ax b w w')(hr:Rdr w' b s q):Sou w' b s q T:=by
 obtain⟨_,v,c,f,o⟩:=h;exact⟨hr,v,(hk.3 3 (Nat.le_refl _)).1.trans c,(hk.3 3 (Nat.le_refl _)).2.trans f,o.keep1 hk (Nat.lt_succ_self _)⟩
theorem Sou.lt{w:World}{b p:Nat}{s:ByteArray}{T:List UInt8}(h:Sou w b s p T):b<w.heap.size:=h.1.lt
structure KU (b:Nat) (w w':World):Prop where
 below:Below b w w'
 keep:∀k,k<w.heap.size->k≠b->(∀cur fr,w.heap[k]?≠some (.cells cur 5 fr))->w'.heap[k]?=w.heap[k]?
theorem KU.refl(b:Nat)(w:World):KU b w w:=⟨Below.refl _ _,fun _ _ _ _=>rfl⟩
theorem KU.trans{b:Nat}{w w1 w2:World}(h:KU b w w1)(k:KU b w1 w2):KU b w w2:=
 ⟨h.1.trans k.1,fun j hj hne hn=>(k.2 j (Nat.lt_of_lt_of_le hj h.1.size) hne (by rw[h.2 j hj hne hn];exact hn)).trans (h.2 j hj hne hn)⟩
theorem ax.ku{b:Nat}{w w':World}(h:ax b w w'):KU b w w':=⟨h.1,fun j hj hne _=>h.2 j hj hne⟩
theorem KU.later{b:Nat}{w w1 w2:World}(h:KU b w w1)(hb:Below w1.heap.size w1 w2)(hbw:b<w1.heap.size):KU b w w2:=
 ⟨h.1.trans (hb.mono (Nat.le_of_lt hbw)),fun j hj hne hn=>(hb.block j (Nat.lt_of_lt_of_le hj h.1.size)).trans (h.2 j hj hne hn)⟩
theorem Sou.later{w w':World}{b p:Nat}{s:ByteArray}{T:List UInt8}(h:Sou w b s p T)(hb:Below w.heap.size w w'):Sou w' b s p T:=by
 obtain⟨r,v,c,f,o⟩:=h;exact⟨r.kept (hb.mono r.lt),v,(hb.cell (p:=⟨b,3,none⟩) r.lt).trans c,(hb.frozen (p:=⟨b,3,none⟩) r.lt).trans f,o.later hb (Nat.le_refl _)⟩
theorem dN.ku{w w':World}{base b:Nat}{a:Option Addr}{l:List Int}(h:dN w base a l)(hk:KU b w w')(hb:b<base):dN w' base a l:=h.moved hk.1.size (fun g h1 hg hn=>hk.2 g hg (by omega) hn)
theorem bm.ku{w w':World}{base b:Nat}{l:List Int}{C:Array Value}(h:bm w base l C)(hk:KU b w w')(hb:b<base):bm w' base l C:=by
 obtain⟨a,cap,ac,cc,q,sc,e,h1,h2,h3⟩:=h;exact⟨a,cap,ac,cc,q,sc,e,h1.ku hk hb,h2.ku hk hb,h3.ku hk hb⟩
theorem cY.ku{w w':World}{base b:Nat}{L D:List Int}{C:Array Value}(h:cY w base L D C)(hk:KU b w w')(hb:b<base):cY w' base L D C:=by
 obtain⟨C1,C2,e,h1,h2⟩:=h;exact⟨C1,C2,e,h1.ku hk hb,h2.ku hk hb⟩
theorem cY.keep1{w w':World}{base b:Nat}{L D:List Int}{C:Array Value}(h:cY w base L D C)(hk:ax b w w')(hb:b<base):cY w' base L D C:=h.ku hk.ku hb
theorem ze{w:World}{base b o:Nat}{v:Value}{l:List UInt8}(h:bH w base v l)(hb:b<base)(u:Value):bH (w.setCell ⟨b,o,none⟩ u) base v l:=by
 refine⟨h.1,?_⟩;rcases h.2 with hn|⟨g,cap,cur,rfl,hbg,hgg,rest⟩
 · exact .inl hn
 · exact .inr ⟨g,cap,cur,rfl,hbg,(Below.heap_setCell _ _ _ g (by show g≠b;omega)).trans hgg,rest⟩
def bZ(w:World)(b:Nat)(s:ByteArray)(d:Option (List UInt8×Nat))(e:Ending)(w':World):Prop:=
 KU b w w'/\match d with
  | none=>e=iJ
  | some (T,q)=>e = .returned (.tuple #[])/\Sou w' b s q T
theorem Bz(b p:Nat)(s:ByteArray)(T:List UInt8)(t:Tk)(w:World)(h:Sou w b s p T)(hT:T.length<=300)(ho:okT t=true) :
  Calls Tryz.prog 211 #[.pointer (some ⟨b,0,none⟩),dX t] w (bZ w b s ((dE T t).map fun x=>(x,p))):=by
 have hlt:=h.lt;obtain⟨hr,v,c3,f3,hw⟩:=h;obtain⟨n,hn⟩:∃n,T.length=n:=⟨_,rfl⟩;obtain⟨a,cap,rfl⟩:=hw.formN hn;have HL:=af (U.lzLay_any (b+1) n cap a T t w hn hw (by omega) hlt ho);have HR:=af hr;have HF:=af f3;unfold bZ;rcases hA:dE T t with _|T'
 ·
  rw[hA]at HL;simp only[Option.map_none];clear hA hw hT hn ho hr f3;generalize dX t=tv at *
  go_enter Tryz.func211,Tryz.ntmps211;go_wp2_with fail;refine(ae HL).mono ?_;rintro e x1 ⟨v1,rfl,o1,b1⟩;simp only[Option.isSome_none];have HK:Hid (KU b w x1):=⟨b1.1.mono (Nat.le_succ _),fun j hj _ hn=>b1.2 j hj hn⟩;clear o1 b1 HL;go_wp2_with fail;refine(dP _).mono ?_;rintro e x2 ⟨rfl,hx2⟩;rw[hx2];clear hx2 x2;exact⟨rfl,ae HK,rfl⟩
 ·
  rw[hA]at HL;simp only[Option.map_some];clear hA hw hT hn ho hr f3;generalize dX t=tv at *
  go_enter Tryz.func211,Tryz.ntmps211;go_wp2_with fail;refine(ae HL).mono ?_;rintro e x1 ⟨v1,rfl,o1,b1⟩;simp only[Option.isSome_some,Option.getD_some]at o1 ⊢;have HK:Hid (KU b w x1):=⟨b1.1.mono (Nat.le_succ _),fun j hj _ hn=>b1.2 j hj hn⟩;have hr1:=(ae HR).kept b1.1;have c31:=(b1.1.cell (p:=⟨b,3,none⟩) (Nat.lt_succ_self b)).trans c3;have f31:=(b1.1.frozen (p:=⟨b,3,none⟩) (Nat.lt_succ_self b)).trans (ae HF);obtain⟨a1,cap1,rfl⟩:=o1.form;have HX:=af (And.intro hr1 o1);clear o1 b1 HL hr1;go_wp2_with fail;refine(cj _).mono ?_;rintro e x2 ⟨rfl,hx2⟩;rw[hx2];clear hx2 x2;go_wp2
  go_end0
  have hk:KU b w (x1.setCell ⟨b,3,none⟩ (.slice a1 T'.length cap1)):=(ae HK).trans ⟨ai (Below.refl _ _) (Nat.le_refl _) _,fun j _ hne _=>Below.heap_setCell _ _ _ j hne⟩;refine⟨hk,rfl,?_,.slice a1 T'.length cap1,World.cell?_setCell_same _ _ _ c31,by simpa using f31,?_⟩
  · obtain⟨c0,c1,c2,g0,g1,g2,hb⟩:=(ae HX).1;exact⟨by rw[World.cell?_setCell_other _ _ _ _ (by simp)];exact c0,by rw[World.cell?_setCell_other _ _ _ _ (by simp)];exact c1,by rw[World.cell?_setCell_other _ _ _ _ (by simp)];exact c2,by simpa using g0,by simpa using g1,by simpa using g2,by simpa using hb⟩
  · exact ze (ae HX).2 (Nat.lt_succ_self _) _
def TkP(w:World)(b:Nat)(s:ByteArray)(d:Option (Tk×Nat))(e:Ending)(w':World):Prop:=
 ax b w w'/\match d with
  | none=>e=iJ
  | some (t,q)=>e = .returned (dX t)/\Rdr w' b s q
def okG(d:Option (Tk×Nat)):Option (Tk×Nat):=d.bind fun t=>if okT t.1=true then some t else none
theorem AK{w:World}{base:Nat}{L D:List Int}{C:Array Value}(h:cY w base L D C):∃C1 C2,C=C1++C2/\bm w base L C1/\bm w base D C2/\(w.alloc (.cells C 191)).rangeAt w.heap.size 0 C1.toList/\(w.alloc (.cells C 191)).rangeAt w.heap.size 19 C2.toList:=by
 obtain⟨C1,C2,rfl,h1,h2⟩:=h;obtain⟨r1,r2⟩:=fU (alloc_at w (.cells (C1++C2) 191)) h1.size;exact⟨C1,C2,rfl,h1,h2,r1,r2⟩
theorem pr{w w':World}{b g o:Nat}{cs:List Value}(h:w.rangeAt g o cs)(hk:ax b w w')(hg:g<w.heap.size)(hne:g≠b):w'.rangeAt g o cs:=fun j v hv=>by
 rw[←h j v hv];exact World.cell?_of_block (w:=w) (hk.2 g hg hne)
theorem AE(b p k:Nat)(C:Array Value)(s:ByteArray)(w:World)(hr:Rdr w b s p)(hk:k<256) :
  Calls Tryz.prog 220 #[.pointer (some ⟨b,0,none⟩),.int .i64 (k:Nat),.agg C] w fun e w'=>ax b w w'/\e = .returned (dX ((k:Nat),0,0))/\Rdr w' b s p:=by
 have hB:isB (((k:Nat):Int),0,0)=true:=by unfold isB inB;simp;omega
 rw[jB hB];have hkI:(k:Int)<256:=by omega
 have hu:IntKind.u8.wrap (k:Int)=(k:Int):=Jg (by omega) (by omega);have HK:Hid (ax b w (w.alloc (.cells C 191))):=(ax.refl b w).alloc hr.lt _;have HR:Hid (Rdr (w.alloc (.cells C 191)) b s p):=hr.alloc _;clear hr hk hB;go_enter Tryz.func220,Tryz.ntmps220;go_wp2;go_ret;exact⟨ae HK,rfl,ae HR⟩
set_option maxRecDepth 100000 in
theorem AF(b p k base:Nat)(L D:List Int)(C:Array Value)(s:ByteArray)(w:World)(hr:Rdr w b s p)(hk:k<=900)(hBk:cY w base L D C)(hbb:b<base)(hok:ap D=true)(hs:s.size<=2000000) :
  Calls Tryz.prog 220 #[.pointer (some ⟨b,0,none⟩),.int .i64 ((k:Nat)+257),.agg C] w (TkP w b s (okG (jU (au s) (8*s.size) D k p))):=by
 have hmix:Tryz.prog.follows .mixedOrders=true:=by kernel_rfl
 obtain⟨d,hd⟩:∃d,okG (jU (au s) (8*s.size) D k p)=d:=⟨_,rfl⟩;rw[hd];have Hd:=af hd;obtain⟨C1,C2,rfl,h1,h2,r1,r2⟩:=AK hBk;have hlt:=hr.lt;have hA:Below w.heap.size w (w.alloc (.cells (C1++C2) 191)):=(Below.refl _ _).alloc (Nat.le_refl _) _;have hne:w.heap.size≠b:=by omega
 have hi2:(Tryz.prog.info? 189).map (·.size)=some C2.size:=by rw[h2.size];exact Tryz.infoDistB
 have HW:=af (And.intro ((ax.refl b w).alloc hlt (.cells (C1++C2) 191)) (And.intro (hr.alloc (.cells (C1++C2) 191)) (And.intro (h2.later hA) r2)));have hszA:w.heap.size<(w.alloc (.cells (C1++C2) 191)).heap.size:=by simp
 have HS:=af hs;have HOK:=af hok;have HBB:=af hbb;clear hr hBk h1 h2 r1 r2 hd hs hok hbb;go_enter Tryz.func220,Tryz.ntmps220;go_wp2_with fail;generalize w.alloc (.cells (C1++C2) 191)=w1 at *
 generalize hgs:w.heap.size=g at *
 clear hgs hA hlt;refine(lU w1).mono ?_;rintro e w2 ⟨rfl,b2⟩;have hk2:=(ae HW).1.later b2 (ae HW).2.1.lt;have hr2:=(ae HW).2.1.kept (b2.mono (ae HW).2.1.lt);have hv2:=(ae HW).2.2.1.later b2;have hg2:w2.rangeAt g 19 C2.toList:=iz (ae HW).2.2.2 b2 hszA;have hgw2:g<w2.heap.size:=Nat.lt_of_lt_of_le hszA b2.size;have HSc:=af (rX 3 4 28 b p k s w2 hr2 (ae HS) (by omega) (by omega) (by omega) (by omega) (fun k h=>by omega) (by omega));have HW2:=af (And.intro hk2 (And.intro hv2 hg2));clear b2 hk2 hr2 hv2 hg2 HW hszA;have ek:(k:Int)+257-256-1=(k:Int):=by omega
 unfold gP at HSc;rcases h1:scG (au s) (8*s.size) 3 4 28 k p with _|⟨x,q1⟩
 ·
  rw[h1]at HSc;have Hn:Hid (d=none):=by show d=none;rw[←ae Hd];unfold okG jU;rw[h1];rfl
  clear h1;go_wp2_with fail;refine(ae HSc).mono ?_;rintro e x3 ⟨k3,rfl⟩;refine⟨rfl,?_⟩;unfold TkP;rw[ae Hn];exact⟨(ae HW2).1.trans k3,rfl⟩
 ·
  rw[h1]at HSc;have hb1:=Aq h1;have H1:=af h1;have Hq1:=af hb1.1;clear h1 hb1;go_wp2_with fail;refine(ae HSc).mono ?_;rintro e x3 ⟨k3,rfl,r3⟩;have hk3:=(ae HW2).1.trans k3;have hv3:=(ae HW2).2.1.keep1 k3 (ae HBB);have hg3:=pr (ae HW2).2.2 k3 hgw2 hne;have hgw3:g<x3.heap.size:=Nat.lt_of_lt_of_le hgw2 k3.1.size;have HW3:=af (And.intro hk3 (And.intro hv3 (And.intro hg3 r3)));clear k3 hk3 hv3 hg3 r3 HSc HW2 hgw2;have HSW:Hid (∀W,ax b x3 W->W.rangeAt g 19 C2.toList):=fun W h=>pr (ae HW3).2.2.1 h hgw3 hne;have hk0:ax b x3 x3.drew:=(ax.refl b x3).drew;go_wp2_with fail;refine wp_region_held_drew (S:=fun W=>W.rangeAt g 19 C2.toList) hmix (ae HSW _ hk0) (fun hS=>?_);refine ag 0 (.pointer (some ⟨b,0,none⟩)) rfl (by kernel_rfl) (fun _ _ _ h=>h) rfl (fun W hSw=>by go_simp) hS ?_;refine ag 2 (.pointer (some ⟨b,0,none⟩)) rfl (by kernel_rfl) (fun _ _ _ h=>h) rfl (fun W hSw=>by go_simp) hS ?_;refine ag 3 (.pointer (some ⟨g,19,none⟩)) rfl (by kernel_rfl) (fun _ _ _ h=>h) rfl (fun W hSw=>by go_simp) hS ?_;refine wpAnyH_take (i:=4) (v:=.agg C2) rfl (by kernel_rfl) (by kernel_rfl) (by kernel_rfl) (fun _ _ _ h=>h) (cA (by rfl) 189 (.tmp 25) rfl g 19 rfl C2 _ (fun _ h=>h) Tryz.underlying189 rfl hi2) hS ?_;refine ah 1 (by kernel_rfl) rfl fun K hK=>?_;go_simp;go_at_call 192;refine(lP _).mono ?_;rintro e x4 ⟨rfl,b4⟩;have k4:ax b x3 x4:=hk0.later b4 (ae HW3).2.2.2.lt;have r4:Rdr x4 b s q1:=Rdr.kept (w:=x3.drew) (show Rdr x3.drew b s q1 from(ae HW3).2.2.2) (b4.mono (ae HW3).2.2.2.lt);have v4:=(ae HW3).2.1.keep1 k4 (ae HBB);have HDy:=af (wh b q1 base C2 D s x4 v4 (ae HBB) (ae HOK) (ae HS) r4 (ae Hq1));refine Shut.out hK _ _ (ae HSW _ k4) (fun hS2=>?_);clear hK K b4 v4;refine ah 5 (by kernel_rfl) rfl fun K hK=>?_;go_simp;go_at_call 226;unfold SyP at HDy;rcases h2:dec D (au s) (8*s.size) q1 with _|⟨j,q2⟩
  ·
   rw[h2]at HDy;have Hn:Hid (d=none):=by show d=none;rw[←ae Hd];unfold okG jU;rw[ae H1];simp only[Option.bind_some];rw[h2];rfl
   refine(ae HDy).mono ?_;rintro e x5 ⟨k5,rfl⟩;refine⟨rfl,?_⟩;unfold TkP;rw[ae Hn];exact⟨(ae HW3).1.trans (k4.trans k5),rfl⟩
  ·
   rw[h2]at HDy;have hb2:=fy h2;have H2:=af h2;refine(ae HDy).mono ?_;rintro e x5 ⟨k5,rfl,r5⟩;have k35:=k4.trans k5;refine Shut.out hK _ _ (ae HSW _ k35) (fun hS3=>?_);clear hK K k5 k4 r4 HDy;obtain⟨jn,hj⟩:=Int.eq_ofNat_of_zero_le hb2.2.2.1;subst hj;have hj300:jn<=1000:=by have:=g9 (ae HOK);omega
   have HSc2:=af (rX 1 2 30 b q2 jn s x5 r5 (ae HS) (by omega) (by omega) (by omega) (by omega) (fun k h=>by omega) hj300);refine ah 6 (by kernel_rfl) rfl fun K hK=>?_;go_simp;go_at_call 225;unfold gP at HSc2;rcases h3:scG (au s) (8*s.size) 1 2 30 jn q2 with _|⟨y,q3⟩
   ·
    rw[h3]at HSc2;have Hn:Hid (d=none):=by show d=none;rw[←ae Hd];unfold okG jU;rw[ae H1];simp only[Option.bind_some];rw[ae H2];simp only[Option.bind_some,Int.toNat_natCast];rw[h3];rfl
    refine(ae HSc2).mono ?_;rintro e x6 ⟨k6,rfl⟩;refine⟨rfl,?_⟩;unfold TkP;rw[ae Hn];exact⟨(ae HW3).1.trans (k35.trans k6),rfl⟩
   ·
    rw[h3]at HSc2;have H3:=af h3;refine(ae HSc2).mono ?_;rintro e x6 ⟨k6,rfl,r6⟩;have k36:=k35.trans k6;refine Shut.out hK _ _ (ae HSW _ k36) (fun hS4=>?_);clear hK K;refine ah 7 (by kernel_rfl) rfl fun K hK=>?_;go_simp;refine Shut.out hK _ _ (ae HSW _ k36) (fun hS5=>?_);clear hK K;refine wpAnyH_done (by kernel_rfl) ?_ _;have HE:Hid (d=if okT (0,(x:Int),(y:Int))=true then some ((0,(x:Int),(y:Int)),q3)else none):=by
     show d=_;rw[←ae Hd];unfold okG jU;rw[ae H1];simp only[Option.bind_some];rw[ae H2];simp only[Option.bind_some,Int.toNat_natCast];rw[ae H3];rfl
    have HK6:=af (And.intro ((ae HW3).1.trans k36) r6);have HLo:=af (fun W=>GV (0,(x:Int),(y:Int)) W);clear hS hS2 hS3 hS4 hS5 k36 k35 k6 r6 r5 HSW hk0 h2 h3 hb2 hj300 HSc2;simp only at HLo;go_wp2_with fail;refine(ae HLo _).mono ?_;rintro e x7 ⟨rfl,b7⟩;have HK7:=af (And.intro ((ae HK6).1.later b7 (ae HK6).2.lt) ((ae HK6).2.kept (b7.mono (ae HK6).2.lt)));clear b7 HK6 HLo;cases hok:okT (0,(x:Int),(y:Int))
    ·
     have Hn:Hid (d=none):=by show d=none;rw[ae HE,hok];rfl
     clear hok;generalize dX (0,(x:Int),(y:Int))=tv at *
     go_wp2_with fail;refine(dP _).mono ?_;rintro e x8 ⟨rfl,hx8⟩;rw[hx8];clear hx8 x8;refine⟨rfl,?_⟩;unfold TkP;rw[ae Hn];exact⟨(ae HK7).1,rfl⟩
    ·
     have Hn:Hid (d=some ((0,(x:Int),(y:Int)),q3)):=by show d=_;rw[ae HE,hok];rfl
     clear hok;obtain⟨t,ht⟩:∃t:Tk,(0,(x:Int),(y:Int))=t:=⟨_,rfl⟩;rw[ht]at Hn ⊢;clear ht;generalize htv:dX t=tv at *
     have HTv:=af htv;clear htv;go_wp2_with fail;refine(cj _).mono ?_;rintro e x8 ⟨rfl,hx8⟩;rw[hx8];clear hx8 x8;go_wp2;go_ret;unfold TkP;rw[ae Hn];exact⟨(ae HK7).1,by rw[ae HTv];rfl,(ae HK7).2⟩
set_option maxRecDepth 100000 in
theorem sS(b p:Nat)(s:ByteArray)(T:List UInt8)(w:World)(h:Sou w b s p T)(hT:T.length<=300)(hp:p<=8*s.size)(hs:s.size<=2000000) :
  Calls Tryz.prog 205 #[.pointer (some ⟨b,0,none⟩)] w (bZ w b s (ic (au s) (8*s.size) p T)):=by
 obtain⟨d,hd⟩:∃d,ic (au s) (8*s.size) p T=d:=⟨_,rfl⟩;rw[hd];have Hd:=af hd;have HW:=af (lY b p s w h.1 hs hp);have HS:=af h;have HN:=af (And.intro hs hT);clear h hT hp hs hd;go_enter Tryz.func205,Tryz.ntmps205;unfold ic at Hd;rcases h1:iZ (au s) p with _|q
 ·
  rw[h1]at HW;have Hn:Hid (d=none):=by show d=none;rw[←ae Hd,h1];rfl
  clear h1 Hd;go_wp2_with fail;refine(ae HW).mono ?_;rintro e x1 ⟨k1,rfl⟩;refine⟨rfl,?_⟩;unfold bZ;rw[ae Hn];exact⟨k1.ku,rfl⟩
 rw[h1]at HW Hd;clear h1;simp only[Option.bind_some]at Hd;go_wp2_with fail;refine(ae HW).mono ?_;rintro e x1 ⟨k1,rfl,r1⟩;have HS1:=af (And.intro k1.ku ((ae HS).keep1 k1 r1));clear k1 r1 HS HW;have HM:=af (bv b q 16 s x1 (ae HS1).2.1 (ae HN).1 (by omega));rcases h2:rdN (au s) (8*s.size) q 16 with _|⟨a,q2⟩
 ·
  rw[h2]at HM;unfold gP at HM;have Hn:Hid (d=none):=by show d=none;rw[←ae Hd,h2];rfl
  clear h2 Hd;go_wp2_with fail;refine(ae HM).mono ?_;rintro e x2 ⟨k2,rfl⟩;refine⟨rfl,?_⟩;unfold bZ;rw[ae Hn];exact⟨(ae HS1).1.trans k2.ku,rfl⟩
 rw[h2]at HM Hd;unfold gP at HM;have ha:a<=65535:=by have:=(br h2).2.2.2;omega
 clear h2;simp only[Option.bind_some]at Hd;go_wp2_with fail;refine(ae HM).mono ?_;rintro e x2 ⟨k2,rfl,r2⟩;have HS2:=af (And.intro ((ae HS1).1.trans k2.ku) ((ae HS1).2.keep1 k2 r2));clear k2 r2 HS1 HM;have HM:=af (bv b q2 16 s x2 (ae HS2).2.1 (ae HN).1 (by omega));rcases h3:rdN (au s) (8*s.size) q2 16 with _|⟨c,q3⟩
 ·
  rw[h3]at HM;unfold gP at HM;have Hn:Hid (d=none):=by show d=none;rw[←ae Hd,h3];rfl
  clear h3 Hd;go_wp2_with fail;refine(ae HM).mono ?_;rintro e x3 ⟨k3,rfl⟩;refine⟨rfl,?_⟩;unfold bZ;rw[ae Hn];exact⟨(ae HS2).1.trans k3.ku,rfl⟩
 rw[h3]at HM Hd;unfold gP at HM;simp only[Option.bind_some]at Hd;go_wp2_with fail;refine(ae HM).mono ?_;rintro e x3 ⟨k3,rfl,r3⟩;have HS3:=af (And.intro ((ae HS2).1.trans k3.ku) ((ae HS2).2.keep1 k3 r3));clear k3 r3 HS2 HM;have hx:bits .xor .i64 (a:Int) 65535=((65535-a:Nat):Int):=by
  rw[←Jr a ha];exact kj a 65535 (by omega) (by omega)
 by_cases hca:c=65535-a
 ·
  rw[if_pos hca]at Hd;have hb:((c:Int) == bits .xor .i64 (a:Int) 65535)=true:=by rw[hx,hca];exact beq_self_eq_true _
  clear h3 hx hca;go_wp2_with fail;refine(cj _).mono ?_;rintro e x4 ⟨rfl,hx4⟩;rw[hx4];clear hx4 x4 hb;go_wp2_with fail
  go_loopw [14] (fun i wr=>∃(k q:Nat) (R:List UInt8),k<=a/\i = .int .i64 k/\KU b w wr/\Sou wr b s q R/\R.length<=300/\gR (au s) (8*s.size) (a-k) q R=d) (fun i _=>a-(intOf i).toNat)
  case atStart=>exact⟨0,q3,T,Nat.zero_le _,rfl,(ae HS3).1,(ae HS3).2,(ae HN).2,ae Hd⟩
  case round=>
   obtain⟨k,q,R,hk,rfl,hku,hsou,hR,hg⟩:=hrel;clear HS3 Hd;have HKU:=af hku;have HSO:=af hsou;have HG:=af hg;have HR:=af hR;clear hku hsou hg hR hk;by_cases hlt:k<a
   ·
    have hltI:(k:Int)<(a:Int):=by omega
    have e1:a-k=(a-(k+1))+1:=by omega
    have HM:=af (bv b q 8 s wr (ae HSO).1 (ae HN).1 (by omega));rw[e1]at HG;simp only[gR]at HG;clear e1;rcases h4:rdN (au s) (8*s.size) q 8 with _|⟨y,q4⟩
    ·
     rw[h4]at HM HG;unfold gP at HM;have Hn:Hid (d=none):=by show d=none;rw[←ae HG];rfl
     clear h4 HG;go_wp2_with fail;refine(ae HM).mono ?_;rintro e x5 ⟨k5,rfl⟩;refine⟨rfl,?_⟩;unfold bZ;rw[ae Hn];exact⟨(ae HKU).trans k5.ku,rfl⟩
    rw[h4]at HM HG;unfold gP at HM;have hy:y<256:=by have:=(br h4).2.2.2;omega
    have hu:IntKind.u8.wrap (y:Int)=(y:Int):=Jg (by omega) (by omega);have hB:isB (((y:Nat):Int),0,0)=true:=by unfold isB inB;simp;omega
    have hok:okT (((y:Nat):Int),0,0)=true:=by unfold okT;rw[hB];rfl
    have HTV:=af (jB hB);clear h4 hB;simp only[Option.bind_some]at HG;go_wp2_with fail;refine(ae HM).mono ?_;rintro e x5 ⟨k5,rfl,r5⟩;have HKU5:=af ((ae HKU).trans k5.ku);have HSO5:=af ((ae HSO).keep1 k5 r5);clear k5 r5 HM HKU HSO;have HL:=af (Bz b q4 s R (((y:Nat):Int),0,0) x5 (ae HSO5) (ae HR) hok);rw[ae HTV]at HL;clear hok HTV;go_wp2_with fail;refine(ae HL).mono ?_;intro e x6 h6;unfold bZ at h6;rcases h7:dE R (((y:Nat):Int),0,0)with _|R'
    ·
     rw[h7]at h6 HG;obtain⟨k6,rfl⟩:=h6;have Hn:Hid (d=none):=by show d=none;rw[←ae HG];rfl
     refine⟨rfl,?_⟩;unfold bZ;rw[ae Hn];exact⟨(ae HKU5).trans k6,rfl⟩
    rw[h7]at h6 HG;obtain⟨k6,rfl,s6⟩:=h6;simp only[Option.bind_some]at HG;have HR':=af (mO h7);have HKU6:=af ((ae HKU5).trans k6);have HSO6:=af s6;clear k6 s6 h7 HKU5 HSO5 HL HR;go_wp2_with fail;go_roundw
    case rel=>exact⟨k+1,q4,R',hlt,by go_num,ae HKU6,ae HSO6,ae HR',ae HG⟩
    case measure=>simp[intOf];omega
   ·
    have hltI:¬ (k:Int)<(a:Int):=by omega
    have e0:a-k=0:=by omega
    rw[e0]at HG;simp only[gR]at HG;go_wp2
    go_end0
    unfold bZ;rw[←ae HG];exact⟨ae HKU,rfl,ae HSO⟩
 ·
  rw[if_neg hca]at Hd;have hb:((c:Int) == bits .xor .i64 (a:Int) 65535)=false:=by rw[hx,beq_eq_false_iff_ne];omega
  have Hn:Hid (d=none):=by show d=none;rw[←ae Hd]
  clear Hd hx hca h3;go_wp2_with fail;refine(dP _).mono ?_;rintro e x4 ⟨rfl,hx4⟩;rw[hx4];clear hx4 x4;refine⟨rfl,?_⟩;unfold bZ;rw[ae Hn];exact⟨(ae HS3).1,rfl⟩
def pn(V sz:Nat)(L D:List Int)(k:Int)(q:Nat)(R:List UInt8):Option (List UInt8×Nat):=
 if k=256 then some (R,q)else(oneG V sz D k q).bind fun t=>(dE R t.1).bind fun T'=>jA V sz L D t.2 T'
theorem uf{V sz:Nat}{L D:List Int}{p:Nat}{T:List UInt8} : jA V sz L D p T=(dec L V sz p).bind fun k=>pn V sz L D k.1 k.2 T:=by
 rcases h:dec L V sz p with _|⟨i,q⟩
 · rw[EI h];rfl
 ·
  simp only[Option.bind_some];unfold pn;by_cases hi:i=256
  · subst hi;rw[yB h,if_pos rfl]
  · rw[ug h hi,if_neg hi]
theorem DW{V sz:Nat}{L D:List Int}{k:Int}{q:Nat}{R:List UInt8}(hk:k≠256)(h:okG (oneG V sz D k q)=none):pn V sz L D k q R=none:=by
 unfold pn;rw[if_neg hk];unfold okG at h;rcases h1:oneG V sz D k q with _|⟨t,r⟩
 · rfl
 ·
  rw[h1]at h;simp only[Option.bind_some]at h ⊢
  split at h
  · cases h
  · rw[Ff (Bool.eq_false_iff.2 (by assumption))];rfl
theorem Ag{V sz:Nat}{L D:List Int}{k:Int}{q r:Nat}{t:Tk}{R:List UInt8}(hk:k≠256)(h:okG (oneG V sz D k q)=some (t,r)):oneG V sz D k q=some (t,r)/\okT t=true/\pn V sz L D k q R=(dE R t).bind fun T'=>jA V sz L D r T':=by
 unfold okG at h;rcases h1:oneG V sz D k q with _|⟨t',r'⟩
 · rw[h1]at h;cases h
 ·
  rw[h1]at h;simp only[Option.bind_some]at h
  split at h
  · simp only[Option.some.injEq,Prod.mk.injEq]at h;obtain⟨rfl,rfl⟩:=h;refine⟨rfl,by assumption,?_⟩;unfold pn;rw[if_neg hk,h1];rfl
  · cases h
theorem EK(b p base:Nat)(k:Int)(L D:List Int)(C:Array Value)(s:ByteArray)(w:World)(hr:Rdr w b s p)(h0:0<=k)(hk:k<=1000)(hne:k≠256)(hBk:cY w base L D C)(hbb:b<base)(hok:ap D=true)(hs:s.size<=2000000) :
  Calls Tryz.prog 220 #[.pointer (some ⟨b,0,none⟩),.int .i64 k,.agg C] w (TkP w b s (okG (oneG (au s) (8*s.size) D k p))):=by
 obtain⟨n,rfl⟩:=Int.eq_ofNat_of_zero_le h0;by_cases h:n<256
 ·
  have hB:isB (((n:Nat):Int),0,0)=true:=by unfold isB inB;simp;omega
  have hokt:okT (((n:Nat):Int),0,0)=true:=by unfold okT;rw[hB];rfl
  have e:okG (oneG (au s) (8*s.size) D (n:Int) p)=some ((((n:Nat):Int),0,0),p):=by
   unfold oneG okG;rw[if_pos (by omega)];simp only[Option.bind_some];rw[if_pos hokt]
  rw[e];exact AE b p n C s w hr h
 ·
  obtain⟨m,rfl⟩:∃m,n=m+257:=⟨n-257,by omega⟩;have e:oneG (au s) (8*s.size) D ((m+257:Nat):Int) p=jU (au s) (8*s.size) D m p:=by
   unfold oneG;rw[if_neg (by omega)];rw[show(((m+257:Nat):Int).toNat-257)=m by omega]
  rw[e];exact AF b p m base L D C s w hr (by omega) hBk hbb hok hs
def mx(b:Nat)(w:World):Nat:=match w.cell? ⟨b,1,none⟩with
 | some v=>(intOf v).toNat
 | none=>0
theorem Sou.place{w:World}{b p:Nat}{s:ByteArray}{T:List UInt8}(h:Sou w b s p T)(hp:p<=8*s.size):mx b w=p:=by
 have h1:=(h.1.at hp).2.1;unfold mx;rw[h1];simp[intOf]
theorem pC{w:World}{g:Nat}{C:Array Value}{t:TypeId}(h:w.heap[g]?=some (Obj.cells C t)):w.rangeAt g 0 C.toList:=by
 intro j v hv;rw[Nat.zero_add,bn h];simpa using hv
theorem KU.books{w w':World}{b g:Nat}{C:Array Value}(h:KU b w w')(hg:w.heap[g]?=some (Obj.cells C 191))(hne:g≠b):w'.heap[g]?=some (Obj.cells C 191):=by
 have hlt:g<w.heap.size:=by
  rcases Nat.lt_or_ge g w.heap.size with h1|h1
  · exact h1
  · rw[Array.getElem?_eq_none h1]at hg;cases hg
 rw[h.2 g hlt hne (by intro cur fr hc;rw[hg]at hc;simp at hc)];exact hg
def TkI(b g base:Nat)(s:ByteArray)(L D:List Int)(C:Array Value)(d:Option (List UInt8×Nat))(w:World)(i:Value)(wr:World):Prop:=
 ∃(k:Int) (q:Nat) (R:List UInt8),i = .int .i64 k/\0<=k/\k<=1000/\KU b w wr/\Sou wr b s q R/\R.length<=300/\q<=8*s.size/\wr.heap[g]?=some (Obj.cells C 191)/\cY wr base L D C/\pn (au s) (8*s.size) L D k q R=d
set_option maxRecDepth 100000 in
theorem sj(b p base:Nat)(s:ByteArray)(L D:List Int)(C:Array Value)(T:List UInt8)(w:World)(h:Sou w b s p T)(hT:T.length<=300)(hp:p<=8*s.size)(hs:s.size<=2000000)(hBk:cY w base L D C)(hbb:b<base)(hL:ap L=true)(hD:ap D=true) :
  Calls Tryz.prog 212 #[.pointer (some ⟨b,0,none⟩),.agg C] w (bZ w b s (jA (au s) (8*s.size) L D p T)):=by
 obtain⟨d,hd⟩:∃d,jA (au s) (8*s.size) L D p T=d:=⟨_,rfl⟩;rw[hd];have hd:=uf.symm.trans hd;have hlt:=h.lt;have hne:w.heap.size≠b:=by omega
 have hA:Below w.heap.size w (w.alloc (.cells C 191)):=(Below.refl _ _).alloc (Nat.le_refl _) _;have hS1:=h.later hA;have hB1:=hBk.later hA;have hku:KU b w (w.alloc (.cells C 191)):=(KU.refl b w).later hA hlt;have hat:=alloc_at w (.cells C 191);have HN:=af (And.intro hs (And.intro hbb (And.intro hL hD)));have HT:=af hT;have HLn:=af (g9 hL);obtain⟨C1,C2,rfl,b1,b2⟩:=hBk;have hz1:=b1.size;have hz2:=b2.size;have HZ:=af (And.intro hz1 (show(C1++C2).size=38 by rw[Array.size_append,hz1,hz2]));have HRG:Hid (∀W:World,W.heap[w.heap.size]?=some (Obj.cells (C1++C2) 191)->W.rangeAt w.heap.size 0 C1.toList):=fun W h=>(fU h hz1).1;have HBV:Hid (∀W,cY W base L D (C1++C2)->bm W base L C1):=by
  intro W hW;obtain⟨E1,E2,e,f1,f2⟩:=hW;have:=f1.size;have e1:C1=E1:=by
   have h1:=congrArg Array.toList e;simp only[Array.toList_append]at h1;have h2:=List.append_inj h1 (by simp[hz1,this]);exact Array.ext' h2.1
  rw[e1];exact f1
 clear b1 b2 h hbb hL hD hT hz1 hz2 hs;generalize hC:C1++C2=C at *
 go_enter Tryz.func212,Tryz.ntmps212;have HX:=af (And.intro hku (And.intro hS1 (And.intro hB1 hat)));clear hku hS1 hB1 hat hA;have HSy:=af (rn b p base C1 L s (w.alloc (.cells C 191)) (ae HBV _ (ae HX).2.2.1) (ae HN).2.1 (ae HN).2.2.1 (ae HN).1 (ae HX).2.1.1 hp);clear hp;unfold SyP at HSy;rcases h1:dec L (au s) (8*s.size) p with _|⟨k,q⟩
 ·
  rw[h1]at HSy hd;have Hn:Hid (d=none):=by show d=none;rw[←hd];rfl
  clear h1 hd;go_wp2_with (refine aP rfl 186 (.tmp 6) rfl w.heap.size 0 rfl C1 _ (ae HRG _ (ae HX).2.2.2) Tryz.underlying186 rfl (by rw[(ae HZ).1];exact Tryz.infoLitB) ?_);refine(ae HSy).mono ?_;rintro e x1 ⟨k1,rfl⟩;refine⟨rfl,?_⟩;unfold bZ;rw[ae Hn];exact⟨(ae HX).1.trans k1.ku,rfl⟩
 rw[h1]at HSy hd;have hb:=fy h1;clear h1;simp only[Option.bind_some]at hd;go_wp2_with (refine aP rfl 186 (.tmp 6) rfl w.heap.size 0 rfl C1 _ (ae HRG _ (ae HX).2.2.2) Tryz.underlying186 rfl (by rw[(ae HZ).1];exact Tryz.infoLitB) ?_);refine(ae HSy).mono ?_;rintro e x1 ⟨k1,rfl,r1⟩;have HI:Hid (TkI b w.heap.size base s L D C d w (.int .i64 k) x1):=
  ⟨k,q,T,rfl,hb.2.2.1,by have:=ae HLn;omega,(ae HX).1.trans k1.ku,(ae HX).2.1.keep1 k1 r1,ae HT,hb.1,k1.ku.books (ae HX).2.2.2 hne,(ae HX).2.2.1.keep1 k1 (ae HN).2.1,hd⟩
 clear k1 r1 HSy hb hd HX HT;go_wp2_with fail
 go_loopw [4] (fun i wr=>TkI b w.heap.size base s L D C d w i wr) (fun _ wr=>8*s.size-mx b wr)
 case atStart=>exact ae HI
 case round=>
  obtain⟨k,q,R,rfl,k0,k1,hku,hsou,hR,hq,hat,hbk,hn⟩:=hrel;clear HI;have HX:=af (And.intro hku (And.intro hsou (And.intro hR (And.intro hq (And.intro hat hbk)))));have HNx:=af hn;have HPl:=af (hsou.place hq);clear hku hsou hR hq hat hbk hn;by_cases hk:k=256
  ·
   subst hk;go_wp2
   go_end0
   unfold bZ;rw[←ae HNx];unfold pn;rw[if_pos rfl];exact⟨(ae HX).1,rfl,(ae HX).2.1⟩
  have hkb:(k == 256)=false:=by rw[beq_eq_false_iff_ne];exact hk
  have HTk:=af (EK b q base k L D C s wr (ae HX).2.1.1 k0 k1 hk (ae HX).2.2.2.2.2 (ae HN).2.1 (ae HN).2.2.2 (ae HN).1);have HRW:=af (pC (ae HX).2.2.2.2.1);unfold TkP at HTk;rcases h2:okG (oneG (au s) (8*s.size) D k q)with _|⟨t,r⟩
  ·
   rw[h2]at HTk;have Hn:Hid (d=none):=by show d=none;rw[←ae HNx];exact DW hk h2
   clear h2;go_wp2_with (refine aP rfl 191 (.tmp 3) rfl w.heap.size 0 rfl C _ (ae HRW) Tryz.underlying191 rfl (by rw[(ae HZ).2];exact Tryz.infoBooks) ?_);refine(ae HTk).mono ?_;rintro e x2 ⟨k2,rfl⟩;refine⟨rfl,?_⟩;unfold bZ;rw[ae Hn];exact⟨(ae HX).1.trans k2.ku,rfl⟩
  rw[h2]at HTk;obtain⟨n1,n2,n3⟩:=Ag (L:=L) (R:=R) hk h2;have Hrb:=af (pZ n1 (ae HX).2.2.2.1);rw[n3]at HNx;have Hok:=af n2;clear h2 n1 n2 n3;go_wp2_with (refine aP rfl 191 (.tmp 3) rfl w.heap.size 0 rfl C _ (ae HRW) Tryz.underlying191 rfl (by rw[(ae HZ).2];exact Tryz.infoBooks) ?_);refine(ae HTk).mono ?_;rintro e x2 ⟨k2,rfl,r2⟩;have HX2:=af (And.intro ((ae HX).1.trans k2.ku) (And.intro ((ae HX).2.1.keep1 k2 r2) (And.intro (k2.ku.books (ae HX).2.2.2.2.1 hne) ((ae HX).2.2.2.2.2.keep1 k2 (ae HN).2.1))));have HRq:=af (And.intro (ae HX).2.2.1 (ae HX).2.2.2.1);clear k2 r2 HTk HX HRW;have HLy:=af (Bz b r s R t x2 (ae HX2).2.1 (ae HRq).1 (ae Hok));generalize dX t=tv at *
  unfold bZ at HLy;rcases h3:dE R t with _|R'
  ·
   rw[h3]at HLy HNx;have Hn:Hid (d=none):=by show d=none;rw[←ae HNx];rfl
   clear h3;go_wp2_with fail;refine(ae HLy).mono ?_;rintro e x3 ⟨k3,rfl⟩;refine⟨rfl,?_⟩;unfold bZ;rw[ae Hn];exact⟨(ae HX2).1.trans k3,rfl⟩
  rw[h3]at HLy HNx;have HR':=af (mO h3);clear h3;simp only[Option.bind_some]at HNx;rw[uf]at HNx;go_wp2_with fail;refine(ae HLy).mono ?_;rintro e x3 ⟨k3,rfl,s3⟩;have HX3:=af (And.intro ((ae HX2).1.trans k3) (And.intro s3 (And.intro (k3.books (ae HX2).2.2.1 hne) ((ae HX2).2.2.2.ku k3 (ae HN).2.1))));clear k3 s3 HLy HX2;have HSy:=af (rn b r base C1 L s x3 (ae HBV _ (ae HX3).2.2.2) (ae HN).2.1 (ae HN).2.2.1 (ae HN).1 (ae HX3).2.1.1 (ae Hrb).1);have HRg3:=af (ae HRG _ (ae HX3).2.2.1);unfold SyP at HSy;rcases h4:dec L (au s) (8*s.size) r with _|⟨k',q'⟩
  ·
   rw[h4]at HSy HNx;have Hn:Hid (d=none):=by show d=none;rw[←ae HNx];rfl
   clear h4;go_wp2_with (refine aP rfl 186 (.tmp 12) rfl w.heap.size 0 rfl C1 _ (ae HRg3) Tryz.underlying186 rfl (by rw[(ae HZ).1];exact Tryz.infoLitB) ?_);refine(ae HSy).mono ?_;rintro e x4 ⟨k4,rfl⟩;refine⟨rfl,?_⟩;unfold bZ;rw[ae Hn];exact⟨(ae HX3).1.trans k4.ku,rfl⟩
  rw[h4]at HSy HNx;have hb:=fy h4;clear h4;simp only[Option.bind_some]at HNx;go_wp2_with (refine aP rfl 186 (.tmp 12) rfl w.heap.size 0 rfl C1 _ (ae HRg3) Tryz.underlying186 rfl (by rw[(ae HZ).1];exact Tryz.infoLitB) ?_);refine(ae HSy).mono ?_;rintro e x4 ⟨k4,rfl,r4⟩;have hs4:=(ae HX3).2.1.keep1 k4 r4;have HP4:=af (hs4.place hb.1);have HI:Hid (TkI b w.heap.size base s L D C d w (.int .i64 k') x4):=
   ⟨k',q',R',rfl,hb.2.2.1,by have:=ae HLn;omega,(ae HX3).1.trans k4.ku,hs4,ae HR',hb.1,k4.ku.books (ae HX3).2.2.1 hne,(ae HX3).2.2.2.keep1 k4 (ae HN).2.1,ae HNx⟩
  have Hm:Hid (q<q'/\q'<=8*s.size):=⟨by have:=ae Hrb;omega,hb.1⟩;clear k4 r4 hs4 hb HSy HRg3 HX3;go_wp2_with fail;go_roundw
  case rel=>exact ae HI
  case measure=>rw[ae HP4,ae HPl];have:=ae Hm;omega
theorem dk.below{w w':World}{B:Nat}(h:dk w)(hb:Below B w w')(hB:1<B):dk w':=
 ⟨fun j v hv=>(hb.cell (p:=⟨1,0+j,none⟩) hB).trans (h.1 j v hv),Nat.lt_of_lt_of_le h.2 hb.size⟩
theorem dk.cell{w:World}{k:Nat}(h:dk w)(hk:k<19):w.cell? ⟨1,k,none⟩=some (.int .i64 (bw.getD k 0:Nat)):=by
 have:=h.1 k (.int .i64 (bw.getD k 0:Nat)) (by rw[Array.getElem?_toList];exact xJ k hk);rwa[Nat.zero_add]at this
theorem Hv{m k:Nat}(h:k<m)(hm:m<=19):(bw.take m).drop k=bw.getD k 0 :: (bw.take m).drop (k+1):=by
 have h1:k<(bw.take m).length:=by rw[List.length_take];have:bw.length=19:=rfl;omega
 rw[List.drop_eq_getElem_cons h1]
 congr 1
 have h2:k<bw.length:=by have:bw.length=19:=rfl;omega
 simp[List.getD,h2]
def LbP(w:World)(b:Nat)(s:ByteArray)(d:Option (List Int×Nat))(e:Ending)(w':World):Prop:=
 ax b w w'/\match d with
  | none=>e=iJ
  | some (l,q)=>(∃C,e = .returned (.agg C)/\bm w' w.heap.size l C)/\Rdr w' b s q
theorem ax.set{b g o:Nat}{w x:World}(h:ax b w x)(hg:w.heap.size<=g)(hb:b<w.heap.size)(u:Value):ax b w (x.setCell ⟨g,o,none⟩ u):=
 ⟨ai h.1 (by omega) u,fun j hj hne=>(Below.heap_setCell _ _ _ j (by show j≠g;omega)).trans (h.2 j hj hne),fun j hj=>⟨by rw[World.cell?_setCell_other _ _ _ _ (by simp only[ne_eq,Addr.mk.injEq];omega)];exact(h.3 j hj).1,by simpa using(h.3 j hj).2⟩⟩
theorem ax.setCells{b g:Nat}{w x:World}(h:ax b w x)(hg:w.heap.size<=g)(hb:b<w.heap.size)(o:Nat)(us:List Value):ax b w (x.setCells g o us):=by
 have hk:∀j,j≠g->(x.setCells g o us).heap[j]?=x.heap[j]?:=fun j hj=>cW _ _ _ _ j hj;refine⟨below_setCells (by omega) _ _ _ h.1,fun j hj hne=>(hk j (by omega)).trans (h.2 j hj hne),fun j hj=>?_⟩;have h1:=hk b (by omega);exact⟨(World.cell?_of_block (w:=x) h1 (a:=⟨b,j,none⟩)).trans (h.3 j hj).1,by rw[World.frozen?_setCells];exact(h.3 j hj).2⟩
theorem Rdr.set{b g o p:Nat}{s:ByteArray}{x:World}(h:Rdr x b s p)(hne:g≠b)(u:Value):Rdr (x.setCell ⟨g,o,none⟩ u) b s p:=by
 obtain⟨c0,c1,c2,g0,g1,g2,hb⟩:=h;exact⟨by rw[World.cell?_setCell_other _ _ _ _ (by simp only[ne_eq,Addr.mk.injEq];omega)];exact c0,by rw[World.cell?_setCell_other _ _ _ _ (by simp only[ne_eq,Addr.mk.injEq];omega)];exact c1,by rw[World.cell?_setCell_other _ _ _ _ (by simp only[ne_eq,Addr.mk.injEq];omega)];exact c2,by simpa using g0,by simpa using g1,by simpa using g2,by simpa using hb⟩
theorem yz{b g n:Nat}{w w':World}(h:w.there g 0 n)(hk:ax b w w')(hg:g<w.heap.size)(hne:g≠b):w'.there g 0 n:=fun j hj=>by
 obtain⟨t1,t2⟩:=h j hj;have h1:=hk.2 g hg hne;exact⟨by rw[World.cell?_of_block (w:=w) h1 (a:=⟨g,0+j,none⟩)];exact t1,by rw[World.frozen?_of_block (w:=w) h1 (a:=⟨g,0+j,none⟩)];exact t2⟩
theorem ar.keep1'{w w':World}{b base:Nat}{v:Value}{l:List Int}(h:ar w base v l)(hk:ax b w w')(hb:b<base):ar w' base v l:=hk.own h hb
def LbI(b gL many:Nat)(s:ByteArray)(d:Option (List Int×Nat))(w:World)(i:Value)(wr:World):Prop:=
 ∃(k q:Nat) (l:List Int),i = .int .i64 k/\k<=many/\ax b w wr/\Rdr wr b s q/\q<=8*s.size/\ar wr (w.heap.size+1) (.slice (some ⟨gL,0,none⟩) 19 19) l/\l.length=19/\wr.there w.heap.size 0 19/\dk wr/\w.heap.size<wr.heap.size/\lbG (au s) (8*s.size) ((bw.take many).drop k) q l=d
set_option maxRecDepth 100000 in
theorem vo(b p many:Nat)(s:ByteArray)(w:World)(h:Rdr w b s p)(hp:p<=8*s.size)(hs:s.size<=2000000)(hm:many<=19)(hO:dk w)(hb:1<b) :
  Calls Tryz.prog 214 #[.pointer (some ⟨b,0,none⟩),.int .i64 (many:Nat)] w (LbP w b s (iN (au s) (8*s.size) many p)):=by
 have hmix:Tryz.prog.follows .mixedOrders=true:=by kernel_rfl
 obtain⟨i0,hi,hz0,hz1,hz2⟩:=info_parts Tryz.infoInt;obtain⟨d,hd⟩:∃d,lbG (au s) (8*s.size) (bw.take many) p (List.replicate 19 0)=d:=⟨_,rfl⟩;unfold iN;rw[hd];have hlt:=h.lt;have hmI:(many:Int)<=19:=by omega
 obtain⟨W0,hW0⟩:∃W,w.alloc (.cells nW 265)=W:=⟨_,rfl⟩;have S0:W0.heap.size=w.heap.size+1:=by rw[←hW0];exact cV _ _
 have B0:Below w.heap.size w W0:=by rw[←hW0];exact(Below.refl _ _).alloc (Nat.le_refl _) _
 have T0:W0.there w.heap.size 0 19:=by rw[←hW0];exact fK w nW _ _ rfl
 have HX:=af (And.intro h (And.intro hp (And.intro hO (And.intro B0 (And.intro T0 S0)))));have HN:=af (And.intro hs (And.intro hm (And.intro hb hlt)));have HD:=af hd;have E0:=af hW0;unfold nW at E0;clear h hp hs hm hO hb hlt hd hW0 B0 T0 S0;go_enter Tryz.func214,Tryz.ntmps214;go_wp2_with (at_make;refine wpList_make_full _ rfl _ _ 154 rfl (w.heap.size+1) 3 i0 (.int .i64 0) 1 Tryz.underlying154 hi hz0 hz1 .i64 .i64 _ _ 19 rfl rfl rfl rfl (by rw[hz2];omega) (by unfold maxLen;omega) (by simp) ?_;intro w1 hown hgrow);rw[ae E0]at hown hgrow;rw[(ae HX).2.2.2.2.2]at hown;have hO1:ar w1 (w.heap.size+1) (.slice (some ⟨w.heap.size+1,0,none⟩) 19 19) (List.replicate 19 0):=gE hown;have hb1:Below (w.heap.size+1) W0 w1:=(Below.refl _ _).grown hgrow (by rw[(ae HX).2.2.2.2.2];exact Nat.le_refl _) (fun k h=>by cases h);clear hown hgrow hi hz0 hz1 hz2 E0;have HI:Hid (LbI b (w.heap.size+1) many s d w (.int .i64 (0:Nat)) w1):=by
  obtain⟨h,hp,hO,B0,T0,S0⟩:=ae HX;have hlt:=(ae HN).2.2.2;have bb:Below w.heap.size w w1:=B0.trans (hb1.mono (Nat.le_succ _));refine⟨0,p,List.replicate 19 0,rfl,Nat.zero_le _,(ax.refl b w).later bb hlt,h.kept (bb.mono hlt),hp,hO1,by simp,?_,hO.later bb,by have:=hb1.size;omega,ae HD⟩;intro j hj;obtain⟨t1,t2⟩:=T0 j hj;exact⟨by rw[hb1.cell (p:=⟨w.heap.size,0+j,none⟩) (Nat.lt_succ_self _)];exact t1,by rw[hb1.frozen (p:=⟨w.heap.size,0+j,none⟩) (Nat.lt_succ_self _)];exact t2⟩
 clear HX HD hO1 hb1
 go_loopw [6,9] (fun _ i wr=>LbI b (w.heap.size+1) many s d w i wr) (fun _ i _=>many-(intOf i).toNat)
 case atStart=>exact ae HI
 case round=>
  obtain⟨k,q,l,rfl,hk,hkp,hr,hq,ho,hl,hth,hO,hsz,hd⟩:=hrel;clear HI;have hne:w.heap.size+1≠b:=by have:=(ae HN).2.2.2;omega
  by_cases hkm:k<many
  ·
   have hkI:(k:Int)<(many:Int):=by omega
   have hk19:k<19:=by have:=(ae HN).2.1;omega
   have hol:=Hw k hk19;rw[Hv hkm (ae HN).2.1]at hd;simp only[lbG]at hd;have HM:=af (bv b q 3 s wr.drew (show Rdr wr.drew b s q from hr) (ae HN).1 (by omega));have HX:=af (And.intro hkp (And.intro hr (And.intro hq (And.intro ho (And.intro hl (And.intro hth (And.intro hO hsz)))))));have HSW:Hid (∀W,ax b wr.drew W->W.cell? ⟨1,k,none⟩=some (.int .i64 (bw.getD k 0:Nat))):=fun W h=>(dk.below (w:=wr.drew) (show dk wr.drew from hO) h.1 (ae HN).2.2.1).cell hk19;have HLD:=af hd;clear hkp hr hq ho hl hth hO hsz hk hd;generalize bw.getD k 0=o at *
   have hoI:(o:Int)<19:=by omega
   go_wp2_with fail;refine wp_region_held_drew (S:=fun W=>W.cell? ⟨1,k,none⟩=some (.int .i64 (o:Nat))) hmix (ae HSW _ (ax.refl _ _)) (fun hS=>?_);refine ag 0 (.slice (some ⟨w.heap.size+1,0,none⟩) 19 19) rfl (by kernel_rfl) (fun _ _ _ h=>h) rfl (fun W hSw=>by go_simp) hS ?_;refine ag 1 (.int .i64 (k:Nat)) rfl (by kernel_rfl) (fun _ _ _ h=>h) rfl (fun W hSw=>by go_simp) hS ?_;refine ag 2 (.pointer (some ⟨1,k,none⟩)) rfl (by kernel_rfl) (fun _ _ _ h=>h) rfl (fun W hSw=>by go_simp<;>(intro h;omega)) hS ?_;refine ag 3 (.int .i64 (o:Nat)) rfl (by kernel_rfl) (fun _ _ _ h=>h) rfl (fun W hSw=>by go_simp) hS ?_;refine ag 4 (.pointer (some ⟨b,0,none⟩)) rfl (by kernel_rfl) (fun _ _ _ h=>h) rfl (fun W hSw=>by go_simp) hS ?_;refine ah 5 (by kernel_rfl) rfl fun K hK=>?_;go_simp;go_at_call 208;unfold gP at HM;rcases h1:rdN (au s) (8*s.size) q 3 with _|⟨x,q1⟩
   ·
    rw[h1]at HM HLD;have Hn:Hid (d=none):=by show d=none;rw[←ae HLD];rfl
    refine(ae HM).mono ?_;rintro e x1 ⟨k1,rfl⟩;refine⟨rfl,?_⟩;unfold LbP;rw[ae Hn];exact⟨(ae HX).1.trans ((ax.refl b wr).drew.trans k1),rfl⟩
   ·
    rw[h1]at HM HLD;simp only[Option.bind_some]at HLD;have HB1:=af (br h1);clear h1;refine(ae HM).mono ?_;rintro e x1 ⟨k1,rfl,r1⟩;refine Shut.out hK _ _ (ae HSW _ k1) (fun hS2=>?_);clear hK K;have k1':ax b wr x1:=(ax.refl b wr).drew.trans k1;have hlt:=(ae HN).2.2.2;have o1:=(ae HX).2.2.2.1.keep1' k1' (by omega);obtain⟨c1,f1,_,_⟩:=o1.at (ae HX).2.2.2.2.1 hol;refine wpAnyH_take (i:=6) (v:=.pointer (some ⟨w.heap.size+1,o,none⟩)) rfl (by kernel_rfl) (by kernel_rfl) (by kernel_rfl) (fun _ _ _ h=>h) (Or.inl ⟨by rfl,fun W hSw=>by go_simp<;>(intro h;omega)⟩) hS2 ?_;refine ah 7 (by kernel_rfl) rfl fun K hK=>?_;go_simp;have hgs:w.heap.size<wr.heap.size:=(ae HX).2.2.2.2.2.2.2;have th1:=yz (ae HX).2.2.2.2.2.1 k1' hgs (by omega);have HI:Hid (LbI b (w.heap.size+1) many s d w (.int .i64 (k+1:Nat)) (x1.setCell ⟨w.heap.size+1,o,none⟩ (.int .i64 (x:Nat)))):=by
     refine⟨k+1,q1,l.set o (x:Nat),rfl,hkm,((ae HX).1.trans k1').set (by omega) hlt _,r1.set hne _,(ae HB1).1,o1.put (ae HX).2.2.2.2.1 _,by rw[List.length_set];exact(ae HX).2.2.2.2.1,?_,?_,by simp;exact Nat.lt_of_lt_of_le hgs k1'.1.size,ae HLD⟩
     · intro j hj;obtain⟨t1,t2⟩:=th1 j hj;exact⟨by rw[World.cell?_setCell_other _ _ _ _ (by simp)];exact t1,by simpa using t2⟩
     · exact((ae HX).2.2.2.2.2.2.1.below k1'.1 (ae HN).2.2.1).below (ai (Below.refl b x1) (by omega) _) (ae HN).2.2.1
    have hS3:(x1.setCell ⟨w.heap.size+1,o,none⟩ (.int .i64 (x:Nat))).cell? ⟨1,k,none⟩=some (.int .i64 (o:Nat)):=by
     rw[World.cell?_setCell_other _ _ _ _ (by simp only[ne_eq,Addr.mk.injEq];have:=(ae HN).2.2.1;omega)];exact hS2
    refine Shut.out hK _ _ hS3 (fun _=>?_);clear hK K;refine wpAnyH_done (by kernel_rfl) ?_ _;clear hS hS2 hS3 k1 k1' r1 o1 th1 HSW HM HX c1 f1;generalize x1.setCell ⟨w.heap.size+1,o,none⟩ (.int .i64 (x:Nat))=x2 at *
    go_wp2_with fail;go_roundw
    case rel=>exact ae HI
    case measure=>simp[intOf];omega
  ·
   have hkI:¬ (k:Int)<(many:Int):=by omega
   have e0:(bw.take many).drop k=[]:=List.drop_eq_nil_of_le (by rw[List.length_take];omega);rw[e0]at hd;simp only[lbG]at hd;have HE:=af hd;have hlt:=(ae HN).2.2.2;have HJ:=af (cw hl (ho.own hl));have HFB:=af (DF _ 19 19 (w.heap.size+1) l wr hl (ae HJ) (by omega) (by omega));have HX:=af (And.intro hkp (And.intro hr (And.intro hth hsz)));clear hkp hr hq ho hl hth hO hsz hk e0;cases hok:ap l
   · rw[hok]at HFB;simp only[Bool.false_eq_true,if_false]at HFB;have HOk:=af hok;clear hok hd;go_wp2_with fail;refine(ae HFB).mono ?_;rintro e x1 ⟨b1,rfl⟩;refine⟨rfl,?_⟩;unfold LbP;rw[←ae HE];simp only[Option.bind_some];rw[ae HOk];exact⟨(ae HX).1.later b1 (ae HX).2.1.lt,rfl⟩
   ·
    rw[hok]at HFB;simp only[if_true]at HFB;have HOk:=af hok;clear hok hd;go_wp2_with fail;refine(ae HFB).mono ?_;rintro e x1 ⟨b1,C,rfl,hB⟩;have HTh:Hid (x1.there w.heap.size 0 19):=fun j hj=>by
     obtain⟨t1,t2⟩:=(ae HX).2.2.1 j hj;have hlt:=(ae HX).2.2.2;exact⟨by rw[b1.cell (p:=⟨w.heap.size,0+j,none⟩) hlt];exact t1,by rw[b1.frozen (p:=⟨w.heap.size,0+j,none⟩) hlt];exact t2⟩
    have HSz:=af hB.size;have HOne:=af hB.one;have HY:=af (And.intro ((ae HX).1.later b1 (ae HX).2.1.lt) (And.intro ((ae HX).2.1.kept (b1.mono (ae HX).2.1.lt)) hB));clear b1 hB HFB HJ HX;go_wp2_with (refine wpList_store_mid rfl 265 (.tmp 4) (.tmp 21) rfl w.heap.size 0 C rfl rfl (by rw[ae HSz];exact ae HTh) (by rw[ae HSz];exact Tryz.infoLenB) (ae HOne) ?_);obtain⟨k1,r1,hB⟩:=ae HY;have hr:=World.rangeAt_setCells_same x1 w.heap.size 0 C.toList (by rw[Array.length_toList,ae HSz];exact ae HTh);have hk:∀j,j≠w.heap.size->(x1.setCells w.heap.size 0 C.toList).heap[j]?=x1.heap[j]?:=fun j hj=>cW _ _ _ _ j hj;have hz:(x1.setCells w.heap.size 0 C.toList).heap.size=x1.heap.size:=size_setCells _ _ _ _;refine bodyPost_ret (dQ rfl _ _ w.heap.size _ _ rfl hr Tryz.underlying265 rfl (by rw[Array.length_toList,ae HSz];exact Tryz.infoLenB)) rfl ?_;unfold LbP;rw[←ae HE];simp only[Option.bind_some];rw[ae HOk];refine⟨k1.setCells (Nat.le_refl _) hlt _ _,⟨C,by simp,(hB.touch hz hk (Nat.lt_succ_self _)).mono (Nat.le_succ _)⟩,?_⟩;obtain⟨c0,c1,c2,g0,g1,g2,hb⟩:=r1;have hkb:=hk b (by omega);have hc:∀j,(x1.setCells w.heap.size 0 C.toList).cell? ⟨b,j,none⟩=x1.cell? ⟨b,j,none⟩:=fun j=>World.cell?_of_block (w:=x1) hkb (a:=⟨b,j,none⟩);have hf:∀j,(x1.setCells w.heap.size 0 C.toList).frozen? ⟨b,j,none⟩=x1.frozen? ⟨b,j,none⟩:=fun j=>World.frozen?_of_block (w:=x1) hkb (a:=⟨b,j,none⟩);exact⟨(hc 0).trans c0,(hc 1).trans c1,(hc 2).trans c2,(hf 0).trans g0,(hf 1).trans g1,(hf 2).trans g2,by rw[hz];exact hb⟩
theorem Rdr.place{w:World}{b p:Nat}{s:ByteArray}(h:Rdr w b s p)(hp:p<=8*s.size):mx b w=p:=by
 have h1:=(h.at hp).2.1;unfold mx;rw[h1];simp[intOf]
theorem ax.book{w w':World}{b g:Nat}{C:Array Value}{t:TypeId}(h:ax b w w')(hg:w.heap[g]?=some (Obj.cells C t))(hne:g≠b):w'.heap[g]?=some (Obj.cells C t):=by
 have hlt:g<w.heap.size:=by
  rcases Nat.lt_or_ge g w.heap.size with h1|h1
  · exact h1
  · rw[Array.getElem?_eq_none h1]at hg;cases hg
 rw[h.2 g hlt hne];exact hg
theorem qU{x:World}{base n k:Nat}{v:Value}{l:List Int}{y:Int}(hn:l.length=n)(h:x.ownsRow base 3 1 v (n+k) (l.map (Value.int .i64)++List.replicate k (.int .i64 y))):ar x base v (l++List.replicate k y):=by
 show World.ownsRow _ _ _ _ _ (l++List.replicate k y).length _;rw[List.length_append,List.length_replicate,hn,List.map_append,List.map_replicate];exact h
theorem Rdr.block{x x':World}{b p:Nat}{s:ByteArray}(h:Rdr x b s p)(hk:x'.heap[b]?=x.heap[b]?)(hs:x.heap.size<=x'.heap.size):Rdr x' b s p:=by
 obtain⟨c0,c1,c2,g0,g1,g2,hb⟩:=h;have hc:∀j,x'.cell? ⟨b,j,none⟩=x.cell? ⟨b,j,none⟩:=fun j=>World.cell?_of_block (w:=x) hk (a:=⟨b,j,none⟩);have hf:∀j,x'.frozen? ⟨b,j,none⟩=x.frozen? ⟨b,j,none⟩:=fun j=>World.frozen?_of_block (w:=x) hk (a:=⟨b,j,none⟩);exact⟨(hc 0).trans c0,(hc 1).trans c1,(hc 2).trans c2,(hf 0).trans g0,(hf 1).trans g1,(hf 2).trans g2,by omega⟩
theorem wG{b:Nat}{w x x':World}{v:Value}{n:Nat}{xs:List Value}{t:TypeId}(hk:ax b w x)(ho:x.ownsRow (w.heap.size+1) t 1 v n xs)(hg:x.grownBy x' v.ownBlock)(hb:b<w.heap.size) :
  ax b w x'/\∀j,j<=w.heap.size->j<x.heap.size->x'.heap[j]?=x.heap[j]?:=by
 have hne:∀j,j<=w.heap.size->some j≠v.ownBlock:=fun j hj e=>by
  have:=(World.ownsRow.lt ho j e.symm).1;omega
 have hs:=hk.1.size;have hbk:=hg.block b (by omega) (hne b (by omega));refine⟨⟨hk.1.grown hg (by omega) (fun k h=>by have:=(World.ownsRow.lt ho k h).1;omega),fun j hj h=>(hg.block j (by omega) (hne j (by omega))).trans (hk.2 j hj h),fun j hj=>⟨(World.cell?_of_block (w:=x) hbk (a:=⟨b,j,none⟩)).trans (hk.3 j hj).1,(World.frozen?_of_block (w:=x) hbk (a:=⟨b,j,none⟩)).trans (hk.3 j hj).2⟩⟩,fun j hj h=>hg.block j h (hne j hj)⟩
def LnP(w:World)(b:Nat)(s:ByteArray)(d:Option (List Int×Nat))(e:Ending)(w':World):Prop:=
 ax b w w'/\match d with
  | none=>e=iJ
  | some (l,q)=>(∃v,e = .returned v/\ar w' w.heap.size v l)/\Rdr w' b s q
def LnI(b many:Nat)(s:ByteArray)(B:List Int)(C:Array Value)(d:Option (List Int×Nat))(w:World)(v:Value)(wr:World):Prop:=
 ∃(q:Nat) (A:List Int),ar wr (w.heap.size+1) v A/\A.length<=600/\ax b w wr/\Rdr wr b s q/\q<=8*s.size/\wr.heap[w.heap.size]?=some (Obj.cells C 265)/\w.heap.size<wr.heap.size/\lnG (au s) (8*s.size) B many q A=d
def LnS(b:Nat)(s:ByteArray)(C:Array Value)(w x:World)(v:Value)(A:List Int)(q:Nat):Prop:=
 ar x (w.heap.size+1) v A/\ax b w x/\Rdr x b s q/\q<=8*s.size/\x.heap[w.heap.size]?=some (Obj.cells C 265)/\w.heap.size<x.heap.size
theorem LnS.keep{b q q':Nat}{s:ByteArray}{C:Array Value}{w x x':World}{v:Value}{A:List Int}(h:LnS b s C w x v A q)(hb:b<w.heap.size)(hk:ax b x x')(hr:Rdr x' b s q')(hq:q'<=8*s.size):LnS b s C w x' v A q':=by
 obtain⟨h1,h2,h3,h4,h5,h6⟩:=h;exact⟨h1.keep1' hk (by omega),h2.trans hk,hr,hq,hk.book h5 (by omega),Nat.lt_of_lt_of_le h6 hk.1.size⟩
theorem LnS.below{b q:Nat}{s:ByteArray}{C:Array Value}{w x x':World}{v:Value}{A:List Int}(h:LnS b s C w x v A q)(hb:b<w.heap.size)(hk:Below x.heap.size x x'):LnS b s C w x' v A q:=by
 have h2:=h.2.2.1.lt;exact h.keep hb ((ax.refl b x).later hk h2) (h.2.2.1.kept (hk.mono h2)) h.2.2.2.1
theorem LnS.grown{b q:Nat}{s:ByteArray}{C:Array Value}{w x x':World}{v v':Value}{A A':List Int}(h:LnS b s C w x v A q)(hb:b<w.heap.size)(hg:x.grownBy x' v.ownBlock)(ho:ar x' (w.heap.size+1) v' A'):LnS b s C w x' v' A' q:=by
 obtain⟨h1,h2,h3,h4,h5,h6⟩:=h;obtain⟨g1,g2⟩:=wG h2 h1 hg hb;exact⟨ho,g1,h3.block (g2 b (by omega) h3.lt) hg.size,h4,(g2 _ (Nat.le_refl _) h6).trans h5,Nat.lt_of_lt_of_le h6 hg.size⟩
theorem LnS.done{b many q:Nat}{s:ByteArray}{B:List Int}{C:Array Value}{d:Option (List Int×Nat)}{w x:World}{v:Value}{A:List Int}(h:LnS b s C w x v A q)(hA:A.length<=600)(hd:lnG (au s) (8*s.size) B many q A=d):LnI b many s B C d w v x:=
 ⟨q,A,h.1,hA,h.2.1,h.2.2.1,h.2.2.2.1,h.2.2.2.2.1,h.2.2.2.2.2,hd⟩
set_option maxRecDepth 100000 in
theorem vp(b p many base:Nat)(s:ByteArray)(B:List Int)(C:Array Value)(w:World)(h:Rdr w b s p)(hp:p<=8*s.size)(hs:s.size<=2000000)(hm:many<=400)(hB:bm w base B C)(hbb:b<base)(hok:ap B=true) :
  Calls Tryz.prog 213 #[.pointer (some ⟨b,0,none⟩),.int .i64 (many:Nat),.agg C] w (LnP w b s (lnG (au s) (8*s.size) B many p [])):=by
 have hmix:Tryz.prog.follows .mixedOrders=true:=by kernel_rfl
 obtain⟨i0,hi,hz0,hz1,hz2⟩:=info_parts Tryz.infoInt;obtain⟨d,hd⟩:∃d,lnG (au s) (8*s.size) B many p []=d:=⟨_,rfl⟩;rw[hd];have hlt:=h.lt;have hmI:(many:Int)<=400:=by omega
 have HI:Hid (LnI b many s B C d w (.slice none 0 0) (w.alloc (.cells C 265))):=
  ⟨p,[],ar.nil _ _,by simp,(ax.refl b w).alloc hlt _,h.alloc _,hp,alloc_at _ _,by simp,hd⟩
 have HN:=af (And.intro hs (And.intro hbb (And.intro hok hlt)));have HZ:=af hB.size;have HBK:Hid (∀W,ax b w W->bm W base B C):=fun W hW=>hB.keep1 hW hbb;clear h hp hs hm hB hbb hok hd hlt;go_enter Tryz.func213,Tryz.ntmps213;go_wp2_with fail
 go_loopw [7,8] (fun v _ wr=>LnI b many s B C d w v wr) (fun _ _ wr=>8*s.size-mx b wr)
 case atStart=>exact ae HI
 case round=>
  obtain⟨q,A,ho,hA,hkp,hr,hq,hat,hsz,hd⟩:=hrel;clear HI;obtain⟨n,hn⟩:∃n,A.length=n:=⟨_,rfl⟩;obtain⟨a,cap,rfl⟩:=ho.formN hn;have hlt:=(ae HN).2.2.2;have hne:w.heap.size≠b:=by omega
  have HPl:=af (hr.place hq);have HX:=af (And.intro ho (And.intro hkp (And.intro hr (And.intro hq (And.intro hat hsz)))));have hnI:(n:Int)<=600:=by omega
  have HA:=af hn;by_cases hnm:n<many
  ·
   have hnmI:(n:Int)<(many:Int):=by omega
   rw[xj hq (by omega)]at hd;have HSy:=af (zT b q base C B s wr (ae HBK _ hkp) (ae HN).2.1 (ae HN).2.2.1 (ae HN).1 hr hq);have HRW:=af (pC hat);clear ho hkp hr hq hat hsz hn hA;unfold SyP at HSy;rcases h1:dec B (au s) (8*s.size) q with _|⟨k,q1⟩
   ·
    rw[h1]at HSy hd;have Hn:Hid (d=none):=by show d=none;rw[←hd];rfl
    clear h1 hd;go_wp2_with (refine aP rfl 265 (.tmp 5) rfl w.heap.size 0 rfl C _ (ae HRW) Tryz.underlying265 rfl (by rw[ae HZ];exact Tryz.infoLenB) ?_);refine(ae HSy).mono ?_;rintro e x1 ⟨k1,rfl⟩;refine⟨rfl,?_⟩;unfold LnP;rw[ae Hn];exact⟨(ae HX).2.1.trans k1,rfl⟩
   rw[h1]at HSy hd;have hb1:=fy h1;simp only[Option.bind_some]at hd;clear h1;have HD:=af hd;clear hd;go_wp2_with (refine aP rfl 265 (.tmp 5) rfl w.heap.size 0 rfl C _ (ae HRW) Tryz.underlying265 rfl (by rw[ae HZ];exact Tryz.infoLenB) ?_);refine(ae HSy).mono ?_;rintro e x1 ⟨k1,rfl,r1⟩;have o1:=(ae HX).1.keep1' k1 (by omega);have HY:=af (And.intro o1 (And.intro ((ae HX).2.1.trans k1) (And.intro r1 (And.intro hb1.1 (And.intro (k1.book (ae HX).2.2.2.2.1 hne) (Nat.lt_of_lt_of_le (ae HX).2.2.2.2.2 k1.1.size))))));have Hq:=af hb1.2.1;have HS:Hid (LnS b s C w x1 (.slice a n cap) A q1):=ae HY;clear k1 r1 o1 HX HRW HSy hb1 HY;have hqo:=af ((ae HS).1.own (ae HA));have hbs:w.heap.size+1<=x1.heap.size:=(ae HS).2.2.2.2.2;have hn6:n<400:=by omega
   by_cases h16:k=16
   ·
    have b16:(k == 16)=true:=by rw[h16];rfl
    by_cases hn0:n=0
    ·
     have hg0:decide (0<n)=false:=decide_eq_false (by omega);have Hn:Hid (d=none):=by show d=none;rw[←ae HD,h16];unfold fT;rw[if_pos rfl,if_pos (by rw[ae HA];exact hn0)];rfl
     clear hn0 h16;go_wp2_with fail;refine(dP _).mono ?_;rintro e x2 ⟨rfl,hx2⟩;rw[hx2];clear hx2 x2;refine⟨rfl,?_⟩;unfold LnP;rw[ae Hn];exact⟨(ae HS).2.1,rfl⟩
    ·
     have hg0:decide (0<n)=true:=decide_eq_true (by omega);obtain⟨g,rfl⟩:=(ae HS).1.somes (by rw[ae HA];omega);have HAd:Hid (fT (au s) (8*s.size) A k q1=(rdN (au s) (8*s.size) q1 2).bind fun x=>some (A++List.replicate (3+x.1) (A.getD (n-1) 0),x.2)):=by
      show _=_;rw[h16];unfold fT;rw[if_pos rfl,if_neg (by rw[ae HA];exact hn0),ae HA]
     rw[ae HAd]at HD;obtain⟨m,hm⟩:∃m,n-1=m:=⟨_,rfl⟩;have hn1:(n:Int)-1=(m:Int):=by omega
     have hmn:m+1=n:=by omega
     rw[hm]at HD;have Hmn:=af hmn;have Hwr:Hid (IntKind.i64.wrap (m:Int)=(m:Int)):=by show _=_;rw[IntKind.wrap_i64];omega
     clear HAd h16 hm hmn;go_wp2_with fail;refine(cj _).mono ?_;rintro e x2 ⟨rfl,hx2⟩;rw[hx2];clear hx2 x2;go_wp2_with fail;have HM:=af (bv b q1 2 s x1.drew (show Rdr x1.drew b s q1 from(ae HS).2.2.1) (ae HN).1 (by omega));have hcap:n<=cap:=by
      have:=(ae hqo);rcases this.2 with⟨e,_⟩|⟨g',cap',cur,e,_,_,h1,_⟩
      · cases e
      · simp only[Value.slice.injEq]at e;omega
     refine wp_region_held_drew (S:=fun _=>True) hmix trivial (fun hS=>?_);refine ag 0 (.slice (some ⟨g,0,none⟩) n cap) rfl (by kernel_rfl) (fun _ _ _ h=>h) rfl (fun W hSw=>by go_simp) hS ?_;refine ag 1 (.slice (some ⟨g,0,none⟩) n cap) rfl (by kernel_rfl) (fun _ _ _ h=>h) rfl (fun W hSw=>by go_simp) hS ?_;refine ag 2 (.slice (some ⟨g,0,none⟩) n cap) rfl (by kernel_rfl) (fun _ _ _ h=>h) rfl (fun W hSw=>by go_simp) hS ?_;refine ag 3 (.int .i64 (n:Nat)) rfl (by kernel_rfl) (fun _ _ _ h=>h) rfl (fun W hSw=>by go_simp) hS ?_;refine ag 4 (.int .i64 (m:Nat)) rfl (by kernel_rfl) (fun _ _ _ h=>h) rfl (fun W hSw=>by go_simp;exact ae Hwr) hS ?_;refine ag 6 (.pointer (some ⟨b,0,none⟩)) rfl (by kernel_rfl) (fun _ _ _ h=>h) rfl (fun W hSw=>by go_simp) hS ?_;refine ag 5 (.slice (some ⟨g,m,none⟩) 1 (cap-m)) rfl (by kernel_rfl) (fun _ _ _ h=>h) rfl (fun W hSw=>by go_simp;rw[if_pos (by have:=ae Hmn;omega),if_neg (by have:=ae Hmn;omega),show n-m=1 by have:=ae Hmn;omega]) hS ?_;refine ah 7 (by kernel_rfl) rfl fun K hK=>?_;go_simp;go_at_call 208;unfold gP at HM;rcases h2:rdN (au s) (8*s.size) q1 2 with _|⟨y,q2⟩
     ·
      rw[h2]at HM HD;have Hn:Hid (d=none):=by show d=none;rw[←ae HD];rfl
      refine(ae HM).mono ?_;rintro e x2 ⟨k2,rfl⟩;refine⟨rfl,?_⟩;unfold LnP;rw[ae Hn];exact⟨(ae HS).2.1.trans ((ax.refl b x1).drew.trans k2),rfl⟩
     rw[h2]at HM HD;simp only[Option.bind_some]at HD;have Hb2:=af (br h2);have hy:y<4:=by have:=(br h2).2.2.2;omega
     clear h2;refine(ae HM).mono ?_;rintro e x2 ⟨k2,rfl,r2⟩;refine Shut.out hK _ _ trivial (fun hS2=>?_);clear hK K;have HS2:=af ((ae HS).keep (ae HN).2.2.2 ((ax.refl b x1).drew.trans k2) r2 (ae Hb2).1);clear k2 r2 HM;obtain⟨c,hc⟩:∃c,3+y=c:=⟨_,rfl⟩;have Hwy:Hid (IntKind.i64.wrap (3+(y:Int))=(c:Int)):=by show _=_;rw[IntKind.wrap_i64];omega
     have hcI:(c:Int)<=7:=by omega
     have hc1:1<=c:=by omega
     rw[hc]at HD;clear hc;refine wpAnyH_take (i:=8) (v:=.int .i64 (c:Nat)) rfl (by kernel_rfl) (by kernel_rfl) (by kernel_rfl) (fun _ _ _ h=>h) (Or.inl ⟨by rfl,fun W hSw=>by go_simp;exact ae Hwy⟩) hS2 ?_;refine ah 9 (by kernel_rfl) rfl fun K hK=>?_;go_simp;go_at_call 107;have hcell:x2.cell? ⟨g,m,none⟩=some (.int .i64 (A.getD m 0)):=((ae HS2).1.at (ae HA) (by have:=ae Hmn;omega)).1;refine(my (A.getD m 0) c (cap-m) g m x2 hcell hc1 (by omega)).mono ?_;rintro e x3 ⟨rfl,o3,b3⟩;have HS3:=af ((ae HS2).below (ae HN).2.2.2 b3);have HO3:=af o3;generalize A.getD m 0=z at *
     refine Shut.out hK _ _ trivial (fun hS3=>?_);clear hK K o3 b3 hcell;refine ah 10 (by kernel_rfl) rfl fun K hK=>?_;refine an rfl _ _ 154 rfl (w.heap.size+1) 3 i0 (.int .i64 0) 1 8 Tryz.underlying154 hi hz0 hz1 hz2 rfl (by decide) (.slice (some ⟨g,0,none⟩) n cap) n _ rfl ((ae HS3).1.own (ae HA)) ⟨x2.heap.size,0,none⟩ c c ((List.replicate c z).map (Value.int .i64)) rfl (by simp) (World.ownsRow.cells ((ae HO3).own (n:=c) (by simp)) rfl) (by intro u hu;simp only[List.mem_map]at hu;obtain⟨_,_,rfl⟩:=hu;rfl) (by unfold maxLen;omega) (by omega) (by have:=(ae HS3).2.2.2.2.2;omega) (fun v' x4 hown hgrow hnil=>?_);clear hnil;rw[List.map_replicate]at hown;have hS4:=(ae HS3).grown (ae HN).2.2.2 hgrow (qU (ae HA) hown);have HI:=af (hS4.done (B:=B) (many:=many) (d:=d) (by rw[List.length_append,ae HA,List.length_replicate];omega) (ae HD));have HPx:=af (hS4.2.2.1.place hS4.2.2.2.1);clear hown hgrow hS4;refine Shut.out hK _ _ trivial (fun hS5=>?_);clear hK K;refine ah 11 (by kernel_rfl) rfl fun K hK=>?_;go_simp;refine Shut.out hK _ _ trivial (fun hS6=>?_);clear hK K;refine wpAnyH_done (by kernel_rfl) ?_ _;clear HS HS2 HS3 HO3 hqo hS hS2 hS3 hS5 hS6;go_wp2_with fail;go_roundw
     case rel=>exact ae HI
     case measure=>rw[ae HPx,ae HPl];have:=ae Hq;have:=ae Hb2;omega
   ·
    by_cases h17:k=17
    ·
     have bk:(k == 17)=true:=by rw[h17];rfl
     have b16:(k == 16)=false:=by rw[beq_eq_false_iff_ne];exact h16
     have HM:=af (bv b q1 3 s x1 (ae HS).2.2.1 (ae HN).1 (by omega));have HAd:Hid (fT (au s) (8*s.size) A k q1=(rdN (au s) (8*s.size) q1 3).bind fun x=>some (A++List.replicate (3+x.1) 0,x.2)):=by
      show _=_;rw[h17];unfold fT;rw[if_neg (by decide),if_pos rfl]
     rw[ae HAd]at HD;clear h16 h17 HAd;unfold gP at HM;rcases h2:rdN (au s) (8*s.size) q1 3 with _|⟨y,q2⟩
     ·
      rw[h2]at HM HD;have Hn:Hid (d=none):=by show d=none;rw[←ae HD];rfl
      clear h2 HD;go_wp2_with fail;refine(ae HM).mono ?_;rintro e x2 ⟨k2,rfl⟩;refine⟨rfl,?_⟩;unfold LnP;rw[ae Hn];exact⟨(ae HS).2.1.trans k2,rfl⟩
     ·
      rw[h2]at HM HD;simp only[Option.bind_some]at HD;have hb2:=br h2;have hy:y<8:=by have:=hb2.2.2.2;omega
      have Hb2:=af (And.intro hb2.1 hb2.2.1);clear h2 hb2;go_wp2_with fail;refine(ae HM).mono ?_;rintro e x2 ⟨k2,rfl,r2⟩;have HS2:=af ((ae HS).keep (ae HN).2.2.2 k2 r2 (ae Hb2).1);have hqo2:=af ((ae HS2).1.own (ae HA));have hbs2:w.heap.size+1<=x2.heap.size:=(ae HS2).2.2.2.2.2;have bd:Hid (n+(3+y)<=maxLen/\(n+(3+y))*8<=140737488355328):=by show _/\_;unfold maxLen;omega
      clear k2 r2 HM HS hqo hbs;go_wp2_with (at_builtin;refine gw _ rfl _ _ 154 3 rfl (w.heap.size+1) 3 i0 (.int .i64 0) 8 .i64 .i64 Tryz.underlying154 Tryz.underlying3 hi hz0 hz1 hz2 rfl rfl (.slice a n cap) n _ rfl (ae hqo2) (3+y) (by simp[Act.eval]) (by omega) (ae bd).1 (ae bd).2 hbs2 ?_;intro v' x3 hown hgrow);have hS3:=(ae HS2).grown (ae HN).2.2.2 hgrow (qU (ae HA) hown);have HI:=af (hS3.done (B:=B) (many:=many) (d:=d) (by rw[List.length_append,ae HA,List.length_replicate];omega) (ae HD));have HPx:=af (hS3.2.2.1.place hS3.2.2.2.1);clear hown hgrow hS3;go_wp2_with fail;go_roundw
      case rel=>exact ae HI
      case measure=>rw[ae HPx,ae HPl];have:=ae Hq;have:=ae Hb2;omega
    ·
     by_cases h18:k=18
     ·
      have bk:(k == 18)=true:=by rw[h18];rfl
      have b16:(k == 16)=false:=by rw[beq_eq_false_iff_ne];exact h16
      have b17:(k == 17)=false:=by rw[beq_eq_false_iff_ne];exact h17
      have HM:=af (bv b q1 7 s x1 (ae HS).2.2.1 (ae HN).1 (by omega));have HAd:Hid (fT (au s) (8*s.size) A k q1=(rdN (au s) (8*s.size) q1 7).bind fun x=>some (A++List.replicate (11+x.1) 0,x.2)):=by
       show _=_;rw[h18];unfold fT;rw[if_neg (by decide),if_neg (by decide),if_pos rfl]
      rw[ae HAd]at HD;clear h16 h17 h18 HAd;unfold gP at HM;rcases h2:rdN (au s) (8*s.size) q1 7 with _|⟨y,q2⟩
      ·
       rw[h2]at HM HD;have Hn:Hid (d=none):=by show d=none;rw[←ae HD];rfl
       clear h2 HD;go_wp2_with fail;refine(ae HM).mono ?_;rintro e x2 ⟨k2,rfl⟩;refine⟨rfl,?_⟩;unfold LnP;rw[ae Hn];exact⟨(ae HS).2.1.trans k2,rfl⟩
      ·
       rw[h2]at HM HD;simp only[Option.bind_some]at HD;have hb2:=br h2;have hy:y<128:=by have:=hb2.2.2.2;omega
       have Hb2:=af (And.intro hb2.1 hb2.2.1);clear h2 hb2;go_wp2_with fail;refine(ae HM).mono ?_;rintro e x2 ⟨k2,rfl,r2⟩;have HS2:=af ((ae HS).keep (ae HN).2.2.2 k2 r2 (ae Hb2).1);have hqo2:=af ((ae HS2).1.own (ae HA));have hbs2:w.heap.size+1<=x2.heap.size:=(ae HS2).2.2.2.2.2;have bd:Hid (n+(11+y)<=maxLen/\(n+(11+y))*8<=140737488355328):=by show _/\_;unfold maxLen;omega
       clear k2 r2 HM HS hqo hbs;go_wp2_with (at_builtin;refine gw _ rfl _ _ 154 3 rfl (w.heap.size+1) 3 i0 (.int .i64 0) 8 .i64 .i64 Tryz.underlying154 Tryz.underlying3 hi hz0 hz1 hz2 rfl rfl (.slice a n cap) n _ rfl (ae hqo2) (11+y) (by simp[Act.eval]) (by omega) (ae bd).1 (ae bd).2 hbs2 ?_;intro v' x3 hown hgrow);have hS3:=(ae HS2).grown (ae HN).2.2.2 hgrow (qU (ae HA) hown);have HI:=af (hS3.done (B:=B) (many:=many) (d:=d) (by rw[List.length_append,ae HA,List.length_replicate];omega) (ae HD));have HPx:=af (hS3.2.2.1.place hS3.2.2.2.1);clear hown hgrow hS3;go_wp2_with fail;go_roundw
       case rel=>exact ae HI
       case measure=>rw[ae HPx,ae HPl];have:=ae Hq;have:=ae Hb2;omega
     ·
      have b16:(k == 16)=false:=by rw[beq_eq_false_iff_ne];exact h16
      have b17:(k == 17)=false:=by rw[beq_eq_false_iff_ne];exact h17
      have b18:(k == 18)=false:=by rw[beq_eq_false_iff_ne];exact h18
      have bd:Hid (n+1<=maxLen/\(n+1)*8<=140737488355328):=by show _/\_;unfold maxLen;omega
      have HE:Hid (lnG (au s) (8*s.size) B many q1 (A++[k])=d):=by
       show _=d;rw[←ae HD];unfold fT;rw[if_neg h16,if_neg h17,if_neg h18];rfl
      clear h16 h17 h18 HD;go_wp2_with (at_builtin;refine wpList_append_own _ rfl _ _ 154 rfl (w.heap.size+1) 3 i0 (.int .i64 0) 1 8 Tryz.underlying154 hi hz0 hz1 hz2 rfl (by decide) (.slice a n cap) _ _ rfl (World.ownsRow.alloc (ae hqo) _) ⟨x1.heap.size,0,none⟩ 1 1 [.int .i64 k] rfl rfl (fQ _ _ rfl _ _) (p6 _) (ae bd).1 (ae bd).2 (aB hbs _) ?_;intro v' x2 hown hgrow hnil;clear hnil);have hS2:=((ae HS).below (ae HN).2.2.2 ((Below.refl _ _).alloc (Nat.le_refl _) (.cells #[.int .i64 k] 3))).grown (ae HN).2.2.2 hgrow (zM (ae HA) hown);have HI:=af (hS2.done (B:=B) (many:=many) (d:=d) (by rw[List.length_append,ae HA,List.length_singleton];omega) (ae HE));have HPx:=af (hS2.2.2.1.place hS2.2.2.2.1);have HQ:=af hS2.2.2.2.1;clear hown hgrow hS2;go_wp2_with fail;go_roundw
      case rel=>exact ae HI
      case measure=>rw[ae HPx,ae HPl];have:=ae Hq;have:=ae HQ;omega
  ·
   have hnmI:¬ (n:Int)<(many:Int):=by omega
   rw[xl hq (by omega)]at hd;have HD:=af hd;clear ho hkp hr hq hat hsz hn hA hd;by_cases hE:n=many
   ·
    have hEb:((n:Int) == (many:Int))=true:=by rw[hE];exact beq_self_eq_true _
    rw[if_pos (by rw[ae HA];exact hE)]at HD;clear hE;go_wp2_with fail;refine(cj _).mono ?_;rintro e x2 ⟨rfl,hx2⟩;rw[hx2];clear hx2 x2;go_wp2;go_ret;unfold LnP;rw[←ae HD];exact⟨(ae HX).2.1,⟨_,rfl,(ae HX).1.mono (Nat.le_succ _)⟩,(ae HX).2.2.1⟩
   ·
    have hEb:((n:Int) == (many:Int))=false:=by rw[beq_eq_false_iff_ne];omega
    rw[if_neg (by rw[ae HA];exact hE)]at HD;clear hE;go_wp2_with fail;refine(dP _).mono ?_;rintro e x2 ⟨rfl,hx2⟩;rw[hx2];clear hx2 x2;refine⟨rfl,?_⟩;unfold LnP;rw[←ae HD];exact⟨(ae HX).2.1,rfl⟩
theorem J0:ap (dj 288)=true:=by kernel_rfl
theorem F8:ap (List.replicate 32 (5:Int))=true:=by kernel_rfl
theorem dN.take{w:World}{base:Nat}{a:Option Addr}{l:List Int}(h:dN w base a l)(n:Nat):dN w base a (l.take n):=by
 have hl:(l.take n).length<=l.length:=by rw[List.length_take];omega
 refine⟨fun h0=>?_,fun h0=>h.2 (by omega)⟩;obtain⟨g,o,e,hg,hc⟩:=h.1 (by omega);refine⟨g,o,e,hg,fun i hi=>?_⟩;rw[hc i (by omega)];rw[List.length_take]at hi;simp[List.getD,show i<n by omega]
theorem dN.drop{w:World}{base g o:Nat}{l:List Int}(h:dN w base (some ⟨g,o,none⟩) l)(n:Nat):dN w base (some ⟨g,o+n,none⟩) (l.drop n):=by
 have hl:(l.drop n).length=l.length-n:=List.length_drop ..;refine⟨fun h0=>?_,fun h0 x e=>?_⟩
 · obtain⟨g',o',e,hg,hc⟩:=h.1 (by omega);simp only[Option.some.injEq,Addr.mk.injEq,and_true]at e;obtain⟨rfl,rfl⟩:=e;refine⟨g,o+n,rfl,hg,fun i hi=>?_⟩;have:=hc (n+i) (by omega);rw[←Nat.add_assoc]at this;rw[this];simp[List.getD,List.getElem?_drop]
 · have:=h.2 (by omega) _ rfl;simp only[Option.some.injEq]at e;subst e;exact this
set_option maxRecDepth 100000 in
theorem sF(b p:Nat)(s:ByteArray)(T:List UInt8)(w:World)(h:Sou w b s p T)(hT:T.length<=300)(hp:p<=8*s.size)(hs:s.size<=2000000) :
  Calls Tryz.prog 206 #[.pointer (some ⟨b,0,none⟩)] w (bZ w b s (zB (au s) (8*s.size) p T)):=by
 obtain⟨d,hd⟩:∃d,zB (au s) (8*s.size) p T=d:=⟨_,rfl⟩;rw[hd];have HX:=af (And.intro h (And.intro hT (And.intro hp hs)));have HD:=af hd;have hlt:=h.lt;clear h hT hp hs hd;go_enter Tryz.func206,Tryz.ntmps206;go_wp2_with fail;refine(j9 w).mono ?_;rintro e x1 ⟨⟨C,rfl,hB⟩,b1⟩;have HT:=af (sj b p (w.heap.size+1) s (dj 288) (List.replicate 32 5) C T x1 ((ae HX).1.later b1) (ae HX).2.1 (ae HX).2.2.1 (ae HX).2.2.2 hB (by omega) J0 F8);have HE:=af (show jA (au s) (8*s.size) (dj 288) (List.replicate 32 5) p T=d from ae HD);rw[ae HE]at HT;have HK:=af ((KU.refl b w).later b1 hlt);clear hB b1 HX HD HE;go_wp2_with fail;refine(ae HT).mono ?_;intro e x2 h2;unfold bZ at h2;rcases d with _|⟨T',q⟩
 · obtain⟨k2,rfl⟩:=h2;refine⟨rfl,?_⟩;unfold bZ;exact⟨(ae HK).trans k2,rfl⟩
 ·
  obtain⟨k2,rfl,s2⟩:=h2;have HY:=af (And.intro ((ae HK).trans k2) s2);clear k2 s2 HT HK;go_wp2
  go_end0
  unfold bZ;exact⟨(ae HY).1,rfl,(ae HY).2⟩
theorem bm.second{w:World}{base:Nat}{L D:List Int}{C1 C2:Array Value}(h:cY w base L D (C1++C2))(hz:C1.size=19):bm w base D C2:=by
 obtain⟨E1,E2,e,f1,f2⟩:=h;have h1:=congrArg Array.toList e;simp only[Array.toList_append]at h1;have h2:=List.append_inj h1 (by simp[hz,f1.size]);rw[Array.ext' h2.2];exact f2
theorem sx{P:Program}{ops:Array Oper}{S:World->Prop}{op:Oper}{a:Act}(hw:Region.wanted op (yielded ops a.tmps)=true)(t:TypeId)(parts:Array (Nat×Operand))(ho:op.op = .build t parts)(cells:Array Value)
  (hc:P.built t (parts.map fun(i,x)=>(i,a.eval x)).toList=some cells):YieldsIf P ops S op (.agg cells) a:=
 Or.inl ⟨hw,fun w _=>by unfold execOp;simp only[ho,Sem.run_bind,run_build w t _ cells hc,Result.andThen_ok,Sem.run_pure]⟩
theorem pW{P:Program}{ops:Array Oper}{S:World->Prop}{op:Oper}{a:Act}(hw:Region.wanted op (yielded ops a.tmps)=true)(t:TypeId)(x y:Operand)(ho:op.op = .build t #[(0,x),(1,y)])(cells:Array Value)(u v:Value)(hx:a.eval x=u)(hy:a.eval y=v)
  (hc:P.built t [(0,u),(1,v)]=some cells):YieldsIf P ops S op (.agg cells) a:=by
 have e:((#[(0,x),(1,y)]:Array (Nat×Operand)).map fun(i,x)=>(i,a.eval x)).toList=[(0,u),(1,v)]:=by simp[hx,hy]
 exact sx hw t _ ho cells (by rw[e];exact hc)
set_option maxRecDepth 100000 in
theorem xN(b p:Nat)(s:ByteArray)(T:List UInt8)(w:World)(h:Sou w b s p T)(hT:T.length<=300)(hs:s.size<=2000000)(hO:dk w)(hb:1<b) :
  Calls Tryz.prog 207 #[.pointer (some ⟨b,0,none⟩)] w (bZ w b s (rF (au s) (8*s.size) p T)):=by
 have hmix:Tryz.prog.follows .mixedOrders=true:=by kernel_rfl
 obtain⟨d,hd⟩:∃d,rF (au s) (8*s.size) p T=d:=⟨_,rfl⟩;rw[hd];have Hd:=af hd;unfold rF at Hd;have HN:=af (And.intro hs (And.intro hT (And.intro hO hb)));have HM:=af (bv b p 5 s w h.1 hs (by omega));have HS:=af h;clear h hT hs hO hb hd;go_enter Tryz.func207,Tryz.ntmps207;unfold gP at HM;rcases h1:rdN (au s) (8*s.size) p 5 with _|⟨a,q1⟩
 ·
  rw[h1]at HM Hd;have Hn:Hid (d=none):=by show d=none;rw[←ae Hd];rfl
  clear h1 Hd;go_wp2_with fail;refine(ae HM).mono ?_;rintro e x1 ⟨k1,rfl⟩;refine⟨rfl,?_⟩;unfold bZ;rw[ae Hn];exact⟨k1.ku,rfl⟩
 rw[h1]at HM Hd;simp only[Option.bind_some]at Hd;have ha:a<32:=by have:=(br h1).2.2.2;omega
 clear h1;go_wp2_with fail;refine(ae HM).mono ?_;rintro e x1 ⟨k1,rfl,r1⟩;have HK1:=af k1;have HR1:=af r1;clear k1 r1 HM;have HM:=af (bv b q1 5 s x1 (ae HR1) (ae HN).1 (by omega));unfold gP at HM;rcases h2:rdN (au s) (8*s.size) q1 5 with _|⟨c,q2⟩
 ·
  rw[h2]at HM Hd;have Hn:Hid (d=none):=by show d=none;rw[←ae Hd];rfl
  clear h2 Hd;go_wp2_with fail;refine(ae HM).mono ?_;rintro e x2 ⟨k2,rfl⟩;refine⟨rfl,?_⟩;unfold bZ;rw[ae Hn];exact⟨((ae HK1).trans k2).ku,rfl⟩
 rw[h2]at HM Hd;simp only[Option.bind_some]at Hd;have hc:c<32:=by have:=(br h2).2.2.2;omega
 clear h2;go_wp2_with fail;refine(ae HM).mono ?_;rintro e x2 ⟨k2,rfl,r2⟩;have HK2:=af ((ae HK1).trans k2);have HR2:=af r2;clear k2 r2 HM HK1 HR1;have HM:=af (bv b q2 4 s x2 (ae HR2) (ae HN).1 (by omega));unfold gP at HM;by_cases hA:a+257<=286/\c+1<=30
 ·
  rw[if_pos hA]at Hd;have hA1:(a:Int)+256+1<=286:=by omega
  have hA2:(c:Int)+1<=30:=by omega
  clear hA;obtain⟨nL,hnL⟩:∃n,a+257=n:=⟨_,rfl⟩;obtain⟨nD,hnD⟩:∃n,c+1=n:=⟨_,rfl⟩;have e1:(a:Int)+256+1=(nL:Int):=by omega
  have e2:(c:Int)+1=(nD:Int):=by omega
  have l1:nL<=286/\257<=nL:=by omega
  have l2:nD<=30/\1<=nD:=by omega
  have l1I:(nL:Int)<=286:=by omega
  have l2I:(nD:Int)<=30:=by omega
  rw[hnL,hnD]at Hd;clear hnL hnD;go_wp2_with fail;refine(cj _).mono ?_;rintro e x3 ⟨rfl,hx3⟩;rw[hx3];clear hx3 x3;clear e1 e2 hA1 hA2 ha hc;rcases h3:rdN (au s) (8*s.size) q2 4 with _|⟨m,q3⟩
  ·
   rw[h3]at HM Hd;have Hn:Hid (d=none):=by show d=none;rw[←ae Hd];rfl
   clear h3 Hd;go_wp2_with fail;refine(ae HM).mono ?_;rintro e x3 ⟨k3,rfl⟩;refine⟨rfl,?_⟩;unfold bZ;rw[ae Hn];exact⟨((ae HK2).trans k3).ku,rfl⟩
  rw[h3]at HM Hd;simp only[Option.bind_some]at Hd;have hm16:m<16:=by have:=(br h3).2.2.2;omega
  have Hq3:=af (br h3).1;obtain⟨mm,hmm⟩:∃n,m+4=n:=⟨_,rfl⟩;have e3:(m:Int)+4=(mm:Int):=by omega
  have hmm19:mm<=19:=by omega
  rw[hmm]at Hd;clear h3 hmm;go_wp2_with fail;refine(ae HM).mono ?_;rintro e x3 ⟨k3,rfl,r3⟩;have HK3:=af ((ae HK2).trans k3);have HR3:=af r3;clear k3 r3 HM HK2 HR2;have HB:=af (vo b q3 mm s x3 (ae HR3) (ae Hq3) (ae HN).1 hmm19 ((ae HN).2.2.1.below (ae HK3).1 (ae HN).2.2.2) (ae HN).2.2.2);unfold LbP at HB;rcases h4:iN (au s) (8*s.size) mm q3 with _|⟨B,q4⟩
  ·
   rw[h4]at HB Hd;have Hn:Hid (d=none):=by show d=none;rw[←ae Hd];rfl
   clear h4 Hd;go_wp2_with fail;refine(ae HB).mono ?_;rintro e x4 ⟨k4,rfl⟩;refine⟨rfl,?_⟩;unfold bZ;rw[ae Hn];exact⟨((ae HK3).trans k4).ku,rfl⟩
  rw[h4]at HB Hd;simp only[Option.bind_some]at Hd;have Hb4:=af (tF h4 (ae Hq3));clear h4;go_wp2_with fail;refine(ae HB).mono ?_;rintro e x4 ⟨k4,⟨C,rfl,hBV⟩,r4⟩;have HK4:=af ((ae HK3).trans k4);have HR4:=af r4;have HBV:=af hBV;have hlt3:b<x3.heap.size:=(ae HR3).lt;clear k4 r4 HB HK3 HR3 hBV e3;have HL:=af (vp b q4 (nL+nD) x3.heap.size s B C x4 (ae HR4) (ae Hb4).1 (ae HN).1 (by omega) (ae HBV) hlt3 (ae Hb4).2.2.1);have e5:((nL+nD:Nat):Int)=(nL:Int)+(nD:Int):=by omega
  rw[e5]at HL;clear e5;unfold LnP at HL;rcases h5:lnG (au s) (8*s.size) B (nL+nD) q4 []with _|⟨A,q5⟩
  ·
   rw[h5]at HL Hd;have Hn:Hid (d=none):=by show d=none;rw[←ae Hd];rfl
   clear h5 Hd;go_wp2_with fail;refine(ae HL).mono ?_;rintro e x5 ⟨k5,rfl⟩;refine⟨rfl,?_⟩;unfold bZ;rw[ae Hn];exact⟨((ae HK4).trans k5).ku,rfl⟩
  rw[h5]at HL Hd;simp only[Option.bind_some]at Hd;have Hb5:=af (GK h5 (ae Hb4).1);clear h5;go_wp2_with fail;refine(ae HL).mono ?_;rintro e x5 ⟨k5,⟨v,rfl,hv⟩,r5⟩;have hAl:A.length=nL+nD:=(ae Hb5).2.2;obtain⟨ga,cap,rfl⟩:=hv.formN hAl;obtain⟨g,rfl⟩:=hv.somes (by omega);have hcap:nL+nD<=cap:=by
   rcases (hv.own hAl).2 with⟨e,_⟩|⟨g',cap',cur,e,_,_,h1,_⟩
   · cases e
   · simp only[Value.slice.injEq]at e;omega
  have HK5:=af ((ae HK4).trans k5);have HS5:=af ((ae HS).keep1 (ae HK5) r5);have HJ5:=af (cw hAl (hv.own hAl));have hlt4:b<x4.heap.size:=(ae HR4).lt;have hs45:x4.heap.size<=x5.heap.size:=k5.1.size;clear k5 r5 HL hv HK4 HR4 HBV;go_wp2_with fail;refine wp_region_held_drew (S:=fun _=>True) hmix trivial (fun hS=>?_);refine ag 0 (.pointer (some ⟨b,0,none⟩)) rfl (by kernel_rfl) (fun _ _ _ h=>h) rfl (fun W hSw=>by go_simp) hS ?_;refine ag 1 (.slice (some ⟨g,0,none⟩) (nL+nD) cap) rfl (by kernel_rfl) (fun _ _ _ h=>h) rfl (fun W hSw=>by go_simp) hS ?_;refine ag 2 (.int .i64 (nL:Nat)) rfl (by kernel_rfl) (fun _ _ _ h=>h) rfl (fun W hSw=>by go_simp) hS ?_;refine ag 5 (.slice (some ⟨g,0,none⟩) (nL+nD) cap) rfl (by kernel_rfl) (fun _ _ _ h=>h) rfl (fun W hSw=>by go_simp) hS ?_;refine ag 6 (.int .i64 (nL:Nat)) rfl (by kernel_rfl) (fun _ _ _ h=>h) rfl (fun W hSw=>by go_simp) hS ?_;refine ag 3 (.slice (some ⟨g,0,none⟩) nL cap) rfl (by kernel_rfl) (fun _ _ _ h=>h) rfl (fun W hSw=>by go_simp;intro h;omega) hS ?_;refine ag 7 (.slice (some ⟨g,nL,none⟩) nD (cap-nL)) rfl (by kernel_rfl) (fun _ _ _ h=>h) rfl (fun W hSw=>by go_simp;rw[if_pos (by omega),if_neg (by omega)]) hS ?_;have HJd:Hid (dN x5.drew x4.heap.size (some ⟨g,0,none⟩) A):=(ae HJ5).later (Below.refl _ _).drew;have tl:(A.take nL).length=nL:=by rw[List.length_take];omega
  have dl:(A.drop nL).length=nD:=by rw[List.length_drop];omega
  have HF1:=af (DK (some ⟨g,0,none⟩) cap nL x4.heap.size (A.take nL) x5.drew tl ((ae HJd).take nL) hs45 (by omega));refine ah 4 (by kernel_rfl) rfl fun K hK=>?_;go_simp;go_at_call 215;unfold qt at Hd;cases hk1:ap (A.take nL)
  · rw[hk1]at HF1 Hd;simp only[Bool.false_eq_true,if_false]at HF1 Hd;refine(ae HF1).mono ?_;rintro e x6 ⟨b6,rfl⟩;refine⟨rfl,?_⟩;unfold bZ;rw[←ae Hd];exact⟨((ae HK5).drew.ku).later b6 (show b<x5.drew.heap.size from(ae HS5).lt),rfl⟩
  rw[hk1]at HF1 Hd;simp only[if_true]at HF1 Hd;refine(ae HF1).mono ?_;rintro e x6 ⟨b6,C1,rfl,hB1⟩;have HK6:=af (((ae HK5).drew.ku).later b6 (show b<x5.drew.heap.size from(ae HS5).lt));have HS6:=af (Sou.later (w:=x5.drew) (show Sou x5.drew b s q5 T from ae HS5) b6);have HB1:=af hB1;have hs6:x4.heap.size<=x6.heap.size:=Nat.le_trans hs45 b6.size;have HJ6:=af ((ae HJd).later b6);refine Shut.out hK _ _ trivial (fun hS2=>?_);clear hK K b6 hB1 HF1;have HF2:=af (zt (some ⟨g,nL,none⟩) (cap-nL) nD x4.heap.size (A.drop nL) x6 dl (by have:=(ae HJ6).drop nL;rwa[Nat.zero_add]at this) hs6 (by omega));refine ah 8 (by kernel_rfl) rfl fun K hK=>?_;go_simp;go_at_call 216;cases hk2:ap (A.drop nL)
  · rw[hk2]at HF2 Hd;simp only[Bool.false_eq_true,if_false]at HF2 Hd;refine(ae HF2).mono ?_;rintro e x7 ⟨b7,rfl⟩;refine⟨rfl,?_⟩;unfold bZ;rw[←ae Hd];exact⟨(ae HK6).later b7 (ae HS6).lt,rfl⟩
  rw[hk2]at HF2 Hd;simp only[if_true]at HF2 Hd;refine(ae HF2).mono ?_;rintro e x7 ⟨b7,C2,rfl,hB2⟩;have HK7:=af ((ae HK6).later b7 (ae HS6).lt);have HS7:=af ((ae HS6).later b7);have HBs:Hid (cY x7 x4.heap.size (A.take nL) (A.drop nL) (C1++C2)):=⟨C1,C2,rfl,(ae HB1).later b7,hB2⟩;have HB7:=(ae HB1).later b7;refine Shut.out hK _ _ trivial (fun hS3=>?_);clear hK K b7 hB2 HF2;have HBu:Hid (Tryz.prog.built 191 [(0,.agg C1),(1,.agg C2)]=some (C1++C2)):=by
   exact jX HB7 (bm.second (ae HBs) (ae HB1).size)
  have HTk:=af (sj b q5 x4.heap.size s (A.take nL) (A.drop nL) (C1++C2) T x7 (ae HS7) (ae HN).2.1 (ae Hb5).1 (ae HN).1 (ae HBs) hlt4 hk1 hk2);rw[ae Hd]at HTk;refine wpAnyH_take (i:=9) (v:=.agg (C1++C2)) rfl (by kernel_rfl) (by kernel_rfl) (by kernel_rfl) (fun _ _ _ h=>h) (pW (by rfl) 191 (.tmp 35) (.tmp 39) rfl (C1++C2) (.agg C1) (.agg C2) rfl rfl (ae HBu)) hS3 ?_;refine ah 10 (by kernel_rfl) rfl fun K hK=>?_;go_simp;go_at_call 212;refine(ae HTk).mono ?_;intro e x8 h8;unfold bZ at h8;rcases d with _|⟨T',q⟩
  · obtain⟨k8,rfl⟩:=h8;refine⟨rfl,?_⟩;unfold bZ;exact⟨(ae HK7).trans k8,rfl⟩
  ·
   obtain⟨k8,rfl,s8⟩:=h8;have HY:=af (And.intro ((ae HK7).trans k8) s8);refine Shut.out hK _ _ trivial (fun hS4=>?_);clear hK K k8 s8 HTk;refine wpAnyH_done (by kernel_rfl) ?_ _;clear hS hS2 hS3 hS4;go_wp2
   go_end0
   unfold bZ;exact⟨(ae HY).1,rfl,(ae HY).2⟩
 ·
  rw[if_neg hA]at Hd;have Hn:Hid (d=none):=by show d=none;rw[←ae Hd]
  by_cases hA1:a+257<=286
  ·
   have hB1:(a:Int)+256+1<=286:=by omega
   have hB2:decide ((c:Int)+1<=30)=false:=decide_eq_false (by omega);clear hA hA1;go_wp2_with fail;refine(dP _).mono ?_;rintro e x3 ⟨rfl,hx3⟩;rw[hx3];clear hx3 x3;refine⟨rfl,?_⟩;unfold bZ;rw[ae Hn];exact⟨(ae HK2).ku,rfl⟩
  · have hB1:decide ((a:Int)+256+1<=286)=false:=decide_eq_false (by omega);clear hA hA1;go_wp2_with fail;refine(dP _).mono ?_;rintro e x3 ⟨rfl,hx3⟩;rw[hx3];clear hx3 x3;refine⟨rfl,?_⟩;unfold bZ;rw[ae Hn];exact⟨(ae HK2).ku,rfl⟩
theorem Ct(R:List UInt8)(y:Nat)(hy:y<256):dE R ((y:Nat),0,0)=if R.length+1<=300 then some (R++[jZ (y:Nat)])else none:=by
 have hB:isB (((y:Nat):Int),0,0)=true:=by unfold isB inB;simp;omega
 unfold dE y6;rw[hB];simp
def lbV(V:Nat):List Nat->Nat->List Int->List Int
 | [],_,l=>l
 | i :: is,p,l=>lbV V is (p+3) (l.set i ((V/2 ^ p%2 ^ 3:Nat):Int))
theorem Kj(V:Nat):∀(is:List Nat) (p:Nat) (l:List Int),(lbV V is p l).length=l.length:=by
 intro is;induction is with
 | nil=>intro p l;rfl
 | cons i is ih=>intro p l;simp only[lbV];rw[ih,List.length_set]
theorem MI{V sz:Nat} : ∀(is:List Nat) (p:Nat) (l:List Int),p<=sz->lbG V sz is p l=if p+3*is.length<=sz then some (lbV V is p l,p+3*is.length)else none:=by
 intro is;induction is with
 | nil=>intro p l h;simp[lbG,lbV,h]
 | cons i is ih=>
  intro p l h;simp only[lbG,lbV,List.length_cons];by_cases hc:p+3<=sz
  · rw[lB hc];simp only[Option.bind_some];rw[ih _ _ hc,show p+3+3*is.length=p+3*(is.length+1) by omega]
  · rw[oI hc,if_neg (by omega)];rfl
def xd(V sz p:Nat):Option (Nat×List Int×Nat):=
 (rdN V sz p 5).bind fun a=>(rdN V sz a.2 5).bind fun c=>if a.1+257<=286/\c.1+1<=30 then
  (rdN V sz c.2 4).bind fun m=>(iN V sz (m.1+4) m.2).bind fun B=>(lnG V sz B.1 (a.1+257+(c.1+1)) B.2 []).bind fun A=>
   if ap (A.1.take (a.1+257))=true/\ap (A.1.drop (a.1+257))=true then some (a.1+257,A.1,A.2)else none
  else none
theorem D8{V sz p:Nat}{T:List UInt8} : rF V sz p T=(xd V sz p).bind fun x=>jA V sz (x.2.1.take x.1) (x.2.1.drop x.1) x.2.2 T:=by
 unfold rF xd;rcases rdN V sz p 5 with _|⟨a,q1⟩
 · rfl
 simp only[Option.bind_some];rcases rdN V sz q1 5 with _|⟨c,q2⟩
 · rfl
 simp only[Option.bind_some]
 split
 ·
  rcases rdN V sz q2 4 with _|⟨m,q3⟩
  · rfl
  simp only[Option.bind_some];rcases iN V sz (m+4) q3 with _|⟨B,q4⟩
  · rfl
  simp only[Option.bind_some];rcases lnG V sz B (a+257+(c+1)) q4 []with _|⟨A,q5⟩
  · rfl
  simp only[Option.bind_some];unfold qt;by_cases h1:ap (A.take (a+257))=true
  ·
   by_cases h2:ap (A.drop (a+257))=true
   · rw[if_pos h1,if_pos h2,if_pos ⟨h1,h2⟩];rfl
   · rw[if_pos h1,if_neg h2,if_neg (fun h=>h2 h.2)];rfl
  · rw[if_neg h1,if_neg (fun h=>h1 h.1)];rfl
 · rfl
theorem GH{V sz p X1 X2 X3:Nat}{l:List Int}(hp:p<=sz)(h1:V/2 ^ p%2 ^ 5=X1)(h2:V/2 ^ (p+5)%2 ^ 5=X2)(h3:V/2 ^ (p+5+5)%2 ^ 4=X3)(hl:lbV V (bw.take (X3+4)) (p+5+5+4) (List.replicate 19 0)=l) :
  xd V sz p=if p+5+5+4+3*(X3+4)<=sz/\ap l=true/\X1+257<=286/\X2+1<=30 then(lnG V sz l (X1+257+(X2+1)) (p+5+5+4+3*(X3+4)) []).bind fun A=>
   if ap (A.1.take (X1+257))=true/\ap (A.1.drop (X1+257))=true then some (X1+257,A.1,A.2)else none else none:=by
 have hlen:(bw.take (X3+4)).length=X3+4:=by rw[List.length_take];have:bw.length=19:=rfl;omega
 unfold xd;by_cases c1:p+5<=sz
 ·
  rw[lB c1];simp only[Option.bind_some];rw[h1];by_cases c2:p+5+5<=sz
  ·
   rw[lB c2];simp only[Option.bind_some];rw[h2];by_cases cc:X1+257<=286/\X2+1<=30
   ·
    rw[if_pos cc];by_cases c3:p+5+5+4<=sz
    ·
     rw[lB c3];simp only[Option.bind_some];rw[h3];unfold iN;rw[MI _ _ _ c3,hlen,hl];by_cases c4:p+5+5+4+3*(X3+4)<=sz
     ·
      rw[if_pos c4];simp only[Option.bind_some];by_cases c5:ap l=true
      · rw[if_pos c5,if_pos ⟨c4,c5,cc⟩];rfl
      · rw[if_neg c5,if_neg (fun h=>c5 h.2.1)];rfl
     · rw[if_neg c4,if_neg (fun h=>c4 h.1)];rfl
    · rw[oI c3,if_neg (by omega)];rfl
   · rw[if_neg cc,if_neg (fun h=>cc h.2.2)]
  · rw[oI c2,if_neg (by omega)];rfl
 · rw[oI c1,if_neg (by omega)];rfl
end Go.Proofs.YtkpfkgoiaicgbaaGreatDoor
