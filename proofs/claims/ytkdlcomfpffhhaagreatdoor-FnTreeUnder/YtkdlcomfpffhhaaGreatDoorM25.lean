/- Of what the proof is made: 11 texts, one behind the other. -/
import Derived.Test.YtkdlcomfpffhhaaGreatDoorM19
import Derived.Test.YtkdlcomfpffhhaaGreatDoorM12
import Derived.Test.YtkdlcomfpffhhaaGreatDoorM8
import Derived.Test.YtkdlcomfpffhhaaGreatDoorM24
import Derived.Test.YtkdlcomfpffhhaaGreatDoorM22
import Derived.Test.YtkdlcomfpffhhaaGreatDoorM18
import Derived.Test.YtkdlcomfpffhhaaGreatDoorM23
import Derived.Test.YtkdlcomfpffhhaaGreatDoorTi1
import Derived.Test.YtkdlcomfpffhhaaGreatDoorM15
import Derived.Test.YtkdlcomfpffhhaaGreatDoorM2
import Derived.Deep.RegionHeld3
import Derived.Test.YtkdlcomfpffhhaaGreatDoorM3
import Derived.Deep.RegionLawGrows
import Derived.Test.YtkdlcomfpffhhaaGreatDoorM10
set_option linter.unusedSimpArgs false
set_option linter.unusedVariables false
set_option maxHeartbeats 6400000
namespace Go.Proofs.YtkdlcomfpffhhaaGreatDoor
open Go.RowKit Corb
def LS(p:Nat×Nat)(l:List (Int×Int)):Nat×Nat:=gg p (nc l)
def pcM(l:List Int)(k:Nat):Int×Int:=((rv (l.getD k 0).toNat ((bz l 15).2.getD k 0).toNat:Nat),l.getD k 0)
theorem ov{l:List Int}{k:Nat}(h:0<=l.getD k 0/\l.getD k 0<=15):pOk (pcM l k).1 (pcM l k).2=true:=by
 refine aV.2 ⟨⟨h.1,by show l.getD k 0<=16;omega⟩,by show(0:Int)<=((_:Nat):Int);omega,?_⟩;show((rv (l.getD k 0).toNat ((bz l 15).2.getD k 0).toNat:Nat):Int)<((p2 (l.getD k 0).toNat:Nat):Int);have:=Lg (l.getD k 0).toNat ((bz l 15).2.getD k 0).toNat
 unfold p2;omega
end Go.Proofs.YtkdlcomfpffhhaaGreatDoor
namespace Go.Proofs.YtkdlcomfpffhhaaGreatDoor
open Go.RowKit Corb Bkx
set_option maxRecDepth 100000
set_option linter.unusedSimpArgs false
set_option linter.defProp false
theorem ax.drew{b:Nat}{w w':World}(h:ax b w w'):ax b w w'.drew:=⟨h.1.drew,h.2,h.3⟩
theorem dN.keep1{w w':World}{base b:Nat}{a:Option Addr}{l:List Int}(h:dN w base a l)(hk:ax b w w')(hb:b<base):dN w' base a l:=h.moved hk.1.size (fun g h1 hg _=>hk.2 g hg (by omega))
theorem bm.keep1{w w':World}{base b:Nat}{l:List Int}{C:Array Value}(h:bm w base l C)(hk:ax b w w')(hb:b<base):bm w' base l C:=by
 obtain⟨a,cap,ac,cc,q,sc,e,h1,h2,h3⟩:=h;exact⟨a,cap,ac,cc,q,sc,e,h1.keep1 hk hb,h2.keep1 hk hb,h3.keep1 hk hb⟩
def SyP(w:World)(b:Nat)(s:ByteArray)(d:Option (Int×Nat))(e:Ending)(w':World):Prop:=
 ax b w w'/\match d with
  | none=>e=iC
  | some (i,q)=>e = .returned (.int .i64 i)/\Rdr w' b s q
def nJ:Array Value:=#[Value.slice none 0 0,Value.slice none 0 0,Value.int .i64 0,Value.int .i64 0,Value.int .i64 0,Value.int .i64 0,Value.int .i64 0,Value.int .i64 0,Value.int .i64 0,Value.int .i64 0,Value.int .i64 0,Value.int .i64 0,Value.int .i64 0,Value.int .i64 0,Value.int .i64 0,Value.int .i64 0,Value.int .i64 0,Value.int .i64 0,Value.slice none 0 0]
theorem Tryz.infoLenB:(Tryz.prog.info? 259).map (·.size)=some 19:=by kernel_rfl
theorem E9(B:BkI)(hI:Bks B)(b p base:Nat)(C:Array Value)(l:List Int)(s:ByteArray)(w:World)(hB:bm w base l C)(hbb:b<base)(hok:ap l=true)(hs:s.size<=2000000)(hr:Rdr w b s p)(hp:p<=8*s.size) :
  Calls Tryz.prog B.g #[.agg C,.pointer (some ⟨b,0,none⟩)] w (kQ w b s (dec l (au s) (8*s.size) p)):=by
 obtain⟨a,cap,ac,cc,q,sc,e,h1,h2,h3⟩:=hB;exact Bkx.bookGet_any B hI a q cap l.length _ sc b p _ C l s w e hok rfl hs hr hp (fun W hW=>(h3.keep1 hW hbb).1)
theorem p6(B:BkI)(hI:Bks B)(b p base:Nat)(C:Array Value)(l:List Int)(s:ByteArray)(w:World)(hB:bm w base l C)(hbb:b<base)(hok:ap l=true)(hs:s.size<=2000000)(hr:Rdr w b s p)(hp:p<=8*s.size) :
  Calls Tryz.prog B.s #[.pointer (some ⟨b,0,none⟩),.agg C] w (SyP w b s (dec l (au s) (8*s.size) p)):=by
 have hmix:Tryz.prog.follows .mixedOrders=true:=by kernel_rfl
 have hbl:=hr.lt;have hA:Below w.heap.size w (w.alloc (.cells C B.T)):=(a0c _ _).alloc (a0a _) _;have hK1:ax b w (w.alloc (.cells C B.T)).drew:=((ax.refl b w).alloc hbl _).drew;have hr1:Rdr (w.alloc (.cells C B.T)).drew b s p:=hr.alloc _;have hB1:bm (w.alloc (.cells C B.T)).drew base l C:=hB.later hA.drew;have hsz:=hB.size;have hi1:(Tryz.prog.info? B.T).map (·.size)=some C.size:=by rw[hsz];exact hI.info
 have hR0:(w.alloc (.cells C B.T)).rangeAt w.heap.size 0 C.toList:=by
  intro j v hv;rw[a0A,bn (alloc_at w (.cells C B.T))];simpa using hv
 have HG:=af (E9 B hI b p base C l s _ hB1 hbb hok hs hr1 hp);have HK1:=af hK1;have hne:w.heap.size≠b:=by omega
 have HRK:Hid (∀W,ax b (w.alloc (.cells C B.T)).drew W->W.rangeAt w.heap.size 0 C.toList):=by
  intro W hW j v hv;rw[←hR0 j v hv];exact World.cell?_of_block (w:=w.alloc (.cells C B.T)) (hW.2 w.heap.size (by simp) hne)
 have hR1:(w.alloc (.cells C B.T)).drew.rangeAt w.heap.size 0 C.toList:=hR0;clear hB hok hs hr hp hA hK1 hr1 hB1 hsz hR0 hbb;obtain⟨ds,hUd,hdr⟩:=hI.und;rcases hI with rfl|rfl|rfl;all_goals
  simp only[bkL,bkD,bkN]at hi1 HG HK1 HRK hR1 hUd ⊢;generalize dec l (au s) (8*s.size) p=d at *
  unfold SyP;unfold kQ at HG;rcases d with _|⟨i,q⟩;all_goals
   simp only at HG ⊢
   (first|go_enter Tryz.func280,Tryz.ntmps280|go_enter Tryz.func288,Tryz.ntmps288|go_enter Tryz.func282,Tryz.ntmps282)
   go_wp2_with fail;refine a0Q (S:=fun W=>W.rangeAt w.heap.size 0 C.toList) hmix hR1 (fun hS=>?_);refine a0X (i:=0) (v:=.agg C) rfl (by kernel_rfl) (by kernel_rfl) (by kernel_rfl) (fun _ _ _ h=>h) (cz (by rfl) _ (.tmp 3) rfl w.heap.size 0 rfl C _ (fun _ h=>h) hUd hdr hi1) hS ?_;refine ag 1 (.pointer (some ⟨b,0,none⟩)) rfl (by kernel_rfl) (fun _ _ _ h=>h) rfl (fun W hSw=>by go_simp) hS ?_;refine ag 2 (.pointer (some ⟨b,0,none⟩)) rfl (by kernel_rfl) (fun _ _ _ h=>h) rfl (fun W hSw=>by go_simp) hS ?_;refine ag 3 (.pointer (some ⟨b,0,none⟩)) rfl (by kernel_rfl) (fun _ _ _ h=>h) rfl (fun W hSw=>by go_simp) hS ?_;refine ah 4 (by kernel_rfl) rfl fun K hK=>?_;go_simp
   (first|go_at_call 286|go_at_call 292|go_at_call 290)
   refine(ae HG).mono ?_
  · rintro e x1 ⟨k1,rfl⟩;have HKK:=af ((ae HK1).trans k1);refine a0f hK _ _ (ae HRK _ k1) (fun hS2=>?_);clear hK K;refine a0X (i:=5) (v:=.tuple #[.int .i64 0,.bool false]) rfl (by kernel_rfl) (by kernel_rfl) (by kernel_rfl) (fun _ _ _ h=>h) (a02 ⟨by rfl,fun W hSw=>by go_simp⟩) hS2 ?_;refine a0X (i:=6) (v:=.int .i64 0) rfl (by kernel_rfl) (by kernel_rfl) (by kernel_rfl) (fun _ _ _ h=>h) (a02 ⟨by rfl,fun W hSw=>by go_simp⟩) hS2 ?_;refine a0X (i:=7) (v:=.bool false) rfl (by kernel_rfl) (by kernel_rfl) (by kernel_rfl) (fun _ _ _ h=>h) (a02 ⟨by rfl,fun W hSw=>by go_simp⟩) hS2 ?_;refine ah 8 (by kernel_rfl) rfl fun K hK=>?_;go_simp;refine a0f hK _ _ (ae HRK _ k1) (fun hS3=>?_);clear hK K;refine ah 9 (by kernel_rfl) rfl fun K hK=>?_;go_simp;refine a0f hK _ _ (ae HRK _ k1) (fun hS4=>?_);clear hK K;refine a0F (by kernel_rfl) ?_ _;clear hS hS2 hS3 hS4 k1 HRK;go_wp2_with fail;refine(dP _).mono ?_;rintro e x2 ⟨rfl,hx2⟩;rw[hx2];clear hx2 x2;exact⟨rfl,ae HKK,rfl⟩
  · rintro e x1 ⟨k1,rfl,r1⟩;have HKK:=af (a0b ((ae HK1).trans k1) r1);refine a0f hK _ _ (ae HRK _ k1) (fun hS2=>?_);clear hK K;refine a0X (i:=5) (v:=.tuple #[.int .i64 i,.bool true]) rfl (by kernel_rfl) (by kernel_rfl) (by kernel_rfl) (fun _ _ _ h=>h) (a02 ⟨by rfl,fun W hSw=>by go_simp⟩) hS2 ?_;refine a0X (i:=6) (v:=.int .i64 i) rfl (by kernel_rfl) (by kernel_rfl) (by kernel_rfl) (fun _ _ _ h=>h) (a02 ⟨by rfl,fun W hSw=>by go_simp⟩) hS2 ?_;refine a0X (i:=7) (v:=.bool true) rfl (by kernel_rfl) (by kernel_rfl) (by kernel_rfl) (fun _ _ _ h=>h) (a02 ⟨by rfl,fun W hSw=>by go_simp⟩) hS2 ?_;refine ah 8 (by kernel_rfl) rfl fun K hK=>?_;go_simp;refine a0f hK _ _ (ae HRK _ k1) (fun hS3=>?_);clear hK K;refine ah 9 (by kernel_rfl) rfl fun K hK=>?_;go_simp;refine a0f hK _ _ (ae HRK _ k1) (fun hS4=>?_);clear hK K;refine a0F (by kernel_rfl) ?_ _;clear hS hS2 hS3 hS4 k1 HRK;clear r1;go_wp2_with fail;refine(ci _).mono ?_;rintro e x2 ⟨rfl,hx2⟩;rw[hx2];clear hx2 x2;go_wp2;go_ret;exact⟨(ae HKK).1,rfl,(ae HKK).2⟩
theorem uh(B:BkI)(hI:Bks B)(a:Option Addr)(cap n base:Nat)(l:List Int)(w:World)(hn:l.length=n)(h:dN w base a l)(hB:base<=w.heap.size)(hm:n<=1000) :
  Calls Tryz.prog B.b #[.slice a n cap] w fun e w'=>Below w.heap.size w w'/\if ap l=true then ∃C,e = .returned (.agg C)/\bm w' base l C else e=iC:=by
 obtain⟨W0,hW0⟩:∃W,w.alloc (.cells nJ B.T)=W:=⟨_,rfl⟩;have S0:W0.heap.size=w.heap.size+1:=by rw[←hW0];exact cV _ _
 have B0:Below w.heap.size w W0:=by rw[←hW0];exact(a0c _ _).alloc (a0a _) _
 have T0:Hid (W0.there w.heap.size 0 19):=by rw[←hW0];exact fJ w nJ _ _ rfl
 have hI0:bB W0 a l:=(h.later B0).1;have HL:=af (qB a cap n l W0 hn hI0 (by omega));have E0:=af hW0;unfold nJ at E0;have HB0:=af B0;have HS0:=af S0;have HJ:=af h;have Hn:=af hn;clear hW0 S0 B0;have HC0:=fun hh=>Bkx.codeBook_any B hI a cap n l W0 hn hI0 hh;have hIB:=hI.info;have HNe:=af hI.ne;obtain⟨ds,hUd,hdr⟩:=hI.und;rcases hI with rfl|rfl|rfl;all_goals
  simp only[bkL,bkD,bkN]at E0 hIB HC0 hUd ⊢;cases hok:ap l
  ·
   rw[hok]at HL;simp only[a1w,a1x];clear hok
   (first|go_enter Tryz.func272,Tryz.ntmps272|go_enter Tryz.func273,Tryz.ntmps273|go_enter Tryz.func283,Tryz.ntmps283)
   go_wp2_with fail;rw[ae E0];refine(ae HL).mono ?_;rintro e x1 ⟨rfl,hx1⟩;rw[hx1];clear hx1 x1;go_wp2_with fail;refine(dP _).mono ?_;rintro e x2 ⟨rfl,hx2⟩;rw[hx2];clear hx2 x2;exact⟨rfl,ae HB0,rfl⟩
  ·
   rw[hok]at HL;simp only[a0Z];have HCb:=af (HC0 (by have:=gZ hok;omega));clear hok hI0 h hn HC0
   (first|go_enter Tryz.func272,Tryz.ntmps272|go_enter Tryz.func273,Tryz.ntmps273|go_enter Tryz.func283,Tryz.ntmps283)
   go_wp2_with fail;rw[ae E0];refine(ae HL).mono ?_;rintro e x1 ⟨rfl,hx1⟩;rw[hx1];clear hx1 x1;go_wp2_with fail;refine(ci _).mono ?_;rintro e x2 ⟨rfl,hx2⟩;rw[hx2];clear hx2 x2;go_wp2_with fail;refine(ae HCb).mono ?_;rintro e x3 ⟨vs,C,rfl,hC,h1,h2,hb⟩;obtain⟨q,sc,rfl⟩:=h2.form;have hsz:C.size=19:=by rw[hC];simp[bW]
   have hone:C.all (·.oneCell')=true:=by rw[hC];exact iA rfl rfl rfl
   have HTh:Hid (x3.there w.heap.size 0 19):=fun j hj=>by
    obtain⟨t1,t2⟩:=ae T0 j hj;have hlt:w.heap.size<W0.heap.size:=by have:=ae HS0;omega
    exact⟨by rw[hb.cell (p:=⟨w.heap.size,0+j,none⟩) hlt];exact t1,by rw[hb.frozen (p:=⟨w.heap.size,0+j,none⟩) hlt];exact t2⟩
   have HSz:=af hsz;have HOne:=af hone;have HX:=af (a0b hC (a0b h1 (a0b h2 hb)));clear hsz hone hC h1 h2 hb;go_wp2_with (refine a2J rfl _ (.tmp 2) (.tmp 7) rfl w.heap.size 0 C rfl rfl (by rw[ae HSz];exact ae HTh) (by rw[ae HSz];exact hIB) (ae HOne) ?_);obtain⟨hC,h1,h2,hb⟩:=ae HX;have hr:=a2K x3 w.heap.size 0 C.toList (by rw[a1G,ae HSz];exact ae HTh);have hk:∀j,j≠w.heap.size->(x3.setCells w.heap.size 0 C.toList).heap[j]?=x3.heap[j]?:=fun j hj=>cW _ _ _ _ j hj;have hz:(x3.setCells w.heap.size 0 C.toList).heap.size=x3.heap.size:=size_setCells _ _ _ _;have hBw:=aj (ae HB0) hb;have s0:=ae HS0;refine a0K (dQ rfl _ _ w.heap.size _ _ rfl hr hUd hdr (by rw[a1G,ae HSz];exact hIB)) rfl ⟨below_setCells (a0a _) _ _ _ hBw,C,by simp,?_⟩;have hn:=ae Hn;subst hn;have hmv:dN (x3.setCells w.heap.size 0 C.toList) base a l:=(ae HJ).moved (by rw[hz];exact hBw.size) (fun g _ hg _=>(hk g (by omega)).trans (hBw.block g hg));exact⟨a,cap,_,_,q,sc,hC,hmv,((cn (dc l 15) (h1.own (dc l 15))).mono (b':=w.heap.size+1) (by omega)).touch hz hk (by omega) |>.mono (by omega),((cn rfl h2 (ae HNe)).mono (b':=w.heap.size+1) (by omega)).touch hz hk (by omega) |>.mono (by omega)⟩
def qU:=@p6 bkL (.inl rfl)
def Dr:=@uh bkL (.inl rfl)
def vR:=@p6 bkD (.inr (.inl rfl))
def zb:=@uh bkD (.inr (.inl rfl))
def zF:=@p6 bkN (.inr (.inr rfl))
def Dn:=@uh bkN (.inr (.inr rfl))
end Go.Proofs.YtkdlcomfpffhhaaGreatDoor
namespace Go.Proofs.YtkdlcomfpffhhaaGreatDoor
open Go.RowKit Corb
def Sou(w:World)(b:Nat)(s:ByteArray)(p:Nat)(T:List UInt8):Prop:=
 Rdr w b s p/\∃v,w.cell? ⟨b,3,none⟩=some v/\w.frozen? ⟨b,3,none⟩=false/\bG w (b+1) v T
theorem bG.keep1{w w':World}{b base:Nat}{v:Value}{l:List UInt8}(h:bG w base v l)(hk:ax b w w')(hb:b<base):bG w' base v l:=hk.own h hb
theorem Sou.keep1{w w':World}{b p q:Nat}{s:ByteArray}{T:List UInt8}(h:Sou w b s p T)(hk:ax b w w')(hr:Rdr w' b s q):Sou w' b s q T:=by
 obtain⟨_,v,c,f,o⟩:=h;exact⟨hr,v,(hk.3 3 (a0a _)).1.trans c,(hk.3 3 (a0a _)).2.trans f,o.keep1 hk (a0m _)⟩
theorem Sou.lt{w:World}{b p:Nat}{s:ByteArray}{T:List UInt8}(h:Sou w b s p T):b<w.heap.size:=h.1.lt
structure KU (b:Nat) (w w':World):Prop where
 below:Below b w w'
 keep:∀k,k<w.heap.size->k≠b->(∀cur fr,w.heap[k]?≠some (.cells cur 5 fr))->w'.heap[k]?=w.heap[k]?
theorem KU.refl(b:Nat)(w:World):KU b w w:=⟨a0c _ _,fun _ _ _ _=>rfl⟩
theorem KU.trans{b:Nat}{w w1 w2:World}(h:KU b w w1)(k:KU b w1 w2):KU b w w2:=
 ⟨h.1.trans k.1,fun j hj hne hn=>(k.2 j (a0k hj h.1.size) hne (by rw[h.2 j hj hne hn];exact hn)).trans (h.2 j hj hne hn)⟩
theorem ax.ku{b:Nat}{w w':World}(h:ax b w w'):KU b w w':=⟨h.1,fun j hj hne _=>h.2 j hj hne⟩
theorem KU.later{b:Nat}{w w1 w2:World}(h:KU b w w1)(hb:Below w1.heap.size w1 w2)(hbw:b<w1.heap.size):KU b w w2:=
 ⟨h.1.trans (hb.mono (a0x hbw)),fun j hj hne hn=>(hb.block j (a0k hj h.1.size)).trans (h.2 j hj hne hn)⟩
theorem Sou.later{w w':World}{b p:Nat}{s:ByteArray}{T:List UInt8}(h:Sou w b s p T)(hb:Below w.heap.size w w'):Sou w' b s p T:=by
 obtain⟨r,v,c,f,o⟩:=h;exact⟨r.kept (hb.mono r.lt),v,(hb.cell (p:=⟨b,3,none⟩) r.lt).trans c,(hb.frozen (p:=⟨b,3,none⟩) r.lt).trans f,o.later hb (a0a _)⟩
theorem dN.ku{w w':World}{base b:Nat}{a:Option Addr}{l:List Int}(h:dN w base a l)(hk:KU b w w')(hb:b<base):dN w' base a l:=h.moved hk.1.size (fun g h1 hg hn=>hk.2 g hg (by omega) hn)
theorem bm.ku{w w':World}{base b:Nat}{l:List Int}{C:Array Value}(h:bm w base l C)(hk:KU b w w')(hb:b<base):bm w' base l C:=by
 obtain⟨a,cap,ac,cc,q,sc,e,h1,h2,h3⟩:=h;exact⟨a,cap,ac,cc,q,sc,e,h1.ku hk hb,h2.ku hk hb,h3.ku hk hb⟩
theorem cY.ku{w w':World}{base b:Nat}{L D:List Int}{C:Array Value}(h:cY w base L D C)(hk:KU b w w')(hb:b<base):cY w' base L D C:=by
 obtain⟨C1,C2,e,h1,h2⟩:=h;exact⟨C1,C2,e,h1.ku hk hb,h2.ku hk hb⟩
theorem cY.keep1{w w':World}{base b:Nat}{L D:List Int}{C:Array Value}(h:cY w base L D C)(hk:ax b w w')(hb:b<base):cY w' base L D C:=h.ku hk.ku hb
theorem yS{w:World}{base b o:Nat}{v:Value}{l:List UInt8}(h:bG w base v l)(hb:b<base)(u:Value):bG (w.setCell ⟨b,o,none⟩ u) base v l:=by
 refine⟨h.1,?_⟩;rcases h.2 with hn|⟨g,cap,cur,rfl,hbg,hgg,rest⟩
 · exact .inl hn
 · exact .inr ⟨g,cap,cur,rfl,hbg,(a0J _ _ _ g (by show g≠b;omega)).trans hgg,rest⟩
def bY(w:World)(b:Nat)(s:ByteArray)(d:Option (List UInt8×Nat))(e:Ending)(w':World):Prop:=
 KU b w w'/\match d with
  | none=>e=iC
  | some (T,q)=>e = .returned (.tuple #[])/\Sou w' b s q T
theorem Bi(b p:Nat)(s:ByteArray)(T:List UInt8)(t:Tk)(w:World)(h:Sou w b s p T)(hT:T.length<=300)(ho:okT t=true) :
  Calls Tryz.prog 268 #[.pointer (some ⟨b,0,none⟩),dY t] w (bY w b s ((dE T t).map fun x=>(x,p))):=by
 have hlt:=h.lt;obtain⟨hr,v,c3,f3,hw⟩:=h;obtain⟨n,hn⟩:∃n,T.length=n:=⟨_,rfl⟩;obtain⟨a,cap,rfl⟩:=hw.formN hn;have HL:=af (U.lzLay_any (b+1) n cap a T t w hn hw (by omega) hlt ho);have HR:=af hr;have HF:=af f3;unfold bY;rcases hA:dE T t with _|T'
 ·
  rw[hA]at HL;simp only[Option.map_none];clear hA hw hT hn ho hr f3;generalize dY t=tv at *
  go_enter Tryz.func268,Tryz.ntmps268;go_wp2_with fail;refine(ae HL).mono ?_;rintro e x1 ⟨v1,rfl,o1,b1⟩;simp only[Option.isSome_none];have HK:Hid (KU b w x1):=⟨b1.1.mono (a1a _),fun j hj _ hn=>b1.2 j hj hn⟩;clear o1 b1 HL;go_wp2_with fail;refine(dP _).mono ?_;rintro e x2 ⟨rfl,hx2⟩;rw[hx2];clear hx2 x2;exact⟨rfl,ae HK,rfl⟩
 ·
  rw[hA]at HL;simp only[a3L];clear hA hw hT hn ho hr f3;generalize dY t=tv at *
  go_enter Tryz.func268,Tryz.ntmps268;go_wp2_with fail;refine(ae HL).mono ?_;rintro e x1 ⟨v1,rfl,o1,b1⟩;simp only[Option.isSome_some,a1K]at o1 ⊢;have HK:Hid (KU b w x1):=⟨b1.1.mono (a1a _),fun j hj _ hn=>b1.2 j hj hn⟩;have hr1:=(ae HR).kept b1.1;have c31:=(b1.1.cell (p:=⟨b,3,none⟩) (a0m b)).trans c3;have f31:=(b1.1.frozen (p:=⟨b,3,none⟩) (a0m b)).trans (ae HF);obtain⟨a1,cap1,rfl⟩:=o1.form;have HX:=af (a0b hr1 o1);clear o1 b1 HL hr1;go_wp2_with fail;refine(ci _).mono ?_;rintro e x2 ⟨rfl,hx2⟩;rw[hx2];clear hx2 x2;go_wp2
  go_end0
  have hk:KU b w (x1.setCell ⟨b,3,none⟩ (.slice a1 T'.length cap1)):=(ae HK).trans ⟨ai (a0c _ _) (a0a _) _,fun j _ hne _=>a0J _ _ _ j hne⟩;refine⟨hk,rfl,?_,.slice a1 T'.length cap1,World.cell?_setCell_same _ _ _ c31,by simpa using f31,?_⟩
  · obtain⟨c0,c1,c2,g0,g1,g2,hb⟩:=(ae HX).1;exact⟨by rw[World.cell?_setCell_other _ _ _ _ (by simp)];exact c0,by rw[World.cell?_setCell_other _ _ _ _ (by simp)];exact c1,by rw[World.cell?_setCell_other _ _ _ _ (by simp)];exact c2,by simpa using g0,by simpa using g1,by simpa using g2,by simpa using hb⟩
  · exact yS (ae HX).2 (a0m _) _
def TkP(w:World)(b:Nat)(s:ByteArray)(d:Option (Tk×Nat))(e:Ending)(w':World):Prop:=
 ax b w w'/\match d with
  | none=>e=iC
  | some (t,q)=>e = .returned (dY t)/\Rdr w' b s q
def okG(d:Option (Tk×Nat)):Option (Tk×Nat):=d.bind fun t=>if okT t.1=true then some t else none
theorem As{w:World}{base:Nat}{L D:List Int}{C:Array Value}(h:cY w base L D C):∃C1 C2,C=C1++C2/\bm w base L C1/\bm w base D C2/\(w.alloc (.cells C 184)).rangeAt w.heap.size 0 C1.toList/\(w.alloc (.cells C 184)).rangeAt w.heap.size 19 C2.toList:=by
 obtain⟨C1,C2,rfl,h1,h2⟩:=h;obtain⟨r1,r2⟩:=fS (alloc_at w (.cells (C1++C2) 184)) h1.size;exact⟨C1,C2,rfl,h1,h2,r1,r2⟩
theorem o9{w w':World}{b g o:Nat}{cs:List Value}(h:w.rangeAt g o cs)(hk:ax b w w')(hg:g<w.heap.size)(hne:g≠b):w'.rangeAt g o cs:=fun j v hv=>by
 rw[←h j v hv];exact World.cell?_of_block (w:=w) (hk.2 g hg hne)
theorem Am(b p k:Nat)(C:Array Value)(s:ByteArray)(w:World)(hr:Rdr w b s p)(hk:k<256) :
  Calls Tryz.prog 281 #[.pointer (some ⟨b,0,none⟩),.int .i64 (k:Nat),.agg C] w fun e w'=>ax b w w'/\e = .returned (dY ((k:Nat),0,0))/\Rdr w' b s p:=by
 have hB:isB (((k:Nat):Int),0,0)=true:=by unfold isB inB;simp;omega
 rw[jv hB];have hkI:(k:Int)<256:=by omega
 have hu:IntKind.u8.wrap (k:Int)=(k:Int):=I3 (by omega) (by omega);have HK:Hid (ax b w (w.alloc (.cells C 184))):=(ax.refl b w).alloc hr.lt _;have HR:Hid (Rdr (w.alloc (.cells C 184)) b s p):=hr.alloc _;clear hr hk hB;go_enter Tryz.func281,Tryz.ntmps281;go_wp2;go_ret;exact⟨ae HK,rfl,ae HR⟩
set_option maxRecDepth 100000 in
theorem Ao(b p k base:Nat)(L D:List Int)(C:Array Value)(s:ByteArray)(w:World)(hr:Rdr w b s p)(hk:k<=900)(hBk:cY w base L D C)(hbb:b<base)(hok:ap D=true)(hs:s.size<=2000000) :
  Calls Tryz.prog 281 #[.pointer (some ⟨b,0,none⟩),.int .i64 ((k:Nat)+257),.agg C] w (TkP w b s (okG (jO (au s) (8*s.size) D k p))):=by
 have hmix:Tryz.prog.follows .mixedOrders=true:=by kernel_rfl
 obtain⟨d,hd⟩:∃d,okG (jO (au s) (8*s.size) D k p)=d:=⟨_,rfl⟩;rw[hd];have Hd:=af hd;obtain⟨C1,C2,rfl,h1,h2,r1,r2⟩:=As hBk;have hlt:=hr.lt;have hA:Below w.heap.size w (w.alloc (.cells (C1++C2) 184)):=(a0c _ _).alloc (a0a _) _;have hne:w.heap.size≠b:=by omega
 have hi2:(Tryz.prog.info? 182).map (·.size)=some C2.size:=by rw[h2.size];exact Tryz.infoDistB
 have HW:=af (a0b ((ax.refl b w).alloc hlt (.cells (C1++C2) 184)) (a0b (hr.alloc (.cells (C1++C2) 184)) (a0b (h2.later hA) r2)));have hszA:w.heap.size<(w.alloc (.cells (C1++C2) 184)).heap.size:=by simp
 have HS:=af hs;have HOK:=af hok;have HBB:=af hbb;clear hr hBk h1 h2 r1 r2 hd hs hok hbb;go_enter Tryz.func281,Tryz.ntmps281;go_wp2_with fail;generalize w.alloc (.cells (C1++C2) 184)=w1 at *
 generalize hgs:w.heap.size=g at *
 clear hgs hA hlt;refine(lL w1).mono ?_;rintro e w2 ⟨rfl,b2⟩;have hk2:=(ae HW).1.later b2 (ae HW).2.1.lt;have hr2:=(ae HW).2.1.kept (b2.mono (ae HW).2.1.lt);have hv2:=(ae HW).2.2.1.later b2;have hg2:w2.rangeAt g 19 C2.toList:=iq (ae HW).2.2.2 b2 hszA;have hgw2:g<w2.heap.size:=a0k hszA b2.size;have HSc:=af (rG 3 4 28 b p k s w2 hr2 (ae HS) (by omega) (by omega) (by omega) (by omega) (fun k h=>by omega) (by omega));have HW2:=af (a0b hk2 (a0b hv2 hg2));clear b2 hk2 hr2 hv2 hg2 HW hszA;have ek:(k:Int)+257-256-1=(k:Int):=by omega
 unfold gK at HSc;rcases h1:scG (au s) (8*s.size) 3 4 28 k p with _|⟨x,q1⟩
 ·
  rw[h1]at HSc;have Hn:Hid (d=none):=by show d=none;rw[←ae Hd];unfold okG jO;rw[h1];rfl
  clear h1;go_wp2_with fail;refine(ae HSc).mono ?_;rintro e x3 ⟨k3,rfl⟩;refine⟨rfl,?_⟩;unfold TkP;rw[ae Hn];exact⟨(ae HW2).1.trans k3,rfl⟩
 ·
  rw[h1]at HSc;have hb1:=z8 h1;have H1:=af h1;have Hq1:=af hb1.1;clear h1 hb1;go_wp2_with fail;refine(ae HSc).mono ?_;rintro e x3 ⟨k3,rfl,r3⟩;have hk3:=(ae HW2).1.trans k3;have hv3:=(ae HW2).2.1.keep1 k3 (ae HBB);have hg3:=o9 (ae HW2).2.2 k3 hgw2 hne;have hgw3:g<x3.heap.size:=a0k hgw2 k3.1.size;have HW3:=af (a0b hk3 (a0b hv3 (a0b hg3 r3)));clear k3 hk3 hv3 hg3 r3 HSc HW2 hgw2;have HSW:Hid (∀W,ax b x3 W->W.rangeAt g 19 C2.toList):=fun W h=>o9 (ae HW3).2.2.1 h hgw3 hne;have hk0:ax b x3 x3.drew:=(ax.refl b x3).drew;go_wp2_with fail;refine a0Q (S:=fun W=>W.rangeAt g 19 C2.toList) hmix (ae HSW _ hk0) (fun hS=>?_);refine ag 0 (.pointer (some ⟨b,0,none⟩)) rfl (by kernel_rfl) (fun _ _ _ h=>h) rfl (fun W hSw=>by go_simp) hS ?_;refine ag 2 (.pointer (some ⟨b,0,none⟩)) rfl (by kernel_rfl) (fun _ _ _ h=>h) rfl (fun W hSw=>by go_simp) hS ?_;refine ag 3 (.pointer (some ⟨g,19,none⟩)) rfl (by kernel_rfl) (fun _ _ _ h=>h) rfl (fun W hSw=>by go_simp) hS ?_;refine a0X (i:=4) (v:=.agg C2) rfl (by kernel_rfl) (by kernel_rfl) (by kernel_rfl) (fun _ _ _ h=>h) (cz (by rfl) 182 (.tmp 25) rfl g 19 rfl C2 _ (fun _ h=>h) Tryz.underlying182 rfl hi2) hS ?_;refine ah 1 (by kernel_rfl) rfl fun K hK=>?_;go_simp;go_at_call 213;refine(lI _).mono ?_;rintro e x4 ⟨rfl,b4⟩;have k4:ax b x3 x4:=hk0.later b4 (ae HW3).2.2.2.lt;have r4:Rdr x4 b s q1:=Rdr.kept (w:=x3.drew) (show Rdr x3.drew b s q1 from(ae HW3).2.2.2) (b4.mono (ae HW3).2.2.2.lt);have v4:=(ae HW3).2.1.keep1 k4 (ae HBB);have HDy:=af (vR b q1 base C2 D s x4 v4 (ae HBB) (ae HOK) (ae HS) r4 (ae Hq1));refine a0f hK _ _ (ae HSW _ k4) (fun hS2=>?_);clear hK K b4 v4;refine ah 5 (by kernel_rfl) rfl fun K hK=>?_;go_simp;go_at_call 288;unfold SyP at HDy;rcases h2:dec D (au s) (8*s.size) q1 with _|⟨j,q2⟩
  ·
   rw[h2]at HDy;have Hn:Hid (d=none):=by show d=none;rw[←ae Hd];unfold okG jO;rw[ae H1];simp only[a0g];rw[h2];rfl
   refine(ae HDy).mono ?_;rintro e x5 ⟨k5,rfl⟩;refine⟨rfl,?_⟩;unfold TkP;rw[ae Hn];exact⟨(ae HW3).1.trans (k4.trans k5),rfl⟩
  ·
   rw[h2]at HDy;have hb2:=fw h2;have H2:=af h2;refine(ae HDy).mono ?_;rintro e x5 ⟨k5,rfl,r5⟩;have k35:=k4.trans k5;refine a0f hK _ _ (ae HSW _ k35) (fun hS3=>?_);clear hK K k5 k4 r4 HDy;obtain⟨jn,hj⟩:=a0u hb2.2.2.1;subst hj;have hj300:jn<=1000:=by have:=gZ (ae HOK);omega
   have HSc2:=af (rG 1 2 30 b q2 jn s x5 r5 (ae HS) (by omega) (by omega) (by omega) (by omega) (fun k h=>by omega) hj300);refine ah 6 (by kernel_rfl) rfl fun K hK=>?_;go_simp;go_at_call 287;unfold gK at HSc2;rcases h3:scG (au s) (8*s.size) 1 2 30 jn q2 with _|⟨y,q3⟩
   ·
    rw[h3]at HSc2;have Hn:Hid (d=none):=by show d=none;rw[←ae Hd];unfold okG jO;rw[ae H1];simp only[a0g];rw[ae H2];simp only[a0g,a0r];rw[h3];rfl
    refine(ae HSc2).mono ?_;rintro e x6 ⟨k6,rfl⟩;refine⟨rfl,?_⟩;unfold TkP;rw[ae Hn];exact⟨(ae HW3).1.trans (k35.trans k6),rfl⟩
   ·
    rw[h3]at HSc2;have H3:=af h3;refine(ae HSc2).mono ?_;rintro e x6 ⟨k6,rfl,r6⟩;have k36:=k35.trans k6;refine a0f hK _ _ (ae HSW _ k36) (fun hS4=>?_);clear hK K;refine ah 7 (by kernel_rfl) rfl fun K hK=>?_;go_simp;refine a0f hK _ _ (ae HSW _ k36) (fun hS5=>?_);clear hK K;refine a0F (by kernel_rfl) ?_ _;have HE:Hid (d=if okT (0,(x:Int),(y:Int))=true then some ((0,(x:Int),(y:Int)),q3)else none):=by
     show d=_;rw[←ae Hd];unfold okG jO;rw[ae H1];simp only[a0g];rw[ae H2];simp only[a0g,a0r];rw[ae H3];rfl
    have HK6:=af (a0b ((ae HW3).1.trans k36) r6);have HLo:=af (fun W=>GD (0,(x:Int),(y:Int)) W);clear hS hS2 hS3 hS4 hS5 k36 k35 k6 r6 r5 HSW hk0 h2 h3 hb2 hj300 HSc2;simp only at HLo;go_wp2_with fail;refine(ae HLo _).mono ?_;rintro e x7 ⟨rfl,b7⟩;have HK7:=af (a0b ((ae HK6).1.later b7 (ae HK6).2.lt) ((ae HK6).2.kept (b7.mono (ae HK6).2.lt)));clear b7 HK6 HLo;cases hok:okT (0,(x:Int),(y:Int))
    ·
     have Hn:Hid (d=none):=by show d=none;rw[ae HE,hok];rfl
     clear hok;generalize dY (0,(x:Int),(y:Int))=tv at *
     go_wp2_with fail;refine(dP _).mono ?_;rintro e x8 ⟨rfl,hx8⟩;rw[hx8];clear hx8 x8;refine⟨rfl,?_⟩;unfold TkP;rw[ae Hn];exact⟨(ae HK7).1,rfl⟩
    ·
     have Hn:Hid (d=some ((0,(x:Int),(y:Int)),q3)):=by show d=_;rw[ae HE,hok];rfl
     clear hok;obtain⟨t,ht⟩:∃t:Tk,(0,(x:Int),(y:Int))=t:=⟨_,rfl⟩;rw[ht]at Hn ⊢;clear ht;generalize htv:dY t=tv at *
     have HTv:=af htv;clear htv;go_wp2_with fail;refine(ci _).mono ?_;rintro e x8 ⟨rfl,hx8⟩;rw[hx8];clear hx8 x8;go_wp2;go_ret;unfold TkP;rw[ae Hn];exact⟨(ae HK7).1,by rw[ae HTv];rfl,(ae HK7).2⟩
set_option maxRecDepth 100000 in
theorem sC(b p:Nat)(s:ByteArray)(T:List UInt8)(w:World)(h:Sou w b s p T)(hT:T.length<=300)(hp:p<=8*s.size)(hs:s.size<=2000000) :
  Calls Tryz.prog 246 #[.pointer (some ⟨b,0,none⟩)] w (bY w b s (hH (au s) (8*s.size) p T)):=by
 obtain⟨d,hd⟩:∃d,hH (au s) (8*s.size) p T=d:=⟨_,rfl⟩;rw[hd];have Hd:=af hd;have HW:=af (lP b p s w h.1 hs hp);have HS:=af h;have HN:=af (a0b hs hT);clear h hT hp hs hd;go_enter Tryz.func246,Tryz.ntmps246;unfold hH at Hd;rcases h1:iS (au s) p with _|q
 ·
  rw[h1]at HW;have Hn:Hid (d=none):=by show d=none;rw[←ae Hd,h1];rfl
  clear h1 Hd;go_wp2_with fail;refine(ae HW).mono ?_;rintro e x1 ⟨k1,rfl⟩;refine⟨rfl,?_⟩;unfold bY;rw[ae Hn];exact⟨k1.ku,rfl⟩
 rw[h1]at HW Hd;clear h1;simp only[a0g]at Hd;go_wp2_with fail;refine(ae HW).mono ?_;rintro e x1 ⟨k1,rfl,r1⟩;have HS1:=af (a0b k1.ku ((ae HS).keep1 k1 r1));clear k1 r1 HS HW;have HM:=af (bu b q 16 s x1 (ae HS1).2.1 (ae HN).1 (by omega));rcases h2:rdN (au s) (8*s.size) q 16 with _|⟨a,q2⟩
 ·
  rw[h2]at HM;unfold gK at HM;have Hn:Hid (d=none):=by show d=none;rw[←ae Hd,h2];rfl
  clear h2 Hd;go_wp2_with fail;refine(ae HM).mono ?_;rintro e x2 ⟨k2,rfl⟩;refine⟨rfl,?_⟩;unfold bY;rw[ae Hn];exact⟨(ae HS1).1.trans k2.ku,rfl⟩
 rw[h2]at HM Hd;unfold gK at HM;have ha:a<=65535:=by have:=(bq h2).2.2.2;omega
 clear h2;simp only[a0g]at Hd;go_wp2_with fail;refine(ae HM).mono ?_;rintro e x2 ⟨k2,rfl,r2⟩;have HS2:=af (a0b ((ae HS1).1.trans k2.ku) ((ae HS1).2.keep1 k2 r2));clear k2 r2 HS1 HM;have HM:=af (bu b q2 16 s x2 (ae HS2).2.1 (ae HN).1 (by omega));rcases h3:rdN (au s) (8*s.size) q2 16 with _|⟨c,q3⟩
 ·
  rw[h3]at HM;unfold gK at HM;have Hn:Hid (d=none):=by show d=none;rw[←ae Hd,h3];rfl
  clear h3 Hd;go_wp2_with fail;refine(ae HM).mono ?_;rintro e x3 ⟨k3,rfl⟩;refine⟨rfl,?_⟩;unfold bY;rw[ae Hn];exact⟨(ae HS2).1.trans k3.ku,rfl⟩
 rw[h3]at HM Hd;unfold gK at HM;simp only[a0g]at Hd;go_wp2_with fail;refine(ae HM).mono ?_;rintro e x3 ⟨k3,rfl,r3⟩;have HS3:=af (a0b ((ae HS2).1.trans k3.ku) ((ae HS2).2.keep1 k3 r3));clear k3 r3 HS2 HM;have hx:bits .xor .i64 (a:Int) 65535=((65535-a:Nat):Int):=by
  rw[←Je a ha];exact ka a 65535 (by omega) (by omega)
 by_cases hca:c=65535-a
 ·
  rw[a0d hca]at Hd;have hb:((c:Int) == bits .xor .i64 (a:Int) 65535)=true:=by rw[hx,hca];exact beq_self_eq_true _
  clear h3 hx hca;go_wp2_with fail;refine(ci _).mono ?_;rintro e x4 ⟨rfl,hx4⟩;rw[hx4];clear hx4 x4 hb;go_wp2_with fail
  go_loopw [14] (fun i wr=>∃(k q:Nat) (R:List UInt8),k<=a/\i = .int .i64 k/\KU b w wr/\Sou wr b s q R/\R.length<=300/\gP (au s) (8*s.size) (a-k) q R=d) (fun i _=>a-(intOf i).toNat)
  case atStart=>exact⟨0,q3,T,a0h _,rfl,(ae HS3).1,(ae HS3).2,(ae HN).2,ae Hd⟩
  case round=>
   obtain⟨k,q,R,hk,rfl,hku,hsou,hR,hg⟩:=hrel;clear HS3 Hd;have HKU:=af hku;have HSO:=af hsou;have HG:=af hg;have HR:=af hR;clear hku hsou hg hR hk;by_cases hlt:k<a
   ·
    have hltI:(k:Int)<(a:Int):=by omega
    have e1:a-k=(a-(k+1))+1:=by omega
    have HM:=af (bu b q 8 s wr (ae HSO).1 (ae HN).1 (by omega));rw[e1]at HG;simp only[gP]at HG;clear e1;rcases h4:rdN (au s) (8*s.size) q 8 with _|⟨y,q4⟩
    ·
     rw[h4]at HM HG;unfold gK at HM;have Hn:Hid (d=none):=by show d=none;rw[←ae HG];rfl
     clear h4 HG;go_wp2_with fail;refine(ae HM).mono ?_;rintro e x5 ⟨k5,rfl⟩;refine⟨rfl,?_⟩;unfold bY;rw[ae Hn];exact⟨(ae HKU).trans k5.ku,rfl⟩
    rw[h4]at HM HG;unfold gK at HM;have hy:y<256:=by have:=(bq h4).2.2.2;omega
    have hu:IntKind.u8.wrap (y:Int)=(y:Int):=I3 (by omega) (by omega);have hB:isB (((y:Nat):Int),0,0)=true:=by unfold isB inB;simp;omega
    have hok:okT (((y:Nat):Int),0,0)=true:=by unfold okT;rw[hB];rfl
    have HTV:=af (jv hB);clear h4 hB;simp only[a0g]at HG;go_wp2_with fail;refine(ae HM).mono ?_;rintro e x5 ⟨k5,rfl,r5⟩;have HKU5:=af ((ae HKU).trans k5.ku);have HSO5:=af ((ae HSO).keep1 k5 r5);clear k5 r5 HM HKU HSO;have HL:=af (Bi b q4 s R (((y:Nat):Int),0,0) x5 (ae HSO5) (ae HR) hok);rw[ae HTV]at HL;clear hok HTV;go_wp2_with fail;refine(ae HL).mono ?_;intro e x6 h6;unfold bY at h6;rcases h7:dE R (((y:Nat):Int),0,0)with _|R'
    ·
     rw[h7]at h6 HG;obtain⟨k6,rfl⟩:=h6;have Hn:Hid (d=none):=by show d=none;rw[←ae HG];rfl
     refine⟨rfl,?_⟩;unfold bY;rw[ae Hn];exact⟨(ae HKU5).trans k6,rfl⟩
    rw[h7]at h6 HG;obtain⟨k6,rfl,s6⟩:=h6;simp only[a0g]at HG;have HR':=af (my h7);have HKU6:=af ((ae HKU5).trans k6);have HSO6:=af s6;clear k6 s6 h7 HKU5 HSO5 HL HR;go_wp2_with fail;go_roundw
    case rel=>exact⟨k+1,q4,R',hlt,by go_num,ae HKU6,ae HSO6,ae HR',ae HG⟩
    case measure=>simp[intOf];omega
   ·
    have hltI:¬ (k:Int)<(a:Int):=by omega
    have e0:a-k=0:=by omega
    rw[e0]at HG;simp only[gP]at HG;go_wp2
    go_end0
    unfold bY;rw[←ae HG];exact⟨ae HKU,rfl,ae HSO⟩
 ·
  rw[a0e hca]at Hd;have hb:((c:Int) == bits .xor .i64 (a:Int) 65535)=false:=by rw[hx,a1b];omega
  have Hn:Hid (d=none):=by show d=none;rw[←ae Hd]
  clear Hd hx hca h3;go_wp2_with fail;refine(dP _).mono ?_;rintro e x4 ⟨rfl,hx4⟩;rw[hx4];clear hx4 x4;refine⟨rfl,?_⟩;unfold bY;rw[ae Hn];exact⟨(ae HS3).1,rfl⟩
def oY(V sz:Nat)(L D:List Int)(k:Int)(q:Nat)(R:List UInt8):Option (List UInt8×Nat):=
 if k=256 then some (R,q)else(oneG V sz D k q).bind fun t=>(dE R t.1).bind fun T'=>ju V sz L D t.2 T'
theorem tP{V sz:Nat}{L D:List Int}{p:Nat}{T:List UInt8} : ju V sz L D p T=(dec L V sz p).bind fun k=>oY V sz L D k.1 k.2 T:=by
 rcases h:dec L V sz p with _|⟨i,q⟩
 · rw[Es h];rfl
 ·
  simp only[a0g];unfold oY;by_cases hi:i=256
  · subst hi;rw[yg h,a0d rfl]
  · rw[tQ h hi,a0e hi]
theorem DC{V sz:Nat}{L D:List Int}{k:Int}{q:Nat}{R:List UInt8}(hk:k≠256)(h:okG (oneG V sz D k q)=none):oY V sz L D k q R=none:=by
 unfold oY;rw[a0e hk];unfold okG at h;rcases h1:oneG V sz D k q with _|⟨t,r⟩
 · rfl
 ·
  rw[h1]at h;simp only[a0g]at h ⊢
  split at h
  · cases h
  · rw[EU (Bool.eq_false_iff.2 (by assumption))];rfl
theorem zR{V sz:Nat}{L D:List Int}{k:Int}{q r:Nat}{t:Tk}{R:List UInt8}(hk:k≠256)(h:okG (oneG V sz D k q)=some (t,r)):oneG V sz D k q=some (t,r)/\okT t=true/\oY V sz L D k q R=(dE R t).bind fun T'=>ju V sz L D r T':=by
 unfold okG at h;rcases h1:oneG V sz D k q with _|⟨t',r'⟩
 · rw[h1]at h;cases h
 ·
  rw[h1]at h;simp only[a0g]at h
  split at h
  · simp only[a0j,a0O]at h;obtain⟨rfl,rfl⟩:=h;refine⟨rfl,by assumption,?_⟩;unfold oY;rw[a0e hk,h1];rfl
  · cases h
theorem Eu(b p base:Nat)(k:Int)(L D:List Int)(C:Array Value)(s:ByteArray)(w:World)(hr:Rdr w b s p)(h0:0<=k)(hk:k<=1000)(hne:k≠256)(hBk:cY w base L D C)(hbb:b<base)(hok:ap D=true)(hs:s.size<=2000000) :
  Calls Tryz.prog 281 #[.pointer (some ⟨b,0,none⟩),.int .i64 k,.agg C] w (TkP w b s (okG (oneG (au s) (8*s.size) D k p))):=by
 obtain⟨n,rfl⟩:=a0u h0;by_cases h:n<256
 ·
  have hB:isB (((n:Nat):Int),0,0)=true:=by unfold isB inB;simp;omega
  have hokt:okT (((n:Nat):Int),0,0)=true:=by unfold okT;rw[hB];rfl
  have e:okG (oneG (au s) (8*s.size) D (n:Int) p)=some ((((n:Nat):Int),0,0),p):=by
   unfold oneG okG;rw[a0d (by omega)];simp only[a0g];rw[a0d hokt]
  rw[e];exact Am b p n C s w hr h
 ·
  obtain⟨m,rfl⟩:∃m,n=m+257:=⟨n-257,by omega⟩;have e:oneG (au s) (8*s.size) D ((m+257:Nat):Int) p=jO (au s) (8*s.size) D m p:=by
   unfold oneG;rw[a0e (by omega)];rw[show(((m+257:Nat):Int).toNat-257)=m by omega]
  rw[e];exact Ao b p m base L D C s w hr (by omega) hBk hbb hok hs
def mh(b:Nat)(w:World):Nat:=match w.cell? ⟨b,1,none⟩with
 | some v=>(intOf v).toNat
 | none=>0
theorem Sou.place{w:World}{b p:Nat}{s:ByteArray}{T:List UInt8}(h:Sou w b s p T)(hp:p<=8*s.size):mh b w=p:=by
 have h1:=(h.1.at hp).2.1;unfold mh;rw[h1];simp[intOf]
theorem pn{w:World}{g:Nat}{C:Array Value}{t:TypeId}(h:w.heap[g]?=some (Obj.cells C t)):w.rangeAt g 0 C.toList:=by
 intro j v hv;rw[a0A,bn h];simpa using hv
theorem KU.books{w w':World}{b g:Nat}{C:Array Value}(h:KU b w w')(hg:w.heap[g]?=some (Obj.cells C 184))(hne:g≠b):w'.heap[g]?=some (Obj.cells C 184):=by
 have hlt:g<w.heap.size:=by
  rcases a1q g w.heap.size with h1|h1
  · exact h1
  · rw[Array.getElem?_eq_none h1]at hg;cases hg
 rw[h.2 g hlt hne (by intro cur fr hc;rw[hg]at hc;simp at hc)];exact hg
def TkI(b g base:Nat)(s:ByteArray)(L D:List Int)(C:Array Value)(d:Option (List UInt8×Nat))(w:World)(i:Value)(wr:World):Prop:=
 ∃(k:Int) (q:Nat) (R:List UInt8),i = .int .i64 k/\0<=k/\k<=1000/\KU b w wr/\Sou wr b s q R/\R.length<=300/\q<=8*s.size/\wr.heap[g]?=some (Obj.cells C 184)/\cY wr base L D C/\oY (au s) (8*s.size) L D k q R=d
set_option maxRecDepth 100000 in
theorem rP(b p base:Nat)(s:ByteArray)(L D:List Int)(C:Array Value)(T:List UInt8)(w:World)(h:Sou w b s p T)(hT:T.length<=300)(hp:p<=8*s.size)(hs:s.size<=2000000)(hBk:cY w base L D C)(hbb:b<base)(hL:ap L=true)(hD:ap D=true) :
  Calls Tryz.prog 269 #[.pointer (some ⟨b,0,none⟩),.agg C] w (bY w b s (ju (au s) (8*s.size) L D p T)):=by
 obtain⟨d,hd⟩:∃d,ju (au s) (8*s.size) L D p T=d:=⟨_,rfl⟩;rw[hd];have hd:=tP.symm.trans hd;have hlt:=h.lt;have hne:w.heap.size≠b:=by omega
 have hA:Below w.heap.size w (w.alloc (.cells C 184)):=(a0c _ _).alloc (a0a _) _;have hS1:=h.later hA;have hB1:=hBk.later hA;have hku:KU b w (w.alloc (.cells C 184)):=(KU.refl b w).later hA hlt;have hat:=alloc_at w (.cells C 184);have HN:=af (a0b hs (a0b hbb (a0b hL hD)));have HT:=af hT;have HLn:=af (gZ hL);obtain⟨C1,C2,rfl,b1,b2⟩:=hBk;have hz1:=b1.size;have hz2:=b2.size;have HZ:=af (a0b hz1 (show(C1++C2).size=38 by rw[a2l,hz1,hz2]));have HRG:Hid (∀W:World,W.heap[w.heap.size]?=some (Obj.cells (C1++C2) 184)->W.rangeAt w.heap.size 0 C1.toList):=fun W h=>(fS h hz1).1;have HBV:Hid (∀W,cY W base L D (C1++C2)->bm W base L C1):=by
  intro W hW;obtain⟨E1,E2,e,f1,f2⟩:=hW;have:=f1.size;have e1:C1=E1:=by
   have h1:=congrArg Array.toList e;simp only[a1R]at h1;have h2:=a2S h1 (by simp[hz1,this]);exact Array.ext' h2.1
  rw[e1];exact f1
 clear b1 b2 h hbb hL hD hT hz1 hz2 hs;generalize hC:C1++C2=C at *
 go_enter Tryz.func269,Tryz.ntmps269;have HX:=af (a0b hku (a0b hS1 (a0b hB1 hat)));clear hku hS1 hB1 hat hA;have HSy:=af (qU b p base C1 L s (w.alloc (.cells C 184)) (ae HBV _ (ae HX).2.2.1) (ae HN).2.1 (ae HN).2.2.1 (ae HN).1 (ae HX).2.1.1 hp);clear hp;unfold SyP at HSy;rcases h1:dec L (au s) (8*s.size) p with _|⟨k,q⟩
 ·
  rw[h1]at HSy hd;have Hn:Hid (d=none):=by show d=none;rw[←hd];rfl
  clear h1 hd;go_wp2_with (refine aO rfl 179 (.tmp 6) rfl w.heap.size 0 rfl C1 _ (ae HRG _ (ae HX).2.2.2) a17 rfl (by rw[(ae HZ).1];exact Tryz.infoLitB) ?_);refine(ae HSy).mono ?_;rintro e x1 ⟨k1,rfl⟩;refine⟨rfl,?_⟩;unfold bY;rw[ae Hn];exact⟨(ae HX).1.trans k1.ku,rfl⟩
 rw[h1]at HSy hd;have hb:=fw h1;clear h1;simp only[a0g]at hd;go_wp2_with (refine aO rfl 179 (.tmp 6) rfl w.heap.size 0 rfl C1 _ (ae HRG _ (ae HX).2.2.2) a17 rfl (by rw[(ae HZ).1];exact Tryz.infoLitB) ?_);refine(ae HSy).mono ?_;rintro e x1 ⟨k1,rfl,r1⟩;have HI:Hid (TkI b w.heap.size base s L D C d w (.int .i64 k) x1):=
  ⟨k,q,T,rfl,hb.2.2.1,by have:=ae HLn;omega,(ae HX).1.trans k1.ku,(ae HX).2.1.keep1 k1 r1,ae HT,hb.1,k1.ku.books (ae HX).2.2.2 hne,(ae HX).2.2.1.keep1 k1 (ae HN).2.1,hd⟩
 clear k1 r1 HSy hb hd HX HT;go_wp2_with fail
 go_loopw [4] (fun i wr=>TkI b w.heap.size base s L D C d w i wr) (fun _ wr=>8*s.size-mh b wr)
 case atStart=>exact ae HI
 case round=>
  obtain⟨k,q,R,rfl,k0,k1,hku,hsou,hR,hq,hat,hbk,hn⟩:=hrel;clear HI;have HX:=af (a0b hku (a0b hsou (a0b hR (a0b hq (a0b hat hbk)))));have HNx:=af hn;have HPl:=af (hsou.place hq);clear hku hsou hR hq hat hbk hn;by_cases hk:k=256
  ·
   subst hk;go_wp2
   go_end0
   unfold bY;rw[←ae HNx];unfold oY;rw[a0d rfl];exact⟨(ae HX).1,rfl,(ae HX).2.1⟩
  have hkb:(k == 256)=false:=by rw[a1b];exact hk
  have HTk:=af (Eu b q base k L D C s wr (ae HX).2.1.1 k0 k1 hk (ae HX).2.2.2.2.2 (ae HN).2.1 (ae HN).2.2.2 (ae HN).1);have HRW:=af (pn (ae HX).2.2.2.2.1);unfold TkP at HTk;rcases h2:okG (oneG (au s) (8*s.size) D k q)with _|⟨t,r⟩
  ·
   rw[h2]at HTk;have Hn:Hid (d=none):=by show d=none;rw[←ae HNx];exact DC hk h2
   clear h2;go_wp2_with (refine aO rfl 184 (.tmp 3) rfl w.heap.size 0 rfl C _ (ae HRW) a3p rfl (by rw[(ae HZ).2];exact Tryz.infoBooks) ?_);refine(ae HTk).mono ?_;rintro e x2 ⟨k2,rfl⟩;refine⟨rfl,?_⟩;unfold bY;rw[ae Hn];exact⟨(ae HX).1.trans k2.ku,rfl⟩
  rw[h2]at HTk;obtain⟨n1,n2,n3⟩:=zR (L:=L) (R:=R) hk h2;have Hrb:=af (pL n1 (ae HX).2.2.2.1);rw[n3]at HNx;have Hok:=af n2;clear h2 n1 n2 n3;go_wp2_with (refine aO rfl 184 (.tmp 3) rfl w.heap.size 0 rfl C _ (ae HRW) a3p rfl (by rw[(ae HZ).2];exact Tryz.infoBooks) ?_);refine(ae HTk).mono ?_;rintro e x2 ⟨k2,rfl,r2⟩;have HX2:=af (a0b ((ae HX).1.trans k2.ku) (a0b ((ae HX).2.1.keep1 k2 r2) (a0b (k2.ku.books (ae HX).2.2.2.2.1 hne) ((ae HX).2.2.2.2.2.keep1 k2 (ae HN).2.1))));have HRq:=af (a0b (ae HX).2.2.1 (ae HX).2.2.2.1);clear k2 r2 HTk HX HRW;have HLy:=af (Bi b r s R t x2 (ae HX2).2.1 (ae HRq).1 (ae Hok));generalize dY t=tv at *
  unfold bY at HLy;rcases h3:dE R t with _|R'
  ·
   rw[h3]at HLy HNx;have Hn:Hid (d=none):=by show d=none;rw[←ae HNx];rfl
   clear h3;go_wp2_with fail;refine(ae HLy).mono ?_;rintro e x3 ⟨k3,rfl⟩;refine⟨rfl,?_⟩;unfold bY;rw[ae Hn];exact⟨(ae HX2).1.trans k3,rfl⟩
  rw[h3]at HLy HNx;have HR':=af (my h3);clear h3;simp only[a0g]at HNx;rw[tP]at HNx;go_wp2_with fail;refine(ae HLy).mono ?_;rintro e x3 ⟨k3,rfl,s3⟩;have HX3:=af (a0b ((ae HX2).1.trans k3) (a0b s3 (a0b (k3.books (ae HX2).2.2.1 hne) ((ae HX2).2.2.2.ku k3 (ae HN).2.1))));clear k3 s3 HLy HX2;have HSy:=af (qU b r base C1 L s x3 (ae HBV _ (ae HX3).2.2.2) (ae HN).2.1 (ae HN).2.2.1 (ae HN).1 (ae HX3).2.1.1 (ae Hrb).1);have HRg3:=af (ae HRG _ (ae HX3).2.2.1);unfold SyP at HSy;rcases h4:dec L (au s) (8*s.size) r with _|⟨k',q'⟩
  ·
   rw[h4]at HSy HNx;have Hn:Hid (d=none):=by show d=none;rw[←ae HNx];rfl
   clear h4;go_wp2_with (refine aO rfl 179 (.tmp 12) rfl w.heap.size 0 rfl C1 _ (ae HRg3) a17 rfl (by rw[(ae HZ).1];exact Tryz.infoLitB) ?_);refine(ae HSy).mono ?_;rintro e x4 ⟨k4,rfl⟩;refine⟨rfl,?_⟩;unfold bY;rw[ae Hn];exact⟨(ae HX3).1.trans k4.ku,rfl⟩
  rw[h4]at HSy HNx;have hb:=fw h4;clear h4;simp only[a0g]at HNx;go_wp2_with (refine aO rfl 179 (.tmp 12) rfl w.heap.size 0 rfl C1 _ (ae HRg3) a17 rfl (by rw[(ae HZ).1];exact Tryz.infoLitB) ?_);refine(ae HSy).mono ?_;rintro e x4 ⟨k4,rfl,r4⟩;have hs4:=(ae HX3).2.1.keep1 k4 r4;have HP4:=af (hs4.place hb.1);have HI:Hid (TkI b w.heap.size base s L D C d w (.int .i64 k') x4):=
   ⟨k',q',R',rfl,hb.2.2.1,by have:=ae HLn;omega,(ae HX3).1.trans k4.ku,hs4,ae HR',hb.1,k4.ku.books (ae HX3).2.2.1 hne,(ae HX3).2.2.2.keep1 k4 (ae HN).2.1,ae HNx⟩
  have Hm:Hid (q<q'/\q'<=8*s.size):=⟨by have:=ae Hrb;omega,hb.1⟩;clear k4 r4 hs4 hb HSy HRg3 HX3;go_wp2_with fail;go_roundw
  case rel=>exact ae HI
  case measure=>rw[ae HP4,ae HPl];have:=ae Hm;omega
theorem dk.below{w w':World}{B:Nat}(h:dk w)(hb:Below B w w')(hB:1<B):dk w':=
 ⟨fun j v hv=>(hb.cell (p:=⟨1,0+j,none⟩) hB).trans (h.1 j v hv),a0k h.2 hb.size⟩
theorem dk.cell{w:World}{k:Nat}(h:dk w)(hk:k<19):w.cell? ⟨1,k,none⟩=some (.int .i64 (bv.getD k 0:Nat)):=by
 have:=h.1 k (.int .i64 (bv.getD k 0:Nat)) (by rw[Array.getElem?_toList];exact xt k hk);rwa[a0A]at this
theorem GZ{m k:Nat}(h:k<m)(hm:m<=19):(bv.take m).drop k=bv.getD k 0 :: (bv.take m).drop (k+1):=by
 have h1:k<(bv.take m).length:=by rw[a0t];have:bv.length=19:=rfl;omega
 rw[List.drop_eq_getElem_cons h1]
 congr 1
 have h2:k<bv.length:=by have:bv.length=19:=rfl;omega
 simp[List.getD,h2]
def LbP(w:World)(b:Nat)(s:ByteArray)(d:Option (List Int×Nat))(e:Ending)(w':World):Prop:=
 ax b w w'/\match d with
  | none=>e=iC
  | some (l,q)=>(∃C,e = .returned (.agg C)/\bm w' w.heap.size l C)/\Rdr w' b s q
theorem ax.set{b g o:Nat}{w x:World}(h:ax b w x)(hg:w.heap.size<=g)(hb:b<w.heap.size)(u:Value):ax b w (x.setCell ⟨g,o,none⟩ u):=
 ⟨ai h.1 (by omega) u,fun j hj hne=>(a0J _ _ _ j (by show j≠g;omega)).trans (h.2 j hj hne),fun j hj=>⟨by rw[World.cell?_setCell_other _ _ _ _ (by simp only[ne_eq,a0w];omega)];exact(h.3 j hj).1,by simpa using(h.3 j hj).2⟩⟩
theorem ax.setCells{b g:Nat}{w x:World}(h:ax b w x)(hg:w.heap.size<=g)(hb:b<w.heap.size)(o:Nat)(us:List Value):ax b w (x.setCells g o us):=by
 have hk:∀j,j≠g->(x.setCells g o us).heap[j]?=x.heap[j]?:=fun j hj=>cW _ _ _ _ j hj;refine⟨below_setCells (by omega) _ _ _ h.1,fun j hj hne=>(hk j (by omega)).trans (h.2 j hj hne),fun j hj=>?_⟩;have h1:=hk b (by omega);exact⟨(World.cell?_of_block (w:=x) h1 (a:=⟨b,j,none⟩)).trans (h.3 j hj).1,by rw[World.frozen?_setCells];exact(h.3 j hj).2⟩
theorem Rdr.set{b g o p:Nat}{s:ByteArray}{x:World}(h:Rdr x b s p)(hne:g≠b)(u:Value):Rdr (x.setCell ⟨g,o,none⟩ u) b s p:=by
 obtain⟨c0,c1,c2,g0,g1,g2,hb⟩:=h;exact⟨by rw[World.cell?_setCell_other _ _ _ _ (by simp only[ne_eq,a0w];omega)];exact c0,by rw[World.cell?_setCell_other _ _ _ _ (by simp only[ne_eq,a0w];omega)];exact c1,by rw[World.cell?_setCell_other _ _ _ _ (by simp only[ne_eq,a0w];omega)];exact c2,by simpa using g0,by simpa using g1,by simpa using g2,by simpa using hb⟩
theorem yd{b g n:Nat}{w w':World}(h:w.there g 0 n)(hk:ax b w w')(hg:g<w.heap.size)(hne:g≠b):w'.there g 0 n:=fun j hj=>by
 obtain⟨t1,t2⟩:=h j hj;have h1:=hk.2 g hg hne;exact⟨by rw[World.cell?_of_block (w:=w) h1 (a:=⟨g,0+j,none⟩)];exact t1,by rw[World.frozen?_of_block (w:=w) h1 (a:=⟨g,0+j,none⟩)];exact t2⟩
theorem ar.keep1'{w w':World}{b base:Nat}{v:Value}{l:List Int}(h:ar w base v l)(hk:ax b w w')(hb:b<base):ar w' base v l:=hk.own h hb
def LbI(b gL many:Nat)(s:ByteArray)(d:Option (List Int×Nat))(w:World)(i:Value)(wr:World):Prop:=
 ∃(k q:Nat) (l:List Int),i = .int .i64 k/\k<=many/\ax b w wr/\Rdr wr b s q/\q<=8*s.size/\ar wr (w.heap.size+1) (.slice (some ⟨gL,0,none⟩) 19 19) l/\l.length=19/\wr.there w.heap.size 0 19/\dk wr/\w.heap.size<wr.heap.size/\lbG (au s) (8*s.size) ((bv.take many).drop k) q l=d
set_option maxRecDepth 100000 in
theorem uX(b p many:Nat)(s:ByteArray)(w:World)(h:Rdr w b s p)(hp:p<=8*s.size)(hs:s.size<=2000000)(hm:many<=19)(hO:dk w)(hb:1<b) :
  Calls Tryz.prog 271 #[.pointer (some ⟨b,0,none⟩),.int .i64 (many:Nat)] w (LbP w b s (iG (au s) (8*s.size) many p)):=by
 have hmix:Tryz.prog.follows .mixedOrders=true:=by kernel_rfl
 obtain⟨i0,hi,hz0,hz1,hz2⟩:=a0z Tryz.infoInt;obtain⟨d,hd⟩:∃d,lbG (au s) (8*s.size) (bv.take many) p (List.replicate 19 0)=d:=⟨_,rfl⟩;unfold iG;rw[hd];have hlt:=h.lt;have hmI:(many:Int)<=19:=by omega
 obtain⟨W0,hW0⟩:∃W,w.alloc (.cells nJ 259)=W:=⟨_,rfl⟩;have S0:W0.heap.size=w.heap.size+1:=by rw[←hW0];exact cV _ _
 have B0:Below w.heap.size w W0:=by rw[←hW0];exact(a0c _ _).alloc (a0a _) _
 have T0:W0.there w.heap.size 0 19:=by rw[←hW0];exact fJ w nJ _ _ rfl
 have HX:=af (a0b h (a0b hp (a0b hO (a0b B0 (a0b T0 S0)))));have HN:=af (a0b hs (a0b hm (a0b hb hlt)));have HD:=af hd;have E0:=af hW0;unfold nJ at E0;clear h hp hs hm hO hb hlt hd hW0 B0 T0 S0;go_enter Tryz.func271,Tryz.ntmps271;go_wp2_with (at_make;refine a3m _ rfl _ _ 146 rfl (w.heap.size+1) 3 i0 (.int .i64 0) 1 a05 hi hz0 hz1 .i64 .i64 _ _ 19 rfl rfl rfl rfl (by rw[hz2];omega) (by unfold maxLen;omega) (by simp) ?_;intro w1 hown hgrow);rw[ae E0]at hown hgrow;rw[(ae HX).2.2.2.2.2]at hown;have hO1:ar w1 (w.heap.size+1) (.slice (some ⟨w.heap.size+1,0,none⟩) 19 19) (List.replicate 19 0):=gB hown;have hb1:Below (w.heap.size+1) W0 w1:=(a0c _ _).grown hgrow (by rw[(ae HX).2.2.2.2.2];exact a0a _) (fun k h=>by cases h);clear hown hgrow hi hz0 hz1 hz2 E0;have HI:Hid (LbI b (w.heap.size+1) many s d w (.int .i64 (0:Nat)) w1):=by
  obtain⟨h,hp,hO,B0,T0,S0⟩:=ae HX;have hlt:=(ae HN).2.2.2;have bb:Below w.heap.size w w1:=B0.trans (hb1.mono (a1a _));refine⟨0,p,List.replicate 19 0,rfl,a0h _,(ax.refl b w).later bb hlt,h.kept (bb.mono hlt),hp,hO1,by simp,?_,hO.later bb,by have:=hb1.size;omega,ae HD⟩;intro j hj;obtain⟨t1,t2⟩:=T0 j hj;exact⟨by rw[hb1.cell (p:=⟨w.heap.size,0+j,none⟩) (a0m _)];exact t1,by rw[hb1.frozen (p:=⟨w.heap.size,0+j,none⟩) (a0m _)];exact t2⟩
 clear HX HD hO1 hb1
 go_loopw [6,9] (fun _ i wr=>LbI b (w.heap.size+1) many s d w i wr) (fun _ i _=>many-(intOf i).toNat)
 case atStart=>exact ae HI
 case round=>
  obtain⟨k,q,l,rfl,hk,hkp,hr,hq,ho,hl,hth,hO,hsz,hd⟩:=hrel;clear HI;have hne:w.heap.size+1≠b:=by have:=(ae HN).2.2.2;omega
  by_cases hkm:k<many
  ·
   have hkI:(k:Int)<(many:Int):=by omega
   have hk19:k<19:=by have:=(ae HN).2.1;omega
   have hol:=G3 k hk19;rw[GZ hkm (ae HN).2.1]at hd;simp only[lbG]at hd;have HM:=af (bu b q 3 s wr.drew (show Rdr wr.drew b s q from hr) (ae HN).1 (by omega));have HX:=af (a0b hkp (a0b hr (a0b hq (a0b ho (a0b hl (a0b hth (a0b hO hsz)))))));have HSW:Hid (∀W,ax b wr.drew W->W.cell? ⟨1,k,none⟩=some (.int .i64 (bv.getD k 0:Nat))):=fun W h=>(dk.below (w:=wr.drew) (show dk wr.drew from hO) h.1 (ae HN).2.2.1).cell hk19;have HLD:=af hd;clear hkp hr hq ho hl hth hO hsz hk hd;generalize bv.getD k 0=o at *
   have hoI:(o:Int)<19:=by omega
   go_wp2_with fail;refine a0Q (S:=fun W=>W.cell? ⟨1,k,none⟩=some (.int .i64 (o:Nat))) hmix (ae HSW _ (ax.refl _ _)) (fun hS=>?_);refine ag 0 (.slice (some ⟨w.heap.size+1,0,none⟩) 19 19) rfl (by kernel_rfl) (fun _ _ _ h=>h) rfl (fun W hSw=>by go_simp) hS ?_;refine ag 1 (.int .i64 (k:Nat)) rfl (by kernel_rfl) (fun _ _ _ h=>h) rfl (fun W hSw=>by go_simp) hS ?_;refine ag 2 (.pointer (some ⟨1,k,none⟩)) rfl (by kernel_rfl) (fun _ _ _ h=>h) rfl (fun W hSw=>by go_simp<;>(intro h;omega)) hS ?_;refine ag 3 (.int .i64 (o:Nat)) rfl (by kernel_rfl) (fun _ _ _ h=>h) rfl (fun W hSw=>by go_simp) hS ?_;refine ag 4 (.pointer (some ⟨b,0,none⟩)) rfl (by kernel_rfl) (fun _ _ _ h=>h) rfl (fun W hSw=>by go_simp) hS ?_;refine ah 5 (by kernel_rfl) rfl fun K hK=>?_;go_simp;go_at_call 249;unfold gK at HM;rcases h1:rdN (au s) (8*s.size) q 3 with _|⟨x,q1⟩
   ·
    rw[h1]at HM HLD;have Hn:Hid (d=none):=by show d=none;rw[←ae HLD];rfl
    refine(ae HM).mono ?_;rintro e x1 ⟨k1,rfl⟩;refine⟨rfl,?_⟩;unfold LbP;rw[ae Hn];exact⟨(ae HX).1.trans ((ax.refl b wr).drew.trans k1),rfl⟩
   ·
    rw[h1]at HM HLD;simp only[a0g]at HLD;have HB1:=af (bq h1);clear h1;refine(ae HM).mono ?_;rintro e x1 ⟨k1,rfl,r1⟩;refine a0f hK _ _ (ae HSW _ k1) (fun hS2=>?_);clear hK K;have k1':ax b wr x1:=(ax.refl b wr).drew.trans k1;have hlt:=(ae HN).2.2.2;have o1:=(ae HX).2.2.2.1.keep1' k1' (by omega);obtain⟨c1,f1,_,_⟩:=o1.at (ae HX).2.2.2.2.1 hol;refine a0X (i:=6) (v:=.pointer (some ⟨w.heap.size+1,o,none⟩)) rfl (by kernel_rfl) (by kernel_rfl) (by kernel_rfl) (fun _ _ _ h=>h) (a02 ⟨by rfl,fun W hSw=>by go_simp<;>(intro h;omega)⟩) hS2 ?_;refine ah 7 (by kernel_rfl) rfl fun K hK=>?_;go_simp;have hgs:w.heap.size<wr.heap.size:=(ae HX).2.2.2.2.2.2.2;have th1:=yd (ae HX).2.2.2.2.2.1 k1' hgs (by omega);have HI:Hid (LbI b (w.heap.size+1) many s d w (.int .i64 (k+1:Nat)) (x1.setCell ⟨w.heap.size+1,o,none⟩ (.int .i64 (x:Nat)))):=by
     refine⟨k+1,q1,l.set o (x:Nat),rfl,hkm,((ae HX).1.trans k1').set (by omega) hlt _,r1.set hne _,(ae HB1).1,o1.put (ae HX).2.2.2.2.1 _,by rw[a1H];exact(ae HX).2.2.2.2.1,?_,?_,by simp;exact a0k hgs k1'.1.size,ae HLD⟩
     · intro j hj;obtain⟨t1,t2⟩:=th1 j hj;exact⟨by rw[World.cell?_setCell_other _ _ _ _ (by simp)];exact t1,by simpa using t2⟩
     · exact((ae HX).2.2.2.2.2.2.1.below k1'.1 (ae HN).2.2.1).below (ai (a0c b x1) (by omega) _) (ae HN).2.2.1
    have hS3:(x1.setCell ⟨w.heap.size+1,o,none⟩ (.int .i64 (x:Nat))).cell? ⟨1,k,none⟩=some (.int .i64 (o:Nat)):=by
     rw[World.cell?_setCell_other _ _ _ _ (by simp only[ne_eq,a0w];have:=(ae HN).2.2.1;omega)];exact hS2
    refine a0f hK _ _ hS3 (fun _=>?_);clear hK K;refine a0F (by kernel_rfl) ?_ _;clear hS hS2 hS3 k1 k1' r1 o1 th1 HSW HM HX c1 f1;generalize x1.setCell ⟨w.heap.size+1,o,none⟩ (.int .i64 (x:Nat))=x2 at *
    go_wp2_with fail;go_roundw
    case rel=>exact ae HI
    case measure=>simp[intOf];omega
  ·
   have hkI:¬ (k:Int)<(many:Int):=by omega
   have e0:(bv.take many).drop k=[]:=a2U (by rw[a0t];omega);rw[e0]at hd;simp only[lbG]at hd;have HE:=af hd;have hlt:=(ae HN).2.2.2;have HJ:=af (cn hl (ho.own hl));have HFB:=af (Dn _ 19 19 (w.heap.size+1) l wr hl (ae HJ) (by omega) (by omega));have HX:=af (a0b hkp (a0b hr (a0b hth hsz)));clear hkp hr hq ho hl hth hO hsz hk e0;cases hok:ap l
   · rw[hok]at HFB;simp only[a1w,a1x]at HFB;have HOk:=af hok;clear hok hd;go_wp2_with fail;refine(ae HFB).mono ?_;rintro e x1 ⟨b1,rfl⟩;refine⟨rfl,?_⟩;unfold LbP;rw[←ae HE];simp only[a0g];rw[ae HOk];exact⟨(ae HX).1.later b1 (ae HX).2.1.lt,rfl⟩
   ·
    rw[hok]at HFB;simp only[a0Z]at HFB;have HOk:=af hok;clear hok hd;go_wp2_with fail;refine(ae HFB).mono ?_;rintro e x1 ⟨b1,C,rfl,hB⟩;have HTh:Hid (x1.there w.heap.size 0 19):=fun j hj=>by
     obtain⟨t1,t2⟩:=(ae HX).2.2.1 j hj;have hlt:=(ae HX).2.2.2;exact⟨by rw[b1.cell (p:=⟨w.heap.size,0+j,none⟩) hlt];exact t1,by rw[b1.frozen (p:=⟨w.heap.size,0+j,none⟩) hlt];exact t2⟩
    have HSz:=af hB.size;have HOne:=af hB.one;have HY:=af (a0b ((ae HX).1.later b1 (ae HX).2.1.lt) (a0b ((ae HX).2.1.kept (b1.mono (ae HX).2.1.lt)) hB));clear b1 hB HFB HJ HX;go_wp2_with (refine a2J rfl 259 (.tmp 4) (.tmp 21) rfl w.heap.size 0 C rfl rfl (by rw[ae HSz];exact ae HTh) (by rw[ae HSz];exact Tryz.infoLenB) (ae HOne) ?_);obtain⟨k1,r1,hB⟩:=ae HY;have hr:=a2K x1 w.heap.size 0 C.toList (by rw[a1G,ae HSz];exact ae HTh);have hk:∀j,j≠w.heap.size->(x1.setCells w.heap.size 0 C.toList).heap[j]?=x1.heap[j]?:=fun j hj=>cW _ _ _ _ j hj;have hz:(x1.setCells w.heap.size 0 C.toList).heap.size=x1.heap.size:=size_setCells _ _ _ _;refine a0K (dQ rfl _ _ w.heap.size _ _ rfl hr a3l rfl (by rw[a1G,ae HSz];exact Tryz.infoLenB)) rfl ?_;unfold LbP;rw[←ae HE];simp only[a0g];rw[ae HOk];refine⟨k1.setCells (a0a _) hlt _ _,⟨C,by simp,(hB.touch hz hk (a0m _)).mono (a1a _)⟩,?_⟩;obtain⟨c0,c1,c2,g0,g1,g2,hb⟩:=r1;have hkb:=hk b (by omega);have hc:∀j,(x1.setCells w.heap.size 0 C.toList).cell? ⟨b,j,none⟩=x1.cell? ⟨b,j,none⟩:=fun j=>World.cell?_of_block (w:=x1) hkb (a:=⟨b,j,none⟩);have hf:∀j,(x1.setCells w.heap.size 0 C.toList).frozen? ⟨b,j,none⟩=x1.frozen? ⟨b,j,none⟩:=fun j=>World.frozen?_of_block (w:=x1) hkb (a:=⟨b,j,none⟩);exact⟨(hc 0).trans c0,(hc 1).trans c1,(hc 2).trans c2,(hf 0).trans g0,(hf 1).trans g1,(hf 2).trans g2,by rw[hz];exact hb⟩
theorem Rdr.place{w:World}{b p:Nat}{s:ByteArray}(h:Rdr w b s p)(hp:p<=8*s.size):mh b w=p:=by
 have h1:=(h.at hp).2.1;unfold mh;rw[h1];simp[intOf]
theorem ax.book{w w':World}{b g:Nat}{C:Array Value}{t:TypeId}(h:ax b w w')(hg:w.heap[g]?=some (Obj.cells C t))(hne:g≠b):w'.heap[g]?=some (Obj.cells C t):=by
 have hlt:g<w.heap.size:=by
  rcases a1q g w.heap.size with h1|h1
  · exact h1
  · rw[Array.getElem?_eq_none h1]at hg;cases hg
 rw[h.2 g hlt hne];exact hg
theorem qG{x:World}{base n k:Nat}{v:Value}{l:List Int}{y:Int}(hn:l.length=n)(h:x.ownsRow base 3 1 v (n+k) (l.map (Value.int .i64)++List.replicate k (.int .i64 y))):ar x base v (l++List.replicate k y):=by
 show World.ownsRow _ _ _ _ _ (l++List.replicate k y).length _;rw[a0l,a0E,hn,a0N,List.map_replicate];exact h
theorem Rdr.block{x x':World}{b p:Nat}{s:ByteArray}(h:Rdr x b s p)(hk:x'.heap[b]?=x.heap[b]?)(hs:x.heap.size<=x'.heap.size):Rdr x' b s p:=by
 obtain⟨c0,c1,c2,g0,g1,g2,hb⟩:=h;have hc:∀j,x'.cell? ⟨b,j,none⟩=x.cell? ⟨b,j,none⟩:=fun j=>World.cell?_of_block (w:=x) hk (a:=⟨b,j,none⟩);have hf:∀j,x'.frozen? ⟨b,j,none⟩=x.frozen? ⟨b,j,none⟩:=fun j=>World.frozen?_of_block (w:=x) hk (a:=⟨b,j,none⟩);exact⟨(hc 0).trans c0,(hc 1).trans c1,(hc 2).trans c2,(hf 0).trans g0,(hf 1).trans g1,(hf 2).trans g2,by omega⟩
theorem wo{b:Nat}{w x x':World}{v:Value}{n:Nat}{xs:List Value}{t:TypeId}(hk:ax b w x)(ho:x.ownsRow (w.heap.size+1) t 1 v n xs)(hg:x.grownBy x' v.ownBlock)(hb:b<w.heap.size) :
  ax b w x'/\∀j,j<=w.heap.size->j<x.heap.size->x'.heap[j]?=x.heap[j]?:=by
 have hne:∀j,j<=w.heap.size->some j≠v.ownBlock:=fun j hj e=>by
  have:=(a0y ho j e.symm).1;omega
 have hs:=hk.1.size;have hbk:=hg.block b (by omega) (hne b (by omega));refine⟨⟨hk.1.grown hg (by omega) (fun k h=>by have:=(a0y ho k h).1;omega),fun j hj h=>(hg.block j (by omega) (hne j (by omega))).trans (hk.2 j hj h),fun j hj=>⟨(World.cell?_of_block (w:=x) hbk (a:=⟨b,j,none⟩)).trans (hk.3 j hj).1,(World.frozen?_of_block (w:=x) hbk (a:=⟨b,j,none⟩)).trans (hk.3 j hj).2⟩⟩,fun j hj h=>hg.block j h (hne j hj)⟩
def LnP(w:World)(b:Nat)(s:ByteArray)(d:Option (List Int×Nat))(e:Ending)(w':World):Prop:=
 ax b w w'/\match d with
  | none=>e=iC
  | some (l,q)=>(∃v,e = .returned v/\ar w' w.heap.size v l)/\Rdr w' b s q
def LnI(b many:Nat)(s:ByteArray)(B:List Int)(C:Array Value)(d:Option (List Int×Nat))(w:World)(v:Value)(wr:World):Prop:=
 ∃(q:Nat) (A:List Int),ar wr (w.heap.size+1) v A/\A.length<=600/\ax b w wr/\Rdr wr b s q/\q<=8*s.size/\wr.heap[w.heap.size]?=some (Obj.cells C 259)/\w.heap.size<wr.heap.size/\lnG (au s) (8*s.size) B many q A=d
def LnS(b:Nat)(s:ByteArray)(C:Array Value)(w x:World)(v:Value)(A:List Int)(q:Nat):Prop:=
 ar x (w.heap.size+1) v A/\ax b w x/\Rdr x b s q/\q<=8*s.size/\x.heap[w.heap.size]?=some (Obj.cells C 259)/\w.heap.size<x.heap.size
theorem LnS.keep{b q q':Nat}{s:ByteArray}{C:Array Value}{w x x':World}{v:Value}{A:List Int}(h:LnS b s C w x v A q)(hb:b<w.heap.size)(hk:ax b x x')(hr:Rdr x' b s q')(hq:q'<=8*s.size):LnS b s C w x' v A q':=by
 obtain⟨h1,h2,h3,h4,h5,h6⟩:=h;exact⟨h1.keep1' hk (by omega),h2.trans hk,hr,hq,hk.book h5 (by omega),a0k h6 hk.1.size⟩
theorem LnS.below{b q:Nat}{s:ByteArray}{C:Array Value}{w x x':World}{v:Value}{A:List Int}(h:LnS b s C w x v A q)(hb:b<w.heap.size)(hk:Below x.heap.size x x'):LnS b s C w x' v A q:=by
 have h2:=h.2.2.1.lt;exact h.keep hb ((ax.refl b x).later hk h2) (h.2.2.1.kept (hk.mono h2)) h.2.2.2.1
theorem LnS.grown{b q:Nat}{s:ByteArray}{C:Array Value}{w x x':World}{v v':Value}{A A':List Int}(h:LnS b s C w x v A q)(hb:b<w.heap.size)(hg:x.grownBy x' v.ownBlock)(ho:ar x' (w.heap.size+1) v' A'):LnS b s C w x' v' A' q:=by
 obtain⟨h1,h2,h3,h4,h5,h6⟩:=h;obtain⟨g1,g2⟩:=wo h2 h1 hg hb;exact⟨ho,g1,h3.block (g2 b (by omega) h3.lt) hg.size,h4,(g2 _ (a0a _) h6).trans h5,a0k h6 hg.size⟩
theorem LnS.done{b many q:Nat}{s:ByteArray}{B:List Int}{C:Array Value}{d:Option (List Int×Nat)}{w x:World}{v:Value}{A:List Int}(h:LnS b s C w x v A q)(hA:A.length<=600)(hd:lnG (au s) (8*s.size) B many q A=d):LnI b many s B C d w v x:=
 ⟨q,A,h.1,hA,h.2.1,h.2.2.1,h.2.2.2.1,h.2.2.2.2.1,h.2.2.2.2.2,hd⟩
set_option maxRecDepth 100000 in
theorem uY(b p many base:Nat)(s:ByteArray)(B:List Int)(C:Array Value)(w:World)(h:Rdr w b s p)(hp:p<=8*s.size)(hs:s.size<=2000000)(hm:many<=400)(hB:bm w base B C)(hbb:b<base)(hok:ap B=true) :
  Calls Tryz.prog 270 #[.pointer (some ⟨b,0,none⟩),.int .i64 (many:Nat),.agg C] w (LnP w b s (lnG (au s) (8*s.size) B many p [])):=by
 have hmix:Tryz.prog.follows .mixedOrders=true:=by kernel_rfl
 obtain⟨i0,hi,hz0,hz1,hz2⟩:=a0z Tryz.infoInt;obtain⟨d,hd⟩:∃d,lnG (au s) (8*s.size) B many p []=d:=⟨_,rfl⟩;rw[hd];have hlt:=h.lt;have hmI:(many:Int)<=400:=by omega
 have HI:Hid (LnI b many s B C d w (.slice none 0 0) (w.alloc (.cells C 259))):=
  ⟨p,[],ar.nil _ _,by simp,(ax.refl b w).alloc hlt _,h.alloc _,hp,alloc_at _ _,by simp,hd⟩
 have HN:=af (a0b hs (a0b hbb (a0b hok hlt)));have HZ:=af hB.size;have HBK:Hid (∀W,ax b w W->bm W base B C):=fun W hW=>hB.keep1 hW hbb;clear h hp hs hm hB hbb hok hd hlt;go_enter Tryz.func270,Tryz.ntmps270;go_wp2_with fail
 go_loopw [7,8] (fun v _ wr=>LnI b many s B C d w v wr) (fun _ _ wr=>8*s.size-mh b wr)
 case atStart=>exact ae HI
 case round=>
  obtain⟨q,A,ho,hA,hkp,hr,hq,hat,hsz,hd⟩:=hrel;clear HI;obtain⟨n,hn⟩:∃n,A.length=n:=⟨_,rfl⟩;obtain⟨a,cap,rfl⟩:=ho.formN hn;have hlt:=(ae HN).2.2.2;have hne:w.heap.size≠b:=by omega
  have HPl:=af (hr.place hq);have HX:=af (a0b ho (a0b hkp (a0b hr (a0b hq (a0b hat hsz)))));have hnI:(n:Int)<=600:=by omega
  have HA:=af hn;by_cases hnm:n<many
  ·
   have hnmI:(n:Int)<(many:Int):=by omega
   rw[wT hq (by omega)]at hd;have HSy:=af (zF b q base C B s wr (ae HBK _ hkp) (ae HN).2.1 (ae HN).2.2.1 (ae HN).1 hr hq);have HRW:=af (pn hat);clear ho hkp hr hq hat hsz hn hA;unfold SyP at HSy;rcases h1:dec B (au s) (8*s.size) q with _|⟨k,q1⟩
   ·
    rw[h1]at HSy hd;have Hn:Hid (d=none):=by show d=none;rw[←hd];rfl
    clear h1 hd;go_wp2_with (refine aO rfl 259 (.tmp 5) rfl w.heap.size 0 rfl C _ (ae HRW) a3l rfl (by rw[ae HZ];exact Tryz.infoLenB) ?_);refine(ae HSy).mono ?_;rintro e x1 ⟨k1,rfl⟩;refine⟨rfl,?_⟩;unfold LnP;rw[ae Hn];exact⟨(ae HX).2.1.trans k1,rfl⟩
   rw[h1]at HSy hd;have hb1:=fw h1;simp only[a0g]at hd;clear h1;have HD:=af hd;clear hd;go_wp2_with (refine aO rfl 259 (.tmp 5) rfl w.heap.size 0 rfl C _ (ae HRW) a3l rfl (by rw[ae HZ];exact Tryz.infoLenB) ?_);refine(ae HSy).mono ?_;rintro e x1 ⟨k1,rfl,r1⟩;have o1:=(ae HX).1.keep1' k1 (by omega);have HY:=af (a0b o1 (a0b ((ae HX).2.1.trans k1) (a0b r1 (a0b hb1.1 (a0b (k1.book (ae HX).2.2.2.2.1 hne) (a0k (ae HX).2.2.2.2.2 k1.1.size))))));have Hq:=af hb1.2.1;have HS:Hid (LnS b s C w x1 (.slice a n cap) A q1):=ae HY;clear k1 r1 o1 HX HRW HSy hb1 HY;have hqo:=af ((ae HS).1.own (ae HA));have hbs:w.heap.size+1<=x1.heap.size:=(ae HS).2.2.2.2.2;have hn6:n<400:=by omega
   by_cases h16:k=16
   ·
    have b16:(k == 16)=true:=by rw[h16];rfl
    by_cases hn0:n=0
    ·
     have hg0:decide (0<n)=false:=a0p (by omega);have Hn:Hid (d=none):=by show d=none;rw[←ae HD,h16];unfold fR;rw[a0d rfl,a0d (by rw[ae HA];exact hn0)];rfl
     clear hn0 h16;go_wp2_with fail;refine(dP _).mono ?_;rintro e x2 ⟨rfl,hx2⟩;rw[hx2];clear hx2 x2;refine⟨rfl,?_⟩;unfold LnP;rw[ae Hn];exact⟨(ae HS).2.1,rfl⟩
    ·
     have hg0:decide (0<n)=true:=a0G (by omega);obtain⟨g,rfl⟩:=(ae HS).1.somes (by rw[ae HA];omega);have HAd:Hid (fR (au s) (8*s.size) A k q1=(rdN (au s) (8*s.size) q1 2).bind fun x=>some (A++List.replicate (3+x.1) (A.getD (n-1) 0),x.2)):=by
      show _=_;rw[h16];unfold fR;rw[a0d rfl,a0e (by rw[ae HA];exact hn0),ae HA]
     rw[ae HAd]at HD;obtain⟨m,hm⟩:∃m,n-1=m:=⟨_,rfl⟩;have hn1:(n:Int)-1=(m:Int):=by omega
     have hmn:m+1=n:=by omega
     rw[hm]at HD;have Hmn:=af hmn;have Hwr:Hid (IntKind.i64.wrap (m:Int)=(m:Int)):=by show _=_;rw[a2D];omega
     clear HAd h16 hm hmn;go_wp2_with fail;refine(ci _).mono ?_;rintro e x2 ⟨rfl,hx2⟩;rw[hx2];clear hx2 x2;go_wp2_with fail;have HM:=af (bu b q1 2 s x1.drew (show Rdr x1.drew b s q1 from(ae HS).2.2.1) (ae HN).1 (by omega));have hcap:n<=cap:=by
      have:=(ae hqo);rcases this.2 with⟨e,_⟩|⟨g',cap',cur,e,_,_,h1,_⟩
      · cases e
      · simp only[a0L]at e;omega
     refine a0Q (S:=fun _=>True) hmix trivial (fun hS=>?_);refine ag 0 (.slice (some ⟨g,0,none⟩) n cap) rfl (by kernel_rfl) (fun _ _ _ h=>h) rfl (fun W hSw=>by go_simp) hS ?_;refine ag 1 (.slice (some ⟨g,0,none⟩) n cap) rfl (by kernel_rfl) (fun _ _ _ h=>h) rfl (fun W hSw=>by go_simp) hS ?_;refine ag 2 (.slice (some ⟨g,0,none⟩) n cap) rfl (by kernel_rfl) (fun _ _ _ h=>h) rfl (fun W hSw=>by go_simp) hS ?_;refine ag 3 (.int .i64 (n:Nat)) rfl (by kernel_rfl) (fun _ _ _ h=>h) rfl (fun W hSw=>by go_simp) hS ?_;refine ag 4 (.int .i64 (m:Nat)) rfl (by kernel_rfl) (fun _ _ _ h=>h) rfl (fun W hSw=>by go_simp;exact ae Hwr) hS ?_;refine ag 6 (.pointer (some ⟨b,0,none⟩)) rfl (by kernel_rfl) (fun _ _ _ h=>h) rfl (fun W hSw=>by go_simp) hS ?_;refine ag 5 (.slice (some ⟨g,m,none⟩) 1 (cap-m)) rfl (by kernel_rfl) (fun _ _ _ h=>h) rfl (fun W hSw=>by go_simp;rw[a0d (by have:=ae Hmn;omega),a0e (by have:=ae Hmn;omega),show n-m=1 by have:=ae Hmn;omega]) hS ?_;refine ah 7 (by kernel_rfl) rfl fun K hK=>?_;go_simp;go_at_call 249;unfold gK at HM;rcases h2:rdN (au s) (8*s.size) q1 2 with _|⟨y,q2⟩
     ·
      rw[h2]at HM HD;have Hn:Hid (d=none):=by show d=none;rw[←ae HD];rfl
      refine(ae HM).mono ?_;rintro e x2 ⟨k2,rfl⟩;refine⟨rfl,?_⟩;unfold LnP;rw[ae Hn];exact⟨(ae HS).2.1.trans ((ax.refl b x1).drew.trans k2),rfl⟩
     rw[h2]at HM HD;simp only[a0g]at HD;have Hb2:=af (bq h2);have hy:y<4:=by have:=(bq h2).2.2.2;omega
     clear h2;refine(ae HM).mono ?_;rintro e x2 ⟨k2,rfl,r2⟩;refine a0f hK _ _ trivial (fun hS2=>?_);clear hK K;have HS2:=af ((ae HS).keep (ae HN).2.2.2 ((ax.refl b x1).drew.trans k2) r2 (ae Hb2).1);clear k2 r2 HM;obtain⟨c,hc⟩:∃c,3+y=c:=⟨_,rfl⟩;have Hwy:Hid (IntKind.i64.wrap (3+(y:Int))=(c:Int)):=by show _=_;rw[a2D];omega
     have hcI:(c:Int)<=7:=by omega
     have hc1:1<=c:=by omega
     rw[hc]at HD;clear hc;refine a0X (i:=8) (v:=.int .i64 (c:Nat)) rfl (by kernel_rfl) (by kernel_rfl) (by kernel_rfl) (fun _ _ _ h=>h) (a02 ⟨by rfl,fun W hSw=>by go_simp;exact ae Hwy⟩) hS2 ?_;refine ah 9 (by kernel_rfl) rfl fun K hK=>?_;go_simp;go_at_call 115;have hcell:x2.cell? ⟨g,m,none⟩=some (.int .i64 (A.getD m 0)):=((ae HS2).1.at (ae HA) (by have:=ae Hmn;omega)).1;refine(mj (A.getD m 0) c (cap-m) g m x2 hcell hc1 (by omega)).mono ?_;rintro e x3 ⟨rfl,o3,b3⟩;have HS3:=af ((ae HS2).below (ae HN).2.2.2 b3);have HO3:=af o3;generalize A.getD m 0=z at *
     refine a0f hK _ _ trivial (fun hS3=>?_);clear hK K o3 b3 hcell;refine ah 10 (by kernel_rfl) rfl fun K hK=>?_;refine am rfl _ _ 146 rfl (w.heap.size+1) 3 i0 (.int .i64 0) 1 8 a05 hi hz0 hz1 hz2 rfl (by decide) (.slice (some ⟨g,0,none⟩) n cap) n _ rfl ((ae HS3).1.own (ae HA)) ⟨x2.heap.size,0,none⟩ c c ((List.replicate c z).map (Value.int .i64)) rfl (by simp) (a2i ((ae HO3).own (n:=c) (by simp)) rfl) (by intro u hu;simp only[a2I]at hu;obtain⟨_,_,rfl⟩:=hu;rfl) (by unfold maxLen;omega) (by omega) (by have:=(ae HS3).2.2.2.2.2;omega) (fun v' x4 hown hgrow hnil=>?_);clear hnil;rw[List.map_replicate]at hown;have hS4:=(ae HS3).grown (ae HN).2.2.2 hgrow (qG (ae HA) hown);have HI:=af (hS4.done (B:=B) (many:=many) (d:=d) (by rw[a0l,ae HA,a0E];omega) (ae HD));have HPx:=af (hS4.2.2.1.place hS4.2.2.2.1);clear hown hgrow hS4;refine a0f hK _ _ trivial (fun hS5=>?_);clear hK K;refine ah 11 (by kernel_rfl) rfl fun K hK=>?_;go_simp;refine a0f hK _ _ trivial (fun hS6=>?_);clear hK K;refine a0F (by kernel_rfl) ?_ _;clear HS HS2 HS3 HO3 hqo hS hS2 hS3 hS5 hS6;go_wp2_with fail;go_roundw
     case rel=>exact ae HI
     case measure=>rw[ae HPx,ae HPl];have:=ae Hq;have:=ae Hb2;omega
   ·
    by_cases h17:k=17
    ·
     have bk:(k == 17)=true:=by rw[h17];rfl
     have b16:(k == 16)=false:=by rw[a1b];exact h16
     have HM:=af (bu b q1 3 s x1 (ae HS).2.2.1 (ae HN).1 (by omega));have HAd:Hid (fR (au s) (8*s.size) A k q1=(rdN (au s) (8*s.size) q1 3).bind fun x=>some (A++List.replicate (3+x.1) 0,x.2)):=by
      show _=_;rw[h17];unfold fR;rw[a0e (by decide),a0d rfl]
     rw[ae HAd]at HD;clear h16 h17 HAd;unfold gK at HM;rcases h2:rdN (au s) (8*s.size) q1 3 with _|⟨y,q2⟩
     ·
      rw[h2]at HM HD;have Hn:Hid (d=none):=by show d=none;rw[←ae HD];rfl
      clear h2 HD;go_wp2_with fail;refine(ae HM).mono ?_;rintro e x2 ⟨k2,rfl⟩;refine⟨rfl,?_⟩;unfold LnP;rw[ae Hn];exact⟨(ae HS).2.1.trans k2,rfl⟩
     ·
      rw[h2]at HM HD;simp only[a0g]at HD;have hb2:=bq h2;have hy:y<8:=by have:=hb2.2.2.2;omega
      have Hb2:=af (a0b hb2.1 hb2.2.1);clear h2 hb2;go_wp2_with fail;refine(ae HM).mono ?_;rintro e x2 ⟨k2,rfl,r2⟩;have HS2:=af ((ae HS).keep (ae HN).2.2.2 k2 r2 (ae Hb2).1);have hqo2:=af ((ae HS2).1.own (ae HA));have hbs2:w.heap.size+1<=x2.heap.size:=(ae HS2).2.2.2.2.2;have bd:Hid (n+(3+y)<=maxLen/\(n+(3+y))*8<=140737488355328):=by show _/\_;unfold maxLen;omega
      clear k2 r2 HM HS hqo hbs;go_wp2_with (at_builtin;refine gr _ rfl _ _ 146 3 rfl (w.heap.size+1) 3 i0 (.int .i64 0) 8 .i64 .i64 a05 a14 hi hz0 hz1 hz2 rfl rfl (.slice a n cap) n _ rfl (ae hqo2) (3+y) (by simp[Act.eval]) (by omega) (ae bd).1 (ae bd).2 hbs2 ?_;intro v' x3 hown hgrow);have hS3:=(ae HS2).grown (ae HN).2.2.2 hgrow (qG (ae HA) hown);have HI:=af (hS3.done (B:=B) (many:=many) (d:=d) (by rw[a0l,ae HA,a0E];omega) (ae HD));have HPx:=af (hS3.2.2.1.place hS3.2.2.2.1);clear hown hgrow hS3;go_wp2_with fail;go_roundw
      case rel=>exact ae HI
      case measure=>rw[ae HPx,ae HPl];have:=ae Hq;have:=ae Hb2;omega
    ·
     by_cases h18:k=18
     ·
      have bk:(k == 18)=true:=by rw[h18];rfl
      have b16:(k == 16)=false:=by rw[a1b];exact h16
      have b17:(k == 17)=false:=by rw[a1b];exact h17
      have HM:=af (bu b q1 7 s x1 (ae HS).2.2.1 (ae HN).1 (by omega));have HAd:Hid (fR (au s) (8*s.size) A k q1=(rdN (au s) (8*s.size) q1 7).bind fun x=>some (A++List.replicate (11+x.1) 0,x.2)):=by
       show _=_;rw[h18];unfold fR;rw[a0e (by decide),a0e (by decide),a0d rfl]
      rw[ae HAd]at HD;clear h16 h17 h18 HAd;unfold gK at HM;rcases h2:rdN (au s) (8*s.size) q1 7 with _|⟨y,q2⟩
      ·
       rw[h2]at HM HD;have Hn:Hid (d=none):=by show d=none;rw[←ae HD];rfl
       clear h2 HD;go_wp2_with fail;refine(ae HM).mono ?_;rintro e x2 ⟨k2,rfl⟩;refine⟨rfl,?_⟩;unfold LnP;rw[ae Hn];exact⟨(ae HS).2.1.trans k2,rfl⟩
      ·
       rw[h2]at HM HD;simp only[a0g]at HD;have hb2:=bq h2;have hy:y<128:=by have:=hb2.2.2.2;omega
       have Hb2:=af (a0b hb2.1 hb2.2.1);clear h2 hb2;go_wp2_with fail;refine(ae HM).mono ?_;rintro e x2 ⟨k2,rfl,r2⟩;have HS2:=af ((ae HS).keep (ae HN).2.2.2 k2 r2 (ae Hb2).1);have hqo2:=af ((ae HS2).1.own (ae HA));have hbs2:w.heap.size+1<=x2.heap.size:=(ae HS2).2.2.2.2.2;have bd:Hid (n+(11+y)<=maxLen/\(n+(11+y))*8<=140737488355328):=by show _/\_;unfold maxLen;omega
       clear k2 r2 HM HS hqo hbs;go_wp2_with (at_builtin;refine gr _ rfl _ _ 146 3 rfl (w.heap.size+1) 3 i0 (.int .i64 0) 8 .i64 .i64 a05 a14 hi hz0 hz1 hz2 rfl rfl (.slice a n cap) n _ rfl (ae hqo2) (11+y) (by simp[Act.eval]) (by omega) (ae bd).1 (ae bd).2 hbs2 ?_;intro v' x3 hown hgrow);have hS3:=(ae HS2).grown (ae HN).2.2.2 hgrow (qG (ae HA) hown);have HI:=af (hS3.done (B:=B) (many:=many) (d:=d) (by rw[a0l,ae HA,a0E];omega) (ae HD));have HPx:=af (hS3.2.2.1.place hS3.2.2.2.1);clear hown hgrow hS3;go_wp2_with fail;go_roundw
       case rel=>exact ae HI
       case measure=>rw[ae HPx,ae HPl];have:=ae Hq;have:=ae Hb2;omega
     ·
      have b16:(k == 16)=false:=by rw[a1b];exact h16
      have b17:(k == 17)=false:=by rw[a1b];exact h17
      have b18:(k == 18)=false:=by rw[a1b];exact h18
      have bd:Hid (n+1<=maxLen/\(n+1)*8<=140737488355328):=by show _/\_;unfold maxLen;omega
      have HE:Hid (lnG (au s) (8*s.size) B many q1 (A++[k])=d):=by
       show _=d;rw[←ae HD];unfold fR;rw[a0e h16,a0e h17,a0e h18];rfl
      clear h16 h17 h18 HD;go_wp2_with (at_builtin;refine a0H _ rfl _ _ 146 rfl (w.heap.size+1) 3 i0 (.int .i64 0) 1 8 a05 hi hz0 hz1 hz2 rfl (by decide) (.slice a n cap) _ _ rfl (a0n (ae hqo) _) ⟨x1.heap.size,0,none⟩ 1 1 [.int .i64 k] rfl rfl (fO _ _ rfl _ _) (pM _) (ae bd).1 (ae bd).2 (aB hbs _) ?_;intro v' x2 hown hgrow hnil;clear hnil);have hS2:=((ae HS).below (ae HN).2.2.2 ((a0c _ _).alloc (a0a _) (.cells #[.int .i64 k] 3))).grown (ae HN).2.2.2 hgrow (zv (ae HA) hown);have HI:=af (hS2.done (B:=B) (many:=many) (d:=d) (by rw[a0l,ae HA,a1E];omega) (ae HE));have HPx:=af (hS2.2.2.1.place hS2.2.2.2.1);have HQ:=af hS2.2.2.2.1;clear hown hgrow hS2;go_wp2_with fail;go_roundw
      case rel=>exact ae HI
      case measure=>rw[ae HPx,ae HPl];have:=ae Hq;have:=ae HQ;omega
  ·
   have hnmI:¬ (n:Int)<(many:Int):=by omega
   rw[wU hq (by omega)]at hd;have HD:=af hd;clear ho hkp hr hq hat hsz hn hA hd;by_cases hE:n=many
   ·
    have hEb:((n:Int) == (many:Int))=true:=by rw[hE];exact beq_self_eq_true _
    rw[a0d (by rw[ae HA];exact hE)]at HD;clear hE;go_wp2_with fail;refine(ci _).mono ?_;rintro e x2 ⟨rfl,hx2⟩;rw[hx2];clear hx2 x2;go_wp2;go_ret;unfold LnP;rw[←ae HD];exact⟨(ae HX).2.1,⟨_,rfl,(ae HX).1.mono (a1a _)⟩,(ae HX).2.2.1⟩
   ·
    have hEb:((n:Int) == (many:Int))=false:=by rw[a1b];omega
    rw[a0e (by rw[ae HA];exact hE)]at HD;clear hE;go_wp2_with fail;refine(dP _).mono ?_;rintro e x2 ⟨rfl,hx2⟩;rw[hx2];clear hx2 x2;refine⟨rfl,?_⟩;unfold LnP;rw[←ae HD];exact⟨(ae HX).2.1,rfl⟩
theorem JL:ap (dj 288)=true:=by kernel_rfl
theorem FP:ap (List.replicate 32 (5:Int))=true:=by kernel_rfl
theorem dN.take{w:World}{base:Nat}{a:Option Addr}{l:List Int}(h:dN w base a l)(n:Nat):dN w base a (l.take n):=by
 have hl:(l.take n).length<=l.length:=by rw[a0t];omega
 refine⟨fun h0=>?_,fun h0=>h.2 (by omega)⟩;obtain⟨g,o,e,hg,hc⟩:=h.1 (by omega);refine⟨g,o,e,hg,fun i hi=>?_⟩;rw[hc i (by omega)];rw[a0t]at hi;simp[List.getD,show i<n by omega]
theorem dN.drop{w:World}{base g o:Nat}{l:List Int}(h:dN w base (some ⟨g,o,none⟩) l)(n:Nat):dN w base (some ⟨g,o+n,none⟩) (l.drop n):=by
 have hl:(l.drop n).length=l.length-n:=a1F ..;refine⟨fun h0=>?_,fun h0 x e=>?_⟩
 · obtain⟨g',o',e,hg,hc⟩:=h.1 (by omega);simp only[a0j,a0w,a0V]at e;obtain⟨rfl,rfl⟩:=e;refine⟨g,o+n,rfl,hg,fun i hi=>?_⟩;have:=hc (n+i) (by omega);rw[←a1W]at this;rw[this];simp[List.getD,List.getElem?_drop]
 · have:=h.2 (by omega) _ rfl;simp only[a0j]at e;subst e;exact this
set_option maxRecDepth 100000 in
theorem sf(b p:Nat)(s:ByteArray)(T:List UInt8)(w:World)(h:Sou w b s p T)(hT:T.length<=300)(hp:p<=8*s.size)(hs:s.size<=2000000) :
  Calls Tryz.prog 247 #[.pointer (some ⟨b,0,none⟩)] w (bY w b s (zg (au s) (8*s.size) p T)):=by
 obtain⟨d,hd⟩:∃d,zg (au s) (8*s.size) p T=d:=⟨_,rfl⟩;rw[hd];have HX:=af (a0b h (a0b hT (a0b hp hs)));have HD:=af hd;have hlt:=h.lt;clear h hT hp hs hd;go_enter Tryz.func247,Tryz.ntmps247;go_wp2_with fail;refine(jX w).mono ?_;rintro e x1 ⟨⟨C,rfl,hB⟩,b1⟩;have HT:=af (rP b p (w.heap.size+1) s (dj 288) (List.replicate 32 5) C T x1 ((ae HX).1.later b1) (ae HX).2.1 (ae HX).2.2.1 (ae HX).2.2.2 hB (by omega) JL FP);have HE:=af (show ju (au s) (8*s.size) (dj 288) (List.replicate 32 5) p T=d from ae HD);rw[ae HE]at HT;have HK:=af ((KU.refl b w).later b1 hlt);clear hB b1 HX HD HE;go_wp2_with fail;refine(ae HT).mono ?_;intro e x2 h2;unfold bY at h2;rcases d with _|⟨T',q⟩
 · obtain⟨k2,rfl⟩:=h2;refine⟨rfl,?_⟩;unfold bY;exact⟨(ae HK).trans k2,rfl⟩
 ·
  obtain⟨k2,rfl,s2⟩:=h2;have HY:=af (a0b ((ae HK).trans k2) s2);clear k2 s2 HT HK;go_wp2
  go_end0
  unfold bY;exact⟨(ae HY).1,rfl,(ae HY).2⟩
theorem bm.second{w:World}{base:Nat}{L D:List Int}{C1 C2:Array Value}(h:cY w base L D (C1++C2))(hz:C1.size=19):bm w base D C2:=by
 obtain⟨E1,E2,e,f1,f2⟩:=h;have h1:=congrArg Array.toList e;simp only[a1R]at h1;have h2:=a2S h1 (by simp[hz,f1.size]);rw[Array.ext' h2.2];exact f2
theorem rV{P:Program}{ops:Array Oper}{S:World->Prop}{op:Oper}{a:Act}(hw:Region.wanted op (yielded ops a.tmps)=true)(t:TypeId)(parts:Array (Nat×Operand))(ho:op.op = .build t parts)(cells:Array Value)
  (hc:P.built t (parts.map fun(i,x)=>(i,a.eval x)).toList=some cells):YieldsIf P ops S op (.agg cells) a:=
 a02 ⟨hw,fun w _=>by unfold execOp;simp only[ho,a2f,run_build w t _ cells hc,Result.andThen_ok,a29]⟩
theorem pH{P:Program}{ops:Array Oper}{S:World->Prop}{op:Oper}{a:Act}(hw:Region.wanted op (yielded ops a.tmps)=true)(t:TypeId)(x y:Operand)(ho:op.op = .build t #[(0,x),(1,y)])(cells:Array Value)(u v:Value)(hx:a.eval x=u)(hy:a.eval y=v)
  (hc:P.built t [(0,u),(1,v)]=some cells):YieldsIf P ops S op (.agg cells) a:=by
 have e:((#[(0,x),(1,y)]:Array (Nat×Operand)).map fun(i,x)=>(i,a.eval x)).toList=[(0,u),(1,v)]:=by simp[hx,hy]
 exact rV hw t _ ho cells (by rw[e];exact hc)
set_option maxRecDepth 100000 in
theorem xy(b p:Nat)(s:ByteArray)(T:List UInt8)(w:World)(h:Sou w b s p T)(hT:T.length<=300)(hs:s.size<=2000000)(hO:dk w)(hb:1<b) :
  Calls Tryz.prog 248 #[.pointer (some ⟨b,0,none⟩)] w (bY w b s (rm (au s) (8*s.size) p T)):=by
 have hmix:Tryz.prog.follows .mixedOrders=true:=by kernel_rfl
 obtain⟨d,hd⟩:∃d,rm (au s) (8*s.size) p T=d:=⟨_,rfl⟩;rw[hd];have Hd:=af hd;unfold rm at Hd;have HN:=af (a0b hs (a0b hT (a0b hO hb)));have HM:=af (bu b p 5 s w h.1 hs (by omega));have HS:=af h;clear h hT hs hO hb hd;go_enter Tryz.func248,Tryz.ntmps248;unfold gK at HM;rcases h1:rdN (au s) (8*s.size) p 5 with _|⟨a,q1⟩
 ·
  rw[h1]at HM Hd;have Hn:Hid (d=none):=by show d=none;rw[←ae Hd];rfl
  clear h1 Hd;go_wp2_with fail;refine(ae HM).mono ?_;rintro e x1 ⟨k1,rfl⟩;refine⟨rfl,?_⟩;unfold bY;rw[ae Hn];exact⟨k1.ku,rfl⟩
 rw[h1]at HM Hd;simp only[a0g]at Hd;have ha:a<32:=by have:=(bq h1).2.2.2;omega
 clear h1;go_wp2_with fail;refine(ae HM).mono ?_;rintro e x1 ⟨k1,rfl,r1⟩;have HK1:=af k1;have HR1:=af r1;clear k1 r1 HM;have HM:=af (bu b q1 5 s x1 (ae HR1) (ae HN).1 (by omega));unfold gK at HM;rcases h2:rdN (au s) (8*s.size) q1 5 with _|⟨c,q2⟩
 ·
  rw[h2]at HM Hd;have Hn:Hid (d=none):=by show d=none;rw[←ae Hd];rfl
  clear h2 Hd;go_wp2_with fail;refine(ae HM).mono ?_;rintro e x2 ⟨k2,rfl⟩;refine⟨rfl,?_⟩;unfold bY;rw[ae Hn];exact⟨((ae HK1).trans k2).ku,rfl⟩
 rw[h2]at HM Hd;simp only[a0g]at Hd;have hc:c<32:=by have:=(bq h2).2.2.2;omega
 clear h2;go_wp2_with fail;refine(ae HM).mono ?_;rintro e x2 ⟨k2,rfl,r2⟩;have HK2:=af ((ae HK1).trans k2);have HR2:=af r2;clear k2 r2 HM HK1 HR1;have HM:=af (bu b q2 4 s x2 (ae HR2) (ae HN).1 (by omega));unfold gK at HM;by_cases hA:a+257<=286/\c+1<=30
 ·
  rw[a0d hA]at Hd;have hA1:(a:Int)+256+1<=286:=by omega
  have hA2:(c:Int)+1<=30:=by omega
  clear hA;obtain⟨nL,hnL⟩:∃n,a+257=n:=⟨_,rfl⟩;obtain⟨nD,hnD⟩:∃n,c+1=n:=⟨_,rfl⟩;have e1:(a:Int)+256+1=(nL:Int):=by omega
  have e2:(c:Int)+1=(nD:Int):=by omega
  have l1:nL<=286/\257<=nL:=by omega
  have l2:nD<=30/\1<=nD:=by omega
  have l1I:(nL:Int)<=286:=by omega
  have l2I:(nD:Int)<=30:=by omega
  rw[hnL,hnD]at Hd;clear hnL hnD;go_wp2_with fail;refine(ci _).mono ?_;rintro e x3 ⟨rfl,hx3⟩;rw[hx3];clear hx3 x3;clear e1 e2 hA1 hA2 ha hc;rcases h3:rdN (au s) (8*s.size) q2 4 with _|⟨m,q3⟩
  ·
   rw[h3]at HM Hd;have Hn:Hid (d=none):=by show d=none;rw[←ae Hd];rfl
   clear h3 Hd;go_wp2_with fail;refine(ae HM).mono ?_;rintro e x3 ⟨k3,rfl⟩;refine⟨rfl,?_⟩;unfold bY;rw[ae Hn];exact⟨((ae HK2).trans k3).ku,rfl⟩
  rw[h3]at HM Hd;simp only[a0g]at Hd;have hm16:m<16:=by have:=(bq h3).2.2.2;omega
  have Hq3:=af (bq h3).1;obtain⟨mm,hmm⟩:∃n,m+4=n:=⟨_,rfl⟩;have e3:(m:Int)+4=(mm:Int):=by omega
  have hmm19:mm<=19:=by omega
  rw[hmm]at Hd;clear h3 hmm;go_wp2_with fail;refine(ae HM).mono ?_;rintro e x3 ⟨k3,rfl,r3⟩;have HK3:=af ((ae HK2).trans k3);have HR3:=af r3;clear k3 r3 HM HK2 HR2;have HB:=af (uX b q3 mm s x3 (ae HR3) (ae Hq3) (ae HN).1 hmm19 ((ae HN).2.2.1.below (ae HK3).1 (ae HN).2.2.2) (ae HN).2.2.2);unfold LbP at HB;rcases h4:iG (au s) (8*s.size) mm q3 with _|⟨B,q4⟩
  ·
   rw[h4]at HB Hd;have Hn:Hid (d=none):=by show d=none;rw[←ae Hd];rfl
   clear h4 Hd;go_wp2_with fail;refine(ae HB).mono ?_;rintro e x4 ⟨k4,rfl⟩;refine⟨rfl,?_⟩;unfold bY;rw[ae Hn];exact⟨((ae HK3).trans k4).ku,rfl⟩
  rw[h4]at HB Hd;simp only[a0g]at Hd;have Hb4:=af (tj h4 (ae Hq3));clear h4;go_wp2_with fail;refine(ae HB).mono ?_;rintro e x4 ⟨k4,⟨C,rfl,hBV⟩,r4⟩;have HK4:=af ((ae HK3).trans k4);have HR4:=af r4;have HBV:=af hBV;have hlt3:b<x3.heap.size:=(ae HR3).lt;clear k4 r4 HB HK3 HR3 hBV e3;have HL:=af (uY b q4 (nL+nD) x3.heap.size s B C x4 (ae HR4) (ae Hb4).1 (ae HN).1 (by omega) (ae HBV) hlt3 (ae Hb4).2.2.1);have e5:((nL+nD:Nat):Int)=(nL:Int)+(nD:Int):=by omega
  rw[e5]at HL;clear e5;unfold LnP at HL;rcases h5:lnG (au s) (8*s.size) B (nL+nD) q4 []with _|⟨A,q5⟩
  ·
   rw[h5]at HL Hd;have Hn:Hid (d=none):=by show d=none;rw[←ae Hd];rfl
   clear h5 Hd;go_wp2_with fail;refine(ae HL).mono ?_;rintro e x5 ⟨k5,rfl⟩;refine⟨rfl,?_⟩;unfold bY;rw[ae Hn];exact⟨((ae HK4).trans k5).ku,rfl⟩
  rw[h5]at HL Hd;simp only[a0g]at Hd;have Hb5:=af (Gu h5 (ae Hb4).1);clear h5;go_wp2_with fail;refine(ae HL).mono ?_;rintro e x5 ⟨k5,⟨v,rfl,hv⟩,r5⟩;have hAl:A.length=nL+nD:=(ae Hb5).2.2;obtain⟨ga,cap,rfl⟩:=hv.formN hAl;obtain⟨g,rfl⟩:=hv.somes (by omega);have hcap:nL+nD<=cap:=by
   rcases (hv.own hAl).2 with⟨e,_⟩|⟨g',cap',cur,e,_,_,h1,_⟩
   · cases e
   · simp only[a0L]at e;omega
  have HK5:=af ((ae HK4).trans k5);have HS5:=af ((ae HS).keep1 (ae HK5) r5);have HJ5:=af (cn hAl (hv.own hAl));have hlt4:b<x4.heap.size:=(ae HR4).lt;have hs45:x4.heap.size<=x5.heap.size:=k5.1.size;clear k5 r5 HL hv HK4 HR4 HBV;go_wp2_with fail;refine a0Q (S:=fun _=>True) hmix trivial (fun hS=>?_);refine ag 0 (.pointer (some ⟨b,0,none⟩)) rfl (by kernel_rfl) (fun _ _ _ h=>h) rfl (fun W hSw=>by go_simp) hS ?_;refine ag 1 (.slice (some ⟨g,0,none⟩) (nL+nD) cap) rfl (by kernel_rfl) (fun _ _ _ h=>h) rfl (fun W hSw=>by go_simp) hS ?_;refine ag 2 (.int .i64 (nL:Nat)) rfl (by kernel_rfl) (fun _ _ _ h=>h) rfl (fun W hSw=>by go_simp) hS ?_;refine ag 5 (.slice (some ⟨g,0,none⟩) (nL+nD) cap) rfl (by kernel_rfl) (fun _ _ _ h=>h) rfl (fun W hSw=>by go_simp) hS ?_;refine ag 6 (.int .i64 (nL:Nat)) rfl (by kernel_rfl) (fun _ _ _ h=>h) rfl (fun W hSw=>by go_simp) hS ?_;refine ag 3 (.slice (some ⟨g,0,none⟩) nL cap) rfl (by kernel_rfl) (fun _ _ _ h=>h) rfl (fun W hSw=>by go_simp;intro h;omega) hS ?_;refine ag 7 (.slice (some ⟨g,nL,none⟩) nD (cap-nL)) rfl (by kernel_rfl) (fun _ _ _ h=>h) rfl (fun W hSw=>by go_simp;rw[a0d (by omega),a0e (by omega)]) hS ?_;have HJd:Hid (dN x5.drew x4.heap.size (some ⟨g,0,none⟩) A):=(ae HJ5).later (a0c _ _).drew;have tl:(A.take nL).length=nL:=by rw[a0t];omega
  have dl:(A.drop nL).length=nD:=by rw[a1F];omega
  have HF1:=af (Dr (some ⟨g,0,none⟩) cap nL x4.heap.size (A.take nL) x5.drew tl ((ae HJd).take nL) hs45 (by omega));refine ah 4 (by kernel_rfl) rfl fun K hK=>?_;go_simp;go_at_call 272;unfold qe at Hd;cases hk1:ap (A.take nL)
  · rw[hk1]at HF1 Hd;simp only[a1w,a1x]at HF1 Hd;refine(ae HF1).mono ?_;rintro e x6 ⟨b6,rfl⟩;refine⟨rfl,?_⟩;unfold bY;rw[←ae Hd];exact⟨((ae HK5).drew.ku).later b6 (show b<x5.drew.heap.size from(ae HS5).lt),rfl⟩
  rw[hk1]at HF1 Hd;simp only[a0Z]at HF1 Hd;refine(ae HF1).mono ?_;rintro e x6 ⟨b6,C1,rfl,hB1⟩;have HK6:=af (((ae HK5).drew.ku).later b6 (show b<x5.drew.heap.size from(ae HS5).lt));have HS6:=af (Sou.later (w:=x5.drew) (show Sou x5.drew b s q5 T from ae HS5) b6);have HB1:=af hB1;have hs6:x4.heap.size<=x6.heap.size:=a0P hs45 b6.size;have HJ6:=af ((ae HJd).later b6);refine a0f hK _ _ trivial (fun hS2=>?_);clear hK K b6 hB1 HF1;have HF2:=af (zb (some ⟨g,nL,none⟩) (cap-nL) nD x4.heap.size (A.drop nL) x6 dl (by have:=(ae HJ6).drop nL;rwa[a0A]at this) hs6 (by omega));refine ah 8 (by kernel_rfl) rfl fun K hK=>?_;go_simp;go_at_call 273;cases hk2:ap (A.drop nL)
  · rw[hk2]at HF2 Hd;simp only[a1w,a1x]at HF2 Hd;refine(ae HF2).mono ?_;rintro e x7 ⟨b7,rfl⟩;refine⟨rfl,?_⟩;unfold bY;rw[←ae Hd];exact⟨(ae HK6).later b7 (ae HS6).lt,rfl⟩
  rw[hk2]at HF2 Hd;simp only[a0Z]at HF2 Hd;refine(ae HF2).mono ?_;rintro e x7 ⟨b7,C2,rfl,hB2⟩;have HK7:=af ((ae HK6).later b7 (ae HS6).lt);have HS7:=af ((ae HS6).later b7);have HBs:Hid (cY x7 x4.heap.size (A.take nL) (A.drop nL) (C1++C2)):=⟨C1,C2,rfl,(ae HB1).later b7,hB2⟩;have HB7:=(ae HB1).later b7;refine a0f hK _ _ trivial (fun hS3=>?_);clear hK K b7 hB2 HF2;have HBu:Hid (Tryz.prog.built 184 [(0,.agg C1),(1,.agg C2)]=some (C1++C2)):=by
   exact jR HB7 (bm.second (ae HBs) (ae HB1).size)
  have HTk:=af (rP b q5 x4.heap.size s (A.take nL) (A.drop nL) (C1++C2) T x7 (ae HS7) (ae HN).2.1 (ae Hb5).1 (ae HN).1 (ae HBs) hlt4 hk1 hk2);rw[ae Hd]at HTk;refine a0X (i:=9) (v:=.agg (C1++C2)) rfl (by kernel_rfl) (by kernel_rfl) (by kernel_rfl) (fun _ _ _ h=>h) (pH (by rfl) 184 (.tmp 35) (.tmp 39) rfl (C1++C2) (.agg C1) (.agg C2) rfl rfl (ae HBu)) hS3 ?_;refine ah 10 (by kernel_rfl) rfl fun K hK=>?_;go_simp;go_at_call 269;refine(ae HTk).mono ?_;intro e x8 h8;unfold bY at h8;rcases d with _|⟨T',q⟩
  · obtain⟨k8,rfl⟩:=h8;refine⟨rfl,?_⟩;unfold bY;exact⟨(ae HK7).trans k8,rfl⟩
  ·
   obtain⟨k8,rfl,s8⟩:=h8;have HY:=af (a0b ((ae HK7).trans k8) s8);refine a0f hK _ _ trivial (fun hS4=>?_);clear hK K k8 s8 HTk;refine a0F (by kernel_rfl) ?_ _;clear hS hS2 hS3 hS4;go_wp2
   go_end0
   unfold bY;exact⟨(ae HY).1,rfl,(ae HY).2⟩
 ·
  rw[a0e hA]at Hd;have Hn:Hid (d=none):=by show d=none;rw[←ae Hd]
  by_cases hA1:a+257<=286
  ·
   have hB1:(a:Int)+256+1<=286:=by omega
   have hB2:decide ((c:Int)+1<=30)=false:=a0p (by omega);clear hA hA1;go_wp2_with fail;refine(dP _).mono ?_;rintro e x3 ⟨rfl,hx3⟩;rw[hx3];clear hx3 x3;refine⟨rfl,?_⟩;unfold bY;rw[ae Hn];exact⟨(ae HK2).ku,rfl⟩
  · have hB1:decide ((a:Int)+256+1<=286)=false:=a0p (by omega);clear hA hA1;go_wp2_with fail;refine(dP _).mono ?_;rintro e x3 ⟨rfl,hx3⟩;rw[hx3];clear hx3 x3;refine⟨rfl,?_⟩;unfold bY;rw[ae Hn];exact⟨(ae HK2).ku,rfl⟩
theorem Ch(R:List UInt8)(y:Nat)(hy:y<256):dE R ((y:Nat),0,0)=if R.length+1<=300 then some (R++[jT (y:Nat)])else none:=by
 have hB:isB (((y:Nat):Int),0,0)=true:=by unfold isB inB;simp;omega
 unfold dE yL;rw[hB];simp
def lbV(V:Nat):List Nat->Nat->List Int->List Int
 | [],_,l=>l
 | i :: is,p,l=>lbV V is (p+3) (l.set i ((V/2 ^ p%2 ^ 3:Nat):Int))
theorem J2(V:Nat):∀(is:List Nat) (p:Nat) (l:List Int),(lbV V is p l).length=l.length:=by
 intro is;induction is with
 | nil=>intro p l;rfl
 | cons i is ih=>intro p l;simp only[lbV];rw[ih,a1H]
theorem Mv{V sz:Nat} : ∀(is:List Nat) (p:Nat) (l:List Int),p<=sz->lbG V sz is p l=if p+3*is.length<=sz then some (lbV V is p l,p+3*is.length)else none:=by
 intro is;induction is with
 | nil=>intro p l h;simp[lbG,lbV,h]
 | cons i is ih=>
  intro p l h;simp only[lbG,lbV,a0B];by_cases hc:p+3<=sz
  · rw[lv hc];simp only[a0g];rw[ih _ _ hc,show p+3+3*is.length=p+3*(is.length+1) by omega]
  · rw[ox hc,a0e (by omega)];rfl
def wP(V sz p:Nat):Option (Nat×List Int×Nat):=
 (rdN V sz p 5).bind fun a=>(rdN V sz a.2 5).bind fun c=>if a.1+257<=286/\c.1+1<=30 then
  (rdN V sz c.2 4).bind fun m=>(iG V sz (m.1+4) m.2).bind fun B=>(lnG V sz B.1 (a.1+257+(c.1+1)) B.2 []).bind fun A=>
   if ap (A.1.take (a.1+257))=true/\ap (A.1.drop (a.1+257))=true then some (a.1+257,A.1,A.2)else none
  else none
theorem DN{V sz p:Nat}{T:List UInt8} : rm V sz p T=(wP V sz p).bind fun x=>ju V sz (x.2.1.take x.1) (x.2.1.drop x.1) x.2.2 T:=by
 unfold rm wP;rcases rdN V sz p 5 with _|⟨a,q1⟩
 · rfl
 simp only[a0g];rcases rdN V sz q1 5 with _|⟨c,q2⟩
 · rfl
 simp only[a0g]
 split
 ·
  rcases rdN V sz q2 4 with _|⟨m,q3⟩
  · rfl
  simp only[a0g];rcases iG V sz (m+4) q3 with _|⟨B,q4⟩
  · rfl
  simp only[a0g];rcases lnG V sz B (a+257+(c+1)) q4 []with _|⟨A,q5⟩
  · rfl
  simp only[a0g];unfold qe;by_cases h1:ap (A.take (a+257))=true
  ·
   by_cases h2:ap (A.drop (a+257))=true
   · rw[a0d h1,a0d h2,a0d ⟨h1,h2⟩];rfl
   · rw[a0d h1,a0e h2,a0e (fun h=>h2 h.2)];rfl
  · rw[a0e h1,a0e (fun h=>h1 h.1)];rfl
 · rfl
theorem Gr{V sz p X1 X2 X3:Nat}{l:List Int}(hp:p<=sz)(h1:V/2 ^ p%2 ^ 5=X1)(h2:V/2 ^ (p+5)%2 ^ 5=X2)(h3:V/2 ^ (p+5+5)%2 ^ 4=X3)(hl:lbV V (bv.take (X3+4)) (p+5+5+4) (List.replicate 19 0)=l) :
  wP V sz p=if p+5+5+4+3*(X3+4)<=sz/\ap l=true/\X1+257<=286/\X2+1<=30 then(lnG V sz l (X1+257+(X2+1)) (p+5+5+4+3*(X3+4)) []).bind fun A=>
   if ap (A.1.take (X1+257))=true/\ap (A.1.drop (X1+257))=true then some (X1+257,A.1,A.2)else none else none:=by
 have hlen:(bv.take (X3+4)).length=X3+4:=by rw[a0t];have:bv.length=19:=rfl;omega
 unfold wP;by_cases c1:p+5<=sz
 ·
  rw[lv c1];simp only[a0g];rw[h1];by_cases c2:p+5+5<=sz
  ·
   rw[lv c2];simp only[a0g];rw[h2];by_cases cc:X1+257<=286/\X2+1<=30
   ·
    rw[a0d cc];by_cases c3:p+5+5+4<=sz
    ·
     rw[lv c3];simp only[a0g];rw[h3];unfold iG;rw[Mv _ _ _ c3,hlen,hl];by_cases c4:p+5+5+4+3*(X3+4)<=sz
     ·
      rw[a0d c4];simp only[a0g];by_cases c5:ap l=true
      · rw[a0d c5,a0d ⟨c4,c5,cc⟩];rfl
      · rw[a0e c5,a0e (fun h=>c5 h.2.1)];rfl
     · rw[a0e c4,a0e (fun h=>c4 h.1)];rfl
    · rw[ox c3,a0e (by omega)];rfl
   · rw[a0e cc,a0e (fun h=>cc h.2.2)]
  · rw[ox c2,a0e (by omega)];rfl
 · rw[ox c1,a0e (by omega)];rfl
end Go.Proofs.YtkdlcomfpffhhaaGreatDoor
