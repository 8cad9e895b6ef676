/- Of what the proof is made: 10 texts, one behind the other. -/
import Derived.Test.YtgmfehnnebkaoaaGreatDoorM23
import Derived.Test.YtgmfehnnebkaoaaGreatDoorM17
import Derived.Test.YtgmfehnnebkaoaaGreatDoorM24
import Derived.Test.YtgmfehnnebkaoaaGreatDoorM25
import Derived.Test.YtgmfehnnebkaoaaGreatDoorTi1
import Derived.Test.YtgmfehnnebkaoaaGreatDoorM9
import Derived.Test.YtgmfehnnebkaoaaGreatDoorM19
import Derived.Test.YtgmfehnnebkaoaaGreatDoorM2
import Derived.Test.YtgmfehnnebkaoaaGreatDoorM21
import Derived.Test.YtgmfehnnebkaoaaGreatDoorM4
import Derived.Deep.RegionHeld3
import Derived.Deep.RegionLawGrows
import Derived.Test.YtgmfehnnebkaoaaGreatDoorM11
import Derived.Test.YtgmfehnnebkaoaaGreatDoorM3
import Derived.Test.YtgmfehnnebkaoaaGreatDoorM15
set_option maxRecDepth 100000
set_option linter.unusedSimpArgs false
set_option linter.unusedVariables false
set_option maxHeartbeats 6400000
namespace Go.Proofs.YtgmfehnnebkaoaaGreatDoor
open Go.Proofs.Tryz
open Go.RowKit Corb Bkx
set_option linter.defProp false
variable {b:Nat}{w w':World}
theorem aG.drew(h:aG b w w'):aG b w w'.drew:=⟨h.1.drew,h.2,h.3⟩
theorem eO.keep1{base:Nat}{a:Option Addr}{l:List Int}(h:eO w base a l)(c:aG b w w')(hb:b<base):eO w' base a l:=h.moved c.1.size (fun g e d _=>c.2 g d (by omega))
theorem bE.keep1{base:Nat}{l:List Int}{C:Array Value}(h:bE w base l C)(c:aG b w w')(hb:b<base):bE w' base l C:=by
 obtain⟨a,cap,ac,d,q,sc,e,f,h2,g⟩:=h;exact⟨a,cap,ac,d,q,sc,e,f.keep1 c hb,h2.keep1 c hb,g.keep1 c hb⟩
def SyP(w:World)(b:Nat)(s:ByteArray)(d:Option (Int×Nat))(e:Ending)(w':World):Prop:=
 aG b w w'/\match d with
  | none=>e=jO
  | some (i,q)=>e = .returned (.int .i64 i)/\Rdr w' b s q
def pT:Array Value:=#[Value.slice none 0 0,Value.slice none 0 0,Value.int .i64 0,Value.int .i64 0,Value.int .i64 0,Value.int .i64 0,Value.int .i64 0,Value.int .i64 0,Value.int .i64 0,Value.int .i64 0,Value.int .i64 0,Value.int .i64 0,Value.int .i64 0,Value.int .i64 0,Value.int .i64 0,Value.int .i64 0,Value.int .i64 0,Value.int .i64 0,Value.slice none 0 0]
theorem Tryz.infoLenB:(prog.info? 238).map (·.size)=some 19:=by kernel_rfl
theorem I6(B:BkI)(i:Bks B)(b p base:Nat)(C:Array Value)(l:List Int)(s:ByteArray)(w:World)(h:bE w base l C)(c:b<base)(d:av l=true)(n:s.size<=2000000)(m:Rdr w b s p)(k:p<=8*s.size) :
  Calls prog B.g #[.agg C,.pointer (some ⟨b,0,none⟩)] w (mS w b s (dec l (aE s) (8*s.size) p)):=by
 obtain⟨a,cap,ac,o,q,sc,e,r,h2,f⟩:=h;exact Bkx.bookGet_any B i a q cap l.length _ sc b p _ C l s w e d rfl n m k (fun W j=>(f.keep1 j c).1)
theorem sP(B:BkI)(M:Bks B)(b p base:Nat)(C:Array Value)(l:List Int)(s:ByteArray)(w:World)(N:bE w base l C)(E:b<base)(H:av l=true)(Y:s.size<=2000000)(R:Rdr w b s p)(X:p<=8*s.size) :
  Calls prog B.s #[.pointer (some ⟨b,0,none⟩),.agg C] w (SyP w b s (dec l (aE s) (8*s.size) p)):=by
 have G:prog.follows .mixedOrders=true:=by kernel_rfl
 have O:=R.lt;have V:Below w.heap.size w (w.alloc (.cells C B.T)):=(a0c _ _).alloc (a0a _) _;have z:aG b w (w.alloc (.cells C B.T)).drew:=((aG.refl b w).alloc O _).drew;have I:Rdr (w.alloc (.cells C B.T)).drew b s p:=R.alloc _;have y:bE (w.alloc (.cells C B.T)).drew base l C:=N.later V.drew;have J:=N.size;have F:(prog.info? B.T).map (·.size)=some C.size:=by rw[J];exact M.info
 have r:(w.alloc (.cells C B.T)).rangeAt w.heap.size 0 C.toList:=by
  intro j v U;rw[a0H,br (alloc_at w (.cells C B.T))];simpa using U
 have L:=af (I6 B M b p base C l s _ y E H Y I X);have o:=af z;have Q:w.heap.size≠b:=by omega
 have a:Hid (∀W,aG b (w.alloc (.cells C B.T)).drew W->W.rangeAt w.heap.size 0 C.toList):=by
  intro W hW j v U;rw[←r j v U];exact World.cell?_of_block (w:=w.alloc (.cells C B.T)) (hW.2 w.heap.size (by simp) Q)
 have A:(w.alloc (.cells C B.T)).drew.rangeAt w.heap.size 0 C.toList:=r;clear N H Y R X V z I y J r E;obtain⟨ds,D,P⟩:=M.und;rcases M with rfl|rfl|rfl;all_goals
  simp only[bkL,bkD,bkN]at F L o a A D ⊢;generalize dec l (aE s) (8*s.size) p=d at *
  unfold SyP;unfold mS at L;rcases d with _|⟨i,q⟩;all_goals
   simp only at L ⊢
   (first|go_enter func255,ntmps255|go_enter func263,ntmps263|go_enter func257,ntmps257)
   go_wp2_with fail;refine wp_region_held_drew (S:=fun W=>W.rangeAt w.heap.size 0 C.toList) G A (fun x=>?_);refine wpAnyH_take (i:=0) (v:=.agg C) rfl (by kernel_rfl) (by kernel_rfl) (by kernel_rfl) (fun _ _ _ h=>h) (dk (by rfl) _ (.tmp 3) rfl w.heap.size 0 rfl C _ (fun _ h=>h) D P F) x ?_;refine ag 1 (.pointer (some ⟨b,0,none⟩)) rfl (by kernel_rfl) (fun _ _ _ h=>h) rfl (fun W f=>by go_simp) x ?_;refine ag 2 (.pointer (some ⟨b,0,none⟩)) rfl (by kernel_rfl) (fun _ _ _ h=>h) rfl (fun W f=>by go_simp) x ?_;refine ag 3 (.pointer (some ⟨b,0,none⟩)) rfl (by kernel_rfl) (fun _ _ _ h=>h) rfl (fun W f=>by go_simp) x ?_;refine aj 4 (by kernel_rfl) rfl fun K g=>?_;go_simp
   (first|go_at_call 261|go_at_call 267|go_at_call 265)
   refine(ae L).mono ?_
  . rintro e x1 ⟨m,rfl⟩;have n:=af ((ae o).trans m);refine Shut.out g _ _ (ae a _ m) (fun c=>?_);clear g K;refine wpAnyH_take (i:=5) (v:=.tuple #[.int .i64 0,.bool false]) rfl (by kernel_rfl) (by kernel_rfl) (by kernel_rfl) (fun _ _ _ h=>h) (a0x ⟨by rfl,fun W f=>by go_simp⟩) c ?_;refine wpAnyH_take (i:=6) (v:=.int .i64 0) rfl (by kernel_rfl) (by kernel_rfl) (by kernel_rfl) (fun _ _ _ h=>h) (a0x ⟨by rfl,fun W f=>by go_simp⟩) c ?_;refine wpAnyH_take (i:=7) (v:=.bool false) rfl (by kernel_rfl) (by kernel_rfl) (by kernel_rfl) (fun _ _ _ h=>h) (a0x ⟨by rfl,fun W f=>by go_simp⟩) c ?_;refine aj 8 (by kernel_rfl) rfl fun K g=>?_;go_simp;refine Shut.out g _ _ (ae a _ m) (fun t=>?_);clear g K;refine aj 9 (by kernel_rfl) rfl fun K g=>?_;go_simp;refine Shut.out g _ _ (ae a _ m) (fun u=>?_);clear g K;refine wpAnyH_done (by kernel_rfl) ?_ _;clear x c t u m a;go_wp2_with fail;refine(eZ _).mono ?_;rintro e x2 ⟨rfl,k⟩;rw[k];clear k x2;exact⟨rfl,ae n,rfl⟩
  . rintro e x1 ⟨m,rfl,Z⟩;have n:=af (a0b ((ae o).trans m) Z);refine Shut.out g _ _ (ae a _ m) (fun c=>?_);clear g K;refine wpAnyH_take (i:=5) (v:=.tuple #[.int .i64 i,.bool true]) rfl (by kernel_rfl) (by kernel_rfl) (by kernel_rfl) (fun _ _ _ h=>h) (a0x ⟨by rfl,fun W f=>by go_simp⟩) c ?_;refine wpAnyH_take (i:=6) (v:=.int .i64 i) rfl (by kernel_rfl) (by kernel_rfl) (by kernel_rfl) (fun _ _ _ h=>h) (a0x ⟨by rfl,fun W f=>by go_simp⟩) c ?_;refine wpAnyH_take (i:=7) (v:=.bool true) rfl (by kernel_rfl) (by kernel_rfl) (by kernel_rfl) (fun _ _ _ h=>h) (a0x ⟨by rfl,fun W f=>by go_simp⟩) c ?_;refine aj 8 (by kernel_rfl) rfl fun K g=>?_;go_simp;refine Shut.out g _ _ (ae a _ m) (fun t=>?_);clear g K;refine aj 9 (by kernel_rfl) rfl fun K g=>?_;go_simp;refine Shut.out g _ _ (ae a _ m) (fun u=>?_);clear g K;refine wpAnyH_done (by kernel_rfl) ?_ _;clear x c t u m a;clear Z;go_wp2_with fail;refine(df _).mono ?_;rintro e x2 ⟨rfl,k⟩;rw[k];clear k x2;go_wp2;go_ret;exact⟨(ae n).1,rfl,(ae n).2⟩
theorem xw(B:BkI)(A:Bks B)(a:Option Addr)(cap n base:Nat)(l:List Int)(w:World)(u:l.length=n)(h:eO w base a l)(Z:base<=w.heap.size)(hm:n<=1000) :
  Calls prog B.b #[.slice a n cap] w fun e w'=>Below w.heap.size w w'/\if av l=true then ∃C,e = .returned (.agg C)/\bE w' base l C else e=jO:=by
 obtain⟨W0,hW0⟩:∃W,w.alloc (.cells pT B.T)=W:=⟨_,rfl⟩;have S0:W0.heap.size=w.heap.size+1:=by rw[←hW0];exact dD _ _
 have I:Below w.heap.size w W0:=by rw[←hW0];exact(a0c _ _).alloc (a0a _) _
 have T0:Hid (W0.there w.heap.size 0 19):=by rw[←hW0];exact gW w pT _ _ rfl
 have r:bo W0 a l:=(h.later I).1;have G:=af (tF a cap n l W0 u r (by omega));have E0:=af hW0;unfold pT at E0;have v:=af I;have y:=af S0;have Q:=af h;have S:=af u;clear hW0 S0 I;have m:=fun V=>Bkx.codeBook_any B A a cap n l W0 u r V;have s:=A.info;have K:=af A.ne;obtain⟨Y,D,L⟩:=A.und;rcases A with rfl|rfl|rfl;all_goals
  simp only[bkL,bkD,bkN]at E0 s m D ⊢;cases c:av l
  .
   rw[c]at G;simp only[a1y,a1z];clear c
   (first|go_enter func246,ntmps246|go_enter func247,ntmps247|go_enter func258,ntmps258)
   go_wp2_with fail;rw[ae E0];refine(ae G).mono ?_;rintro e x1 ⟨rfl,d⟩;rw[d];clear d x1;go_wp2_with fail;refine(eZ _).mono ?_;rintro e x2 ⟨rfl,f⟩;rw[f];clear f x2;exact⟨rfl,ae v,rfl⟩
  .
   rw[c]at G;simp only[a0Z];have J:=af (m (by have:=jc c;omega));clear c r h u m
   (first|go_enter func246,ntmps246|go_enter func247,ntmps247|go_enter func258,ntmps258)
   go_wp2_with fail;rw[ae E0];refine(ae G).mono ?_;rintro e x1 ⟨rfl,d⟩;rw[d];clear d x1;go_wp2_with fail;refine(df _).mono ?_;rintro e x2 ⟨rfl,f⟩;rw[f];clear f x2;go_wp2_with fail;refine(ae J).mono ?_;rintro e x3 ⟨vs,C,rfl,t,H,h2,hb⟩;obtain⟨q,sc,rfl⟩:=h2.form;have F:C.size=19:=by rw[t];simp[cS]
   have k:C.all (·.oneCell')=true:=by rw[t];exact jM rfl rfl rfl
   have z:Hid (x3.there w.heap.size 0 19):=fun j M=>by
    obtain⟨t1,t2⟩:=ae T0 j M;have E:w.heap.size<W0.heap.size:=by have:=ae y;omega
    exact⟨by rw[hb.cell (p:=⟨w.heap.size,0+j,none⟩) E];exact t1,by rw[hb.frozen (p:=⟨w.heap.size,0+j,none⟩) E];exact t2⟩
   have i:=af F;have x:=af k;have R:=af (a0b t (a0b H (a0b h2 hb)));clear F k t H h2 hb;go_wp2_with (refine wpList_store_mid rfl _ (.tmp 2) (.tmp 7) rfl w.heap.size 0 C rfl rfl (by rw[ae i];exact ae z) (by rw[ae i];exact s) (ae x) ?_);obtain⟨t,H,h2,hb⟩:=ae R;have X:=World.rangeAt_setCells_same x3 w.heap.size 0 C.toList (by rw[a1Z,ae i];exact ae z);have N:∀j,j≠w.heap.size->(x3.setCells w.heap.size 0 C.toList).heap[j]?=x3.heap[j]?:=fun j M=>fD _ _ _ _ j M;have P:(x3.setCells w.heap.size 0 C.toList).heap.size=x3.heap.size:=size_setCells _ _ _ _;have o:=ah (ae v) hb;have s0:=ae y;refine a0u (fe rfl _ _ w.heap.size _ _ rfl X D L (by rw[a1Z,ae i];exact s)) rfl ⟨below_setCells (a0a _) _ _ _ o,C,by simp,?_⟩;have u:=ae S;subst u;have O:eO (x3.setCells w.heap.size 0 C.toList) base a l:=(ae Q).moved (by rw[P];exact o.size) (fun g _ U _=>(N g (by omega)).trans (o.block g U));exact⟨a,cap,_,_,q,sc,t,O,((dh (cq l 15) (H.own (cq l 15))).mono (b':=w.heap.size+1) (by omega)).touch P N (by omega) |>.mono (by omega),((dh rfl h2 (ae K)).mono (b':=w.heap.size+1) (by omega)).touch P N (by omega) |>.mono (by omega)⟩
def uh:=@sP bkL (.inl rfl)
def GJ:=@xw bkL (.inl rfl)
def zo:=@sP bkD (.inr (.inl rfl))
def CY:=@xw bkD (.inr (.inl rfl))
def Dz:=@sP bkN (.inr (.inr rfl))
def GD:=@xw bkN (.inr (.inr rfl))
end Go.Proofs.YtgmfehnnebkaoaaGreatDoor
namespace Go.Proofs.YtgmfehnnebkaoaaGreatDoor
open Go.Proofs.Tryz
open Go.RowKit Corb
variable {A D L l:List Int}{C:Array Value}{T:List UInt8}{V b g k n o p q sz:Nat}{s:ByteArray}{t:TypeId}{v:Value}{w w' x x':World}
def Sou(w:World)(b:Nat)(s:ByteArray)(p:Nat)(T:List UInt8):Prop:=
 Rdr w b s p/\∃v,w.cell? ⟨b,3,none⟩=some v/\w.frozen? ⟨b,3,none⟩=false/\bU w (b+1) v T
theorem bU.keep1{base:Nat}{l:List UInt8}(h:bU w base v l)(a:aG b w w')(hb:b<base):bU w' base v l:=a.own h hb
theorem Sou.keep1(h:Sou w b s p T)(a:aG b w w')(d:Rdr w' b s q):Sou w' b s q T:=by
 obtain⟨_,v,c,f,o⟩:=h;exact⟨d,v,(a.3 3 (a0a _)).1.trans c,(a.3 3 (a0a _)).2.trans f,o.keep1 a (a0s _)⟩
theorem Sou.lt(h:Sou w b s p T):b<w.heap.size:=h.1.lt
structure KU (b:Nat) (w w':World):Prop where
 below:Below b w w'
 keep:∀k,k<w.heap.size->k≠b->(∀cur fr,w.heap[k]?≠some (.cells cur 5 fr))->w'.heap[k]?=w.heap[k]?
theorem KU.refl(b:Nat)(w:World):KU b w w:=⟨a0c _ _,fun _ _ _ _=>rfl⟩
theorem KU.trans{w1 w2:World}(h:KU b w w1)(k:KU b w1 w2):KU b w w2:=
 ⟨h.1.trans k.1,fun j c a d=>(k.2 j (a0h c h.1.size) a (by rw[h.2 j c a d];exact d)).trans (h.2 j c a d)⟩
theorem aG.ku(h:aG b w w'):KU b w w':=⟨h.1,fun j c a _=>h.2 j c a⟩
theorem KU.later{w1 w2:World}(h:KU b w w1)(hb:Below w1.heap.size w1 w2)(a:b<w1.heap.size):KU b w w2:=
 ⟨h.1.trans (hb.mono (a0w a)),fun j d c e=>(hb.block j (a0h d h.1.size)).trans (h.2 j d c e)⟩
theorem Sou.later(h:Sou w b s p T)(hb:Below w.heap.size w w'):Sou w' b s p T:=by
 obtain⟨r,v,c,f,o⟩:=h;exact⟨r.kept (hb.mono r.lt),v,(hb.cell (p:=⟨b,3,none⟩) r.lt).trans c,(hb.frozen (p:=⟨b,3,none⟩) r.lt).trans f,o.later hb (a0a _)⟩
theorem eO.ku{base:Nat}{a:Option Addr}(h:eO w base a l)(c:KU b w w')(hb:b<base):eO w' base a l:=h.moved c.1.size (fun g f d e=>c.2 g d (by omega) e)
theorem bE.ku{base:Nat}(h:bE w base l C)(c:KU b w w')(hb:b<base):bE w' base l C:=by
 obtain⟨a,cap,ac,d,q,sc,e,f,h2,g⟩:=h;exact⟨a,cap,ac,d,q,sc,e,f.ku c hb,h2.ku c hb,g.ku c hb⟩
theorem dI.ku{base:Nat}(h:dI w base L D C)(a:KU b w w')(hb:b<base):dI w' base L D C:=by
 obtain⟨c,d,e,f,h2⟩:=h;exact⟨c,d,e,f.ku a hb,h2.ku a hb⟩
theorem dI.keep1{base:Nat}(h:dI w base L D C)(a:aG b w w')(hb:b<base):dI w' base L D C:=h.ku a.ku hb
theorem Ct{base:Nat}{l:List UInt8}(h:bU w base v l)(hb:b<base)(u:Value):bU (w.setCell ⟨b,o,none⟩ u) base v l:=by
 refine⟨h.1,?_⟩;rcases h.2 with e|⟨g,cap,a,rfl,c,d,rest⟩
 . exact .inl e
 . exact .inr ⟨g,cap,a,rfl,c,(a0K _ _ _ g (by show g≠b;omega)).trans d,rest⟩
def cW(w:World)(b:Nat)(s:ByteArray)(d:Option (List UInt8×Nat))(e:Ending)(w':World):Prop:=
 KU b w w'/\match d with
  | none=>e=jO
  | some (T,q)=>e = .returned (.tuple #[])/\Sou w' b s q T
theorem EW(b p:Nat)(s:ByteArray)(T:List UInt8)(t:Tk)(w:World)(h:Sou w b s p T)(C:T.length<=300)(z:okT t=true) :
  Calls prog 242 #[.pointer (some ⟨b,0,none⟩),ft t] w (cW w b s ((eu T t).map fun x=>(x,p))):=by
 have u:=h.lt;obtain⟨A,v,c3,f3,m⟩:=h;obtain⟨n,g⟩:∃n,T.length=n:=⟨_,rfl⟩;obtain⟨a,cap,rfl⟩:=m.formN g;have i:=af (U.lzLay_any (b+1) n cap a T t w g m (by omega) u z);have E:=af A;have D:=af f3;unfold cW;rcases l:eu T t with _|T'
 .
  rw[l]at i;simp only[Option.map_none];clear l m C g z A f3;generalize ft t=tv at *
  go_enter func242,ntmps242;go_wp2_with fail;refine(ae i).mono ?_;rintro e x1 ⟨v1,rfl,o1,d⟩;simp only[Option.isSome_none];have o:Hid (KU b w x1):=⟨d.1.mono (a07 _),fun j r _ g=>d.2 j r g⟩;clear o1 d i;go_wp2_with fail;refine(eZ _).mono ?_;rintro e x2 ⟨rfl,c⟩;rw[c];clear c x2;exact⟨rfl,ae o,rfl⟩
 .
  rw[l]at i;simp only[a3E];clear l m C g z A f3;generalize ft t=tv at *
  go_enter func242,ntmps242;go_wp2_with fail;refine(ae i).mono ?_;rintro e x1 ⟨v1,rfl,o1,d⟩;simp only[Option.isSome_some,a1L]at o1 ⊢;have o:Hid (KU b w x1):=⟨d.1.mono (a07 _),fun j r _ g=>d.2 j r g⟩;have k:=(ae E).kept d.1;have q:=(d.1.cell (p:=⟨b,3,none⟩) (a0s b)).trans c3;have f31:=(d.1.frozen (p:=⟨b,3,none⟩) (a0s b)).trans (ae D);obtain⟨a1,f,rfl⟩:=o1.form;have B:=af (a0b k o1);clear o1 d i k;go_wp2_with fail;refine(df _).mono ?_;rintro e x2 ⟨rfl,c⟩;rw[c];clear c x2;go_wp2
  go_end0
  have F:KU b w (x1.setCell ⟨b,3,none⟩ (.slice a1 T'.length f)):=(ae o).trans ⟨ai (a0c _ _) (a0a _) _,fun j _ y _=>a0K _ _ _ j y⟩;refine⟨F,rfl,?_,.slice a1 T'.length f,World.cell?_setCell_same _ _ _ q,by simpa using f31,?_⟩
  . obtain⟨c0,c1,c2,g0,g1,g2,hb⟩:=(ae B).1;exact⟨by rw[World.cell?_setCell_other _ _ _ _ (by simp)];exact c0,by rw[World.cell?_setCell_other _ _ _ _ (by simp)];exact c1,by rw[World.cell?_setCell_other _ _ _ _ (by simp)];exact c2,by simpa using g0,by simpa using g1,by simpa using g2,by simpa using hb⟩
  . exact Ct (ae B).2 (a0s _) _
def TkP(w:World)(b:Nat)(s:ByteArray)(d:Option (Tk×Nat))(e:Ending)(w':World):Prop:=
 aG b w w'/\match d with
  | none=>e=jO
  | some (t,q)=>e = .returned (ft t)/\Rdr w' b s q
def okG(d:Option (Tk×Nat)):Option (Tk×Nat):=d.bind fun t=>if okT t.1=true then some t else none
theorem Et{base:Nat}(h:dI w base L D C):∃a b,C=a++b/\bE w base L a/\bE w base D b/\(w.alloc (.cells C 164)).rangeAt w.heap.size 0 a.toList/\(w.alloc (.cells C 164)).rangeAt w.heap.size 19 b.toList:=by
 obtain⟨a,b,rfl,c,h2⟩:=h;obtain⟨d,e⟩:=ii (alloc_at w (.cells (a++b) 164)) c.size;exact⟨a,b,rfl,c,h2,d,e⟩
theorem rz{c:List Value}(h:w.rangeAt g o c)(e:aG b w w')(d:g<w.heap.size)(a:g≠b):w'.rangeAt g o c:=fun j v f=>by
 rw[←h j v f];exact World.cell?_of_block (w:=w) (e.2 g d a)
theorem Ek(b p k:Nat)(C:Array Value)(s:ByteArray)(w:World)(a:Rdr w b s p)(g:k<256) :
  Calls prog 256 #[.pointer (some ⟨b,0,none⟩),.int .i64 (k:Nat),.agg C] w fun e w'=>aG b w w'/\e = .returned (ft ((k:Nat),0,0))/\Rdr w' b s p:=by
 have c:isB (((k:Nat):Int),0,0)=true:=by unfold isB inB;simp;omega
 rw[ly c];have h:(k:Int)<256:=by omega
 have i:IntKind.u8.wrap (k:Int)=(k:Int):=Mj (by omega) (by omega);have d:Hid (aG b w (w.alloc (.cells C 164))):=(aG.refl b w).alloc a.lt _;have f:Hid (Rdr (w.alloc (.cells C 164)) b s p):=a.alloc _;clear a g c;go_enter func256,ntmps256;go_wp2;go_ret;exact⟨ae d,rfl,ae f⟩
theorem El(b p k base:Nat)(L D:List Int)(C:Array Value)(s:ByteArray)(w:World)(hr:Rdr w b s p)(hk:k<=900)(X:dI w base L D C)(ac:b<base)(f:av D=true)(hs:s.size<=2000000) :
  Calls prog 256 #[.pointer (some ⟨b,0,none⟩),.int .i64 ((k:Nat)+257),.agg C] w (TkP w b s (okG (lS (aE s) (8*s.size) D k p))):=by
 have a3:prog.follows .mixedOrders=true:=by kernel_rfl
 obtain⟨d,hd⟩:∃d,okG (lS (aE s) (8*s.size) D k p)=d:=⟨_,rfl⟩;rw[hd];have Hd:=af hd;obtain⟨T,o,rfl,G,h2,r1,r2⟩:=Et X;have a2:=hr.lt;have hA:Below w.heap.size w (w.alloc (.cells (T++o) 164)):=(a0c _ _).alloc (a0a _) _;have a4:w.heap.size≠b:=by omega
 have bl:(prog.info? 162).map (·.size)=some o.size:=by rw[h2.size];exact Tryz.infoDistB
 have O:=af (a0b ((aG.refl b w).alloc a2 (.cells (T++o) 164)) (a0b (hr.alloc (.cells (T++o) 164)) (a0b (h2.later hA) r2)));have B:w.heap.size<(w.alloc (.cells (T++o) 164)).heap.size:=by simp
 have HS:=af hs;have U:=af f;have J:=af ac;clear hr X G h2 r1 r2 hd hs f ac;go_enter func256,ntmps256;go_wp2_with fail;generalize w.alloc (.cells (T++o) 164)=w1 at *
 generalize bk:w.heap.size=g at *
 clear bk hA a2;refine(nN w1).mono ?_;rintro e w2 ⟨rfl,R⟩;have a0:=(ae O).1.later R (ae O).2.1.lt;have a5:=(ae O).2.1.kept (R.mono (ae O).2.1.lt);have a7:=(ae O).2.2.1.later R;have ad:w2.rangeAt g 19 o.toList:=jD (ae O).2.2.2 R B;have z:g<w2.heap.size:=a0h B R.size;have n:=af (uO 3 4 28 b p k s w2 a5 (ae HS) (by omega) (by omega) (by omega) (by omega) (fun k h=>by omega) (by omega));have r:=af (a0b a0 (a0b a7 ad));clear R a0 a5 a7 ad O B;have ek:(k:Int)+257-256-1=(k:Int):=by omega
 unfold iW at n;rcases G:scG (aE s) (8*s.size) 3 4 28 k p with _|⟨x,q1⟩
 .
  rw[G]at n;have F:Hid (d=none):=by show d=none;rw[←ae Hd];unfold okG lS;rw[G];rfl
  clear G;go_wp2_with fail;refine(ae n).mono ?_;rintro e x3 ⟨Q,rfl⟩;refine⟨rfl,?_⟩;unfold TkP;rw[ae F];exact⟨(ae r).1.trans Q,rfl⟩
 .
  rw[G]at n;have aa:=D8 G;have H1:=af G;have ba:=af aa.1;clear G aa;go_wp2_with fail;refine(ae n).mono ?_;rintro e x3 ⟨Q,rfl,r3⟩;have a1:=(ae r).1.trans Q;have a8:=(ae r).2.1.keep1 Q (ae J);have an:=rz (ae r).2.2 Q z a4;have ao:g<x3.heap.size:=a0h z Q.1.size;have c:=af (a0b a1 (a0b a8 (a0b an r3)));clear Q a1 a8 an r3 n r z;have m:Hid (∀W,aG b x3 W->W.rangeAt g 19 o.toList):=fun W h=>rz (ae c).2.2.1 h ao a4;have P:aG b x3 x3.drew:=(aG.refl b x3).drew;go_wp2_with fail;refine wp_region_held_drew (S:=fun W=>W.rangeAt g 19 o.toList) a3 (ae m _ P) (fun Y=>?_);refine ag 0 (.pointer (some ⟨b,0,none⟩)) rfl (by kernel_rfl) (fun _ _ _ h=>h) rfl (fun W Z=>by go_simp) Y ?_;refine ag 2 (.pointer (some ⟨b,0,none⟩)) rfl (by kernel_rfl) (fun _ _ _ h=>h) rfl (fun W Z=>by go_simp) Y ?_;refine ag 3 (.pointer (some ⟨g,19,none⟩)) rfl (by kernel_rfl) (fun _ _ _ h=>h) rfl (fun W Z=>by go_simp) Y ?_;refine wpAnyH_take (i:=4) (v:=.agg o) rfl (by kernel_rfl) (by kernel_rfl) (by kernel_rfl) (fun _ _ _ h=>h) (dk (by rfl) 162 (.tmp 25) rfl g 19 rfl o _ (fun _ h=>h) underlying162 rfl bl) Y ?_;refine aj 1 (by kernel_rfl) rfl fun K u=>?_;go_simp;go_at_call 188;refine(nF _).mono ?_;rintro e x4 ⟨rfl,b4⟩;have k4:aG b x3 x4:=P.later b4 (ae c).2.2.2.lt;have r4:Rdr x4 b s q1:=Rdr.kept (w:=x3.drew) (show Rdr x3.drew b s q1 from(ae c).2.2.2) (b4.mono (ae c).2.2.2.lt);have v4:=(ae c).2.1.keep1 k4 (ae J);have l:=af (zo b q1 base o D s x4 v4 (ae J) (ae U) (ae HS) r4 (ae ba));refine Shut.out u _ _ (ae m _ k4) (fun bb=>?_);clear u K b4 v4;refine aj 5 (by kernel_rfl) rfl fun K u=>?_;go_simp;go_at_call 263;unfold SyP at l;rcases h2:dec D (aE s) (8*s.size) q1 with _|⟨j,q2⟩
  .
   rw[h2]at l;have F:Hid (d=none):=by show d=none;rw[←ae Hd];unfold okG lS;rw[ae H1];simp only[a0f];rw[h2];rfl
   refine(ae l).mono ?_;rintro e x5 ⟨k5,rfl⟩;refine⟨rfl,?_⟩;unfold TkP;rw[ae F];exact⟨(ae c).1.trans (k4.trans k5),rfl⟩
  .
   rw[h2]at l;have ab:=gJ h2;have H2:=af h2;refine(ae l).mono ?_;rintro e x5 ⟨k5,rfl,r5⟩;have H:=k4.trans k5;refine Shut.out u _ _ (ae m _ H) (fun bc=>?_);clear u K k5 k4 r4 l;obtain⟨jn,hj⟩:=a0n ab.2.2.1;subst hj;have A:jn<=1000:=by have:=jc (ae U);omega
   have a:=af (uO 1 2 30 b q2 jn s x5 r5 (ae HS) (by omega) (by omega) (by omega) (by omega) (fun k h=>by omega) A);refine aj 6 (by kernel_rfl) rfl fun K u=>?_;go_simp;go_at_call 262;unfold iW at a;rcases V:scG (aE s) (8*s.size) 1 2 30 jn q2 with _|⟨y,q3⟩
   .
    rw[V]at a;have F:Hid (d=none):=by show d=none;rw[←ae Hd];unfold okG lS;rw[ae H1];simp only[a0f];rw[ae H2];simp only[a0f,a0l];rw[V];rfl
    refine(ae a).mono ?_;rintro e x6 ⟨k6,rfl⟩;refine⟨rfl,?_⟩;unfold TkP;rw[ae F];exact⟨(ae c).1.trans (H.trans k6),rfl⟩
   .
    rw[V]at a;have H3:=af V;refine(ae a).mono ?_;rintro e x6 ⟨k6,rfl,r6⟩;have I:=H.trans k6;refine Shut.out u _ _ (ae m _ I) (fun bd=>?_);clear u K;refine aj 7 (by kernel_rfl) rfl fun K u=>?_;go_simp;refine Shut.out u _ _ (ae m _ I) (fun be=>?_);clear u K;refine wpAnyH_done (by kernel_rfl) ?_ _;have HE:Hid (d=if okT (0,(x:Int),(y:Int))=true then some ((0,(x:Int),(y:Int)),q3)else none):=by
     show d=_;rw[←ae Hd];unfold okG lS;rw[ae H1];simp only[a0f];rw[ae H2];simp only[a0f,a0l];rw[ae H3];rfl
    have q:=af (a0b ((ae c).1.trans I) r6);have N:=af (fun W=>KF (0,(x:Int),(y:Int)) W);clear Y bb bc bd be I H k6 r6 r5 m P h2 V ab A a;simp only at N;go_wp2_with fail;refine(ae N _).mono ?_;rintro e x7 ⟨rfl,b7⟩;have M:=af (a0b ((ae q).1.later b7 (ae q).2.lt) ((ae q).2.kept (b7.mono (ae q).2.lt)));clear b7 q N;cases f:okT (0,(x:Int),(y:Int))
    .
     have F:Hid (d=none):=by show d=none;rw[ae HE,f];rfl
     clear f;generalize ft (0,(x:Int),(y:Int))=tv at *
     go_wp2_with fail;refine(eZ _).mono ?_;rintro e x8 ⟨rfl,E⟩;rw[E];clear E x8;refine⟨rfl,?_⟩;unfold TkP;rw[ae F];exact⟨(ae M).1,rfl⟩
    .
     have F:Hid (d=some ((0,(x:Int),(y:Int)),q3)):=by show d=_;rw[ae HE,f];rfl
     clear f;obtain⟨t,ht⟩:∃t:Tk,(0,(x:Int),(y:Int))=t:=⟨_,rfl⟩;rw[ht]at F ⊢;clear ht;generalize a6:ft t=tv at *
     have a9:=af a6;clear a6;go_wp2_with fail;refine(df _).mono ?_;rintro e x8 ⟨rfl,E⟩;rw[E];clear E x8;go_wp2;go_ret;unfold TkP;rw[ae F];exact⟨(ae M).1,by rw[ae a9];rfl,(ae M).2⟩
theorem vD(b p:Nat)(s:ByteArray)(T:List UInt8)(w:World)(h:Sou w b s p T)(hT:T.length<=300)(hp:p<=8*s.size)(hs:s.size<=2000000) :
  Calls prog 213 #[.pointer (some ⟨b,0,none⟩)] w (cW w b s (jg (aE s) (8*s.size) p T)):=by
 obtain⟨d,hd⟩:∃d,jg (aE s) (8*s.size) p T=d:=⟨_,rfl⟩;rw[hd];have g:=af hd;have F:=af (nR b p s w h.1 hs hp);have HS:=af h;have Q:=af (a0b hs hT);clear h hT hp hs hd;go_enter func213,ntmps213;unfold jg at g;rcases G:kH (aE s) p with _|q
 .
  rw[G]at F;have o:Hid (d=none):=by show d=none;rw[←ae g,G];rfl
  clear G g;go_wp2_with fail;refine(ae F).mono ?_;rintro e x1 ⟨M,rfl⟩;refine⟨rfl,?_⟩;unfold cW;rw[ae o];exact⟨M.ku,rfl⟩
 rw[G]at F g;clear G;simp only[a0f]at g;go_wp2_with fail;refine(ae F).mono ?_;rintro e x1 ⟨M,rfl,r1⟩;have m:=af (a0b M.ku ((ae HS).keep1 M r1));clear M r1 HS F;have f:=af (bX b q 16 s x1 (ae m).2.1 (ae Q).1 (by omega));rcases h2:rdN (aE s) (8*s.size) q 16 with _|⟨a,q2⟩
 .
  rw[h2]at f;unfold iW at f;have o:Hid (d=none):=by show d=none;rw[←ae g,h2];rfl
  clear h2 g;go_wp2_with fail;refine(ae f).mono ?_;rintro e x2 ⟨N,rfl⟩;refine⟨rfl,?_⟩;unfold cW;rw[ae o];exact⟨(ae m).1.trans N.ku,rfl⟩
 rw[h2]at f g;unfold iW at f;have ha:a<=65535:=by have:=(bS h2).2.2.2;omega
 clear h2;simp only[a0f]at g;go_wp2_with fail;refine(ae f).mono ?_;rintro e x2 ⟨N,rfl,r2⟩;have n:=af (a0b ((ae m).1.trans N.ku) ((ae m).2.keep1 N r2));clear N r2 m f;have f:=af (bX b q2 16 s x2 (ae n).2.1 (ae Q).1 (by omega));rcases B:rdN (aE s) (8*s.size) q2 16 with _|⟨c,q3⟩
 .
  rw[B]at f;unfold iW at f;have o:Hid (d=none):=by show d=none;rw[←ae g,B];rfl
  clear B g;go_wp2_with fail;refine(ae f).mono ?_;rintro e x3 ⟨O,rfl⟩;refine⟨rfl,?_⟩;unfold cW;rw[ae o];exact⟨(ae n).1.trans O.ku,rfl⟩
 rw[B]at f g;unfold iW at f;simp only[a0f]at g;go_wp2_with fail;refine(ae f).mono ?_;rintro e x3 ⟨O,rfl,r3⟩;have v:=af (a0b ((ae n).1.trans O.ku) ((ae n).2.keep1 O r3));clear O r3 n f;have U:bits .xor .i64 (a:Int) 65535=((65535-a:Nat):Int):=by
  rw[←Ms a ha];exact mj a 65535 (by omega) (by omega)
 by_cases r:c=65535-a
 .
  rw[a0d r]at g;have hb:((c:Int) == bits .xor .i64 (a:Int) 65535)=true:=by rw[U,r];exact beq_self_eq_true _
  clear B U r;go_wp2_with fail;refine(df _).mono ?_;rintro e x4 ⟨rfl,t⟩;rw[t];clear t x4 hb;go_wp2_with fail
  go_loopw [14] (fun i wr=>∃(k q:Nat) (R:List UInt8),k<=a/\i = .int .i64 k/\KU b w wr/\Sou wr b s q R/\R.length<=300/\iY (aE s) (8*s.size) (a-k) q R=d) (fun i _=>a-(intOf i).toNat)
  case atStart=>exact⟨0,q3,T,a0g _,rfl,(ae v).1,(ae v).2,(ae Q).2,ae g⟩
  case round=>
   obtain⟨k,q,R,hk,rfl,J,A,hR,hg⟩:=hrel;clear v g;have u:=af J;have x:=af A;have j:=af hg;have HR:=af hR;clear J A hg hR hk;by_cases Z:k<a
   .
    have K:(k:Int)<(a:Int):=by omega
    have e1:a-k=(a-(k+1))+1:=by omega
    have f:=af (bX b q 8 s wr (ae x).1 (ae Q).1 (by omega));rw[e1]at j;simp only[iY]at j;clear e1;rcases H:rdN (aE s) (8*s.size) q 8 with _|⟨y,q4⟩
    .
     rw[H]at f j;unfold iW at f;have o:Hid (d=none):=by show d=none;rw[←ae j];rfl
     clear H j;go_wp2_with fail;refine(ae f).mono ?_;rintro e x5 ⟨P,rfl⟩;refine⟨rfl,?_⟩;unfold cW;rw[ae o];exact⟨(ae u).trans P.ku,rfl⟩
    rw[H]at f j;unfold iW at f;have hy:y<256:=by have:=(bS H).2.2.2;omega
    have hu:IntKind.u8.wrap (y:Int)=(y:Int):=Mj (by omega) (by omega);have Y:isB (((y:Nat):Int),0,0)=true:=by unfold isB inB;simp;omega
    have L:okT (((y:Nat):Int),0,0)=true:=by unfold okT;rw[Y];rfl
    have E:=af (ly Y);clear H Y;simp only[a0f]at j;go_wp2_with fail;refine(ae f).mono ?_;rintro e x5 ⟨P,rfl,r5⟩;have l:=af ((ae u).trans P.ku);have z:=af ((ae x).keep1 P r5);clear P r5 f u x;have W:=af (EW b q4 s R (((y:Nat):Int),0,0) x5 (ae z) (ae HR) L);rw[ae E]at W;clear L E;go_wp2_with fail;refine(ae W).mono ?_;intro e x6 I;unfold cW at I;rcases S:eu R (((y:Nat):Int),0,0)with _|R'
    .
     rw[S]at I j;obtain⟨V,rfl⟩:=I;have o:Hid (d=none):=by show d=none;rw[←ae j];rfl
     refine⟨rfl,?_⟩;unfold cW;rw[ae o];exact⟨(ae l).trans V,rfl⟩
    rw[S]at I j;obtain⟨V,rfl,s6⟩:=I;simp only[a0f]at j;have X:=af (oG S);have C:=af ((ae l).trans V);have D:=af s6;clear V s6 S l z W HR;go_wp2_with fail;go_roundw
    case rel=>exact⟨k+1,q4,R',Z,by go_num,ae C,ae D,ae X,ae j⟩
    case measure=>simp[intOf];omega
   .
    have K:¬ (k:Int)<(a:Int):=by omega
    have e0:a-k=0:=by omega
    rw[e0]at j;simp only[iY]at j;go_wp2
    go_end0
    unfold cW;rw[←ae j];exact⟨ae u,rfl,ae x⟩
 .
  rw[a0e r]at g;have hb:((c:Int) == bits .xor .i64 (a:Int) 65535)=false:=by rw[U,a04];omega
  have o:Hid (d=none):=by show d=none;rw[←ae g]
  clear g U r B;go_wp2_with fail;refine(eZ _).mono ?_;rintro e x4 ⟨rfl,t⟩;rw[t];clear t x4;refine⟨rfl,?_⟩;unfold cW;rw[ae o];exact⟨(ae v).1,rfl⟩
def rx(V sz:Nat)(L D:List Int)(k:Int)(q:Nat)(R:List UInt8):Option (List UInt8×Nat):=
 if k=256 then some (R,q)else(oneG V sz D k q).bind fun t=>(eu R t.1).bind fun T'=>lx V sz L D t.2 T'
theorem wT: lx V sz L D p T=(dec L V sz p).bind fun k=>rx V sz L D k.1 k.2 T:=by
 rcases h:dec L V sz p with _|⟨i,q⟩
 . rw[It h];rfl
 .
  simp only[a0f];unfold rx;by_cases a:i=256
  . subst a;rw[BG h,a0d rfl]
  . rw[wU h a,a0e a]
theorem GX{k:Int}{R:List UInt8}(b:k≠256)(h:okG (oneG V sz D k q)=none):rx V sz L D k q R=none:=by
 unfold rx;rw[a0e b];unfold okG at h;rcases a:oneG V sz D k q with _|⟨t,r⟩
 . rfl
 .
  rw[a]at h;simp only[a0f]at h ⊢
  split at h
  . cases h
  . rw[IV (Bool.eq_false_iff.2 (by assumption))];rfl
theorem DW{k:Int}{r:Nat}{t:Tk}{R:List UInt8}(b:k≠256)(h:okG (oneG V sz D k q)=some (t,r)):oneG V sz D k q=some (t,r)/\okT t=true/\rx V sz L D k q R=(eu R t).bind fun T'=>lx V sz L D r T':=by
 unfold okG at h;rcases a:oneG V sz D k q with _|⟨t',c⟩
 . rw[a]at h;cases h
 .
  rw[a]at h;simp only[a0f]at h
  split at h
  . simp only[a0k,a0W]at h;obtain⟨rfl,rfl⟩:=h;refine⟨rfl,by assumption,?_⟩;unfold rx;rw[a0e b,a];rfl
  . cases h
theorem Iv(b p base:Nat)(k:Int)(L D:List Int)(C:Array Value)(s:ByteArray)(w:World)(g:Rdr w b s p)(i:0<=k)(q:k<=1000)(l:k≠256)(c:dI w base L D C)(d:b<base)(f:av D=true)(o:s.size<=2000000) :
  Calls prog 256 #[.pointer (some ⟨b,0,none⟩),.int .i64 k,.agg C] w (TkP w b s (okG (oneG (aE s) (8*s.size) D k p))):=by
 obtain⟨n,rfl⟩:=a0n i;by_cases h:n<256
 .
  have j:isB (((n:Nat):Int),0,0)=true:=by unfold isB inB;simp;omega
  have a:okT (((n:Nat):Int),0,0)=true:=by unfold okT;rw[j];rfl
  have e:okG (oneG (aE s) (8*s.size) D (n:Int) p)=some ((((n:Nat):Int),0,0),p):=by
   unfold oneG okG;rw[a0d (by omega)];simp only[a0f];rw[a0d a]
  rw[e];exact Ek b p n C s w g h
 .
  obtain⟨m,rfl⟩:∃m,n=m+257:=⟨n-257,by omega⟩;have e:oneG (aE s) (8*s.size) D ((m+257:Nat):Int) p=lS (aE s) (8*s.size) D m p:=by
   unfold oneG;rw[a0e (by omega)];rw[show(((m+257:Nat):Int).toNat-257)=m by omega]
  rw[e];exact El b p m base L D C s w g (by omega) c d f o
def ot(b:Nat)(w:World):Nat:=match w.cell? ⟨b,1,none⟩with
 | some v=>(intOf v).toNat
 | none=>0
theorem Sou.place(h:Sou w b s p T)(c:p<=8*s.size):ot b w=p:=by
 have a:=(h.1.at c).2.1;unfold ot;rw[a];simp[intOf]
theorem rL(h:w.heap[g]?=some (Obj.cells C t)):w.rangeAt g 0 C.toList:=by
 intro j v a;rw[a0H,br h];simpa using a
theorem KU.books(h:KU b w w')(a:w.heap[g]?=some (Obj.cells C 164))(e:g≠b):w'.heap[g]?=some (Obj.cells C 164):=by
 have d:g<w.heap.size:=by
  rcases a1l g w.heap.size with c|c
  . exact c
  . rw[Array.getElem?_eq_none c]at a;cases a
 rw[h.2 g d e (by intro i fr f;rw[a]at f;simp at f)];exact a
def TkI(b g base:Nat)(s:ByteArray)(L D:List Int)(C:Array Value)(d:Option (List UInt8×Nat))(w:World)(i:Value)(wr:World):Prop:=
 ∃(k:Int) (q:Nat) (R:List UInt8),i = .int .i64 k/\0<=k/\k<=1000/\KU b w wr/\Sou wr b s q R/\R.length<=300/\q<=8*s.size/\wr.heap[g]?=some (Obj.cells C 164)/\dI wr base L D C/\rx (aE s) (8*s.size) L D k q R=d
theorem u9(b p base:Nat)(s:ByteArray)(L D:List Int)(C:Array Value)(T:List UInt8)(w:World)(h:Sou w b s p T)(hT:T.length<=300)(hp:p<=8*s.size)(hs:s.size<=2000000)(X:dI w base L D C)(Z:b<base)(hL:av L=true)(hD:av D=true) :
  Calls prog 243 #[.pointer (some ⟨b,0,none⟩),.agg C] w (cW w b s (lx (aE s) (8*s.size) L D p T)):=by
 obtain⟨d,hd⟩:∃d,lx (aE s) (8*s.size) L D p T=d:=⟨_,rfl⟩;rw[hd];have hd:=wT.symm.trans hd;have a1:=h.lt;have A:w.heap.size≠b:=by omega
 have hA:Below w.heap.size w (w.alloc (.cells C 164)):=(a0c _ _).alloc (a0a _) _;have Y:=h.later hA;have V:=X.later hA;have x:KU b w (w.alloc (.cells C 164)):=(KU.refl b w).later hA a1;have v:=alloc_at w (.cells C 164);have m:=af (a0b hs (a0b Z (a0b hL hD)));have HT:=af hT;have P:=af (jc hL);obtain⟨j,C2,rfl,b1,b2⟩:=X;have z:=b1.size;have ab:=b2.size;have M:=af (a0b z (show(j++C2).size=38 by rw[a2n,z,ab]));have F:Hid (∀W:World,W.heap[w.heap.size]?=some (Obj.cells (j++C2) 164)->W.rangeAt w.heap.size 0 j.toList):=fun W h=>(ii h z).1;have O:Hid (∀W,dI W base L D (j++C2)->bE W base L j):=by
  intro W hW;obtain⟨E1,E2,e,f1,f2⟩:=hW;have:=f1.size;have e1:j=E1:=by
   have E:=congrArg Array.toList e;simp only[a1k]at E;have h2:=a2N E (by simp[z,this]);exact Array.ext' h2.1
  rw[e1];exact f1
 clear b1 b2 h Z hL hD hT z ab hs;generalize hC:j++C2=C at *
 go_enter func243,ntmps243;have f:=af (a0b x (a0b Y (a0b V v)));clear x Y V v hA;have c:=af (uh b p base j L s (w.alloc (.cells C 164)) (ae O _ (ae f).2.2.1) (ae m).2.1 (ae m).2.2.1 (ae m).1 (ae f).2.1.1 hp);clear hp;unfold SyP at c;rcases E:dec L (aE s) (8*s.size) p with _|⟨k,q⟩
 .
  rw[E]at c hd;have H:Hid (d=none):=by show d=none;rw[←hd];rfl
  clear E hd;go_wp2_with (refine bi rfl 159 (.tmp 6) rfl w.heap.size 0 rfl j _ (ae F _ (ae f).2.2.2) a2e rfl (by rw[(ae M).1];exact Tryz.infoLitB) ?_);refine(ae c).mono ?_;rintro e x1 ⟨B,rfl⟩;refine⟨rfl,?_⟩;unfold cW;rw[ae H];exact⟨(ae f).1.trans B.ku,rfl⟩
 rw[E]at c hd;have hb:=gJ E;clear E;simp only[a0f]at hd;go_wp2_with (refine bi rfl 159 (.tmp 6) rfl w.heap.size 0 rfl j _ (ae F _ (ae f).2.2.2) a2e rfl (by rw[(ae M).1];exact Tryz.infoLitB) ?_);refine(ae c).mono ?_;rintro e x1 ⟨B,rfl,r1⟩;have HI:Hid (TkI b w.heap.size base s L D C d w (.int .i64 k) x1):=
  ⟨k,q,T,rfl,hb.2.2.1,by have:=ae P;omega,(ae f).1.trans B.ku,(ae f).2.1.keep1 B r1,ae HT,hb.1,B.ku.books (ae f).2.2.2 A,(ae f).2.2.1.keep1 B (ae m).2.1,hd⟩
 clear B r1 c hb hd f HT;go_wp2_with fail
 go_loopw [4] (fun i wr=>TkI b w.heap.size base s L D C d w i wr) (fun _ wr=>8*s.size-ot b wr)
 case atStart=>exact ae HI
 case round=>
  obtain⟨k,q,R,rfl,k0,B,x,y,hR,hq,v,aa,hn⟩:=hrel;clear HI;have f:=af (a0b x (a0b y (a0b hR (a0b hq (a0b v aa)))));have a:=af hn;have ad:=af (y.place hq);clear x y hR hq v aa hn;by_cases hk:k=256
  .
   subst hk;go_wp2
   go_end0
   unfold cW;rw[←ae a];unfold rx;rw[a0d rfl];exact⟨(ae f).1,rfl,(ae f).2.1⟩
  have a2:(k == 256)=false:=by rw[a04];exact hk
  have n:=af (Iv b q base k L D C s wr (ae f).2.1.1 k0 B hk (ae f).2.2.2.2.2 (ae m).2.1 (ae m).2.2.2 (ae m).1);have G:=af (rL (ae f).2.2.2.2.1);unfold TkP at n;rcases h2:okG (oneG (aE s) (8*s.size) D k q)with _|⟨t,r⟩
  .
   rw[h2]at n;have H:Hid (d=none):=by show d=none;rw[←ae a];exact GX hk h2
   clear h2;go_wp2_with (refine bi rfl 164 (.tmp 3) rfl w.heap.size 0 rfl C _ (ae G) a3c rfl (by rw[(ae M).2];exact Tryz.infoBooks) ?_);refine(ae n).mono ?_;rintro e x2 ⟨J,rfl⟩;refine⟨rfl,?_⟩;unfold cW;rw[ae H];exact⟨(ae f).1.trans J.ku,rfl⟩
  rw[h2]at n;obtain⟨n1,n2,n3⟩:=DW (L:=L) (R:=R) hk h2;have Q:=af (sA n1 (ae f).2.2.2.1);rw[n3]at a;have a0:=af n2;clear h2 n1 n2 n3;go_wp2_with (refine bi rfl 164 (.tmp 3) rfl w.heap.size 0 rfl C _ (ae G) a3c rfl (by rw[(ae M).2];exact Tryz.infoBooks) ?_);refine(ae n).mono ?_;rintro e x2 ⟨J,rfl,r2⟩;have o:=af (a0b ((ae f).1.trans J.ku) (a0b ((ae f).2.1.keep1 J r2) (a0b (J.ku.books (ae f).2.2.2.2.1 A) ((ae f).2.2.2.2.2.keep1 J (ae m).2.1))));have ao:=af (a0b (ae f).2.2.1 (ae f).2.2.2.1);clear J r2 n f G;have l:=af (EW b r s R t x2 (ae o).2.1 (ae ao).1 (ae a0));generalize ft t=tv at *
  unfold cW at l;rcases S:eu R t with _|R'
  .
   rw[S]at l a;have H:Hid (d=none):=by show d=none;rw[←ae a];rfl
   clear S;go_wp2_with fail;refine(ae l).mono ?_;rintro e x3 ⟨N,rfl⟩;refine⟨rfl,?_⟩;unfold cW;rw[ae H];exact⟨(ae o).1.trans N,rfl⟩
  rw[S]at l a;have an:=af (oG S);clear S;simp only[a0f]at a;rw[wT]at a;go_wp2_with fail;refine(ae l).mono ?_;rintro e x3 ⟨N,rfl,s3⟩;have g:=af (a0b ((ae o).1.trans N) (a0b s3 (a0b (N.books (ae o).2.2.1 A) ((ae o).2.2.2.ku N (ae m).2.1))));clear N s3 l o;have c:=af (uh b r base j L s x3 (ae O _ (ae g).2.2.2) (ae m).2.1 (ae m).2.2.1 (ae m).1 (ae g).2.1.1 (ae Q).1);have u:=af (ae F _ (ae g).2.2.1);unfold SyP at c;rcases U:dec L (aE s) (8*s.size) r with _|⟨k',q'⟩
  .
   rw[U]at c a;have H:Hid (d=none):=by show d=none;rw[←ae a];rfl
   clear U;go_wp2_with (refine bi rfl 159 (.tmp 12) rfl w.heap.size 0 rfl j _ (ae u) a2e rfl (by rw[(ae M).1];exact Tryz.infoLitB) ?_);refine(ae c).mono ?_;rintro e x4 ⟨K,rfl⟩;refine⟨rfl,?_⟩;unfold cW;rw[ae H];exact⟨(ae g).1.trans K.ku,rfl⟩
  rw[U]at c a;have hb:=gJ U;clear U;simp only[a0f]at a;go_wp2_with (refine bi rfl 159 (.tmp 12) rfl w.heap.size 0 rfl j _ (ae u) a2e rfl (by rw[(ae M).1];exact Tryz.infoLitB) ?_);refine(ae c).mono ?_;rintro e x4 ⟨K,rfl,r4⟩;have I:=(ae g).2.1.keep1 K r4;have ac:=af (I.place hb.1);have HI:Hid (TkI b w.heap.size base s L D C d w (.int .i64 k') x4):=
   ⟨k',q',R',rfl,hb.2.2.1,by have:=ae P;omega,(ae g).1.trans K.ku,I,ae an,hb.1,K.ku.books (ae g).2.2.1 A,(ae g).2.2.2.keep1 K (ae m).2.1,ae a⟩
  have Hm:Hid (q<q'/\q'<=8*s.size):=⟨by have:=ae Q;omega,hb.1⟩;clear K r4 I hb c u g;go_wp2_with fail;go_roundw
  case rel=>exact ae HI
  case measure=>rw[ae ac,ae ad];have:=ae Hm;omega
theorem cJ.below{B:Nat}(h:cJ w)(hb:Below B w w')(a:1<B):cJ w':=
 ⟨fun j v b=>(hb.cell (p:=⟨1,0+j,none⟩) a).trans (h.1 j v b),a0h h.2 hb.size⟩
theorem cJ.cell(h:cJ w)(a:k<19):w.cell? ⟨1,k,none⟩=some (.int .i64 (bB.getD k 0:Nat)):=by
 have:=h.1 k (.int .i64 (bB.getD k 0:Nat)) (by rw[Array.getElem?_toList];exact AQ k a);rwa[a0H]at this
theorem KZ{m:Nat}(h:k<m)(b:m<=19):(bB.take m).drop k=bB.getD k 0 :: (bB.take m).drop (k+1):=by
 have a:k<(bB.take m).length:=by rw[a0z];have:bB.length=19:=rfl;omega
 rw[List.drop_eq_getElem_cons a]
 congr 1
 have h2:k<bB.length:=by have:bB.length=19:=rfl;omega
 simp[List.getD,h2]
def LbP(w:World)(b:Nat)(s:ByteArray)(d:Option (List Int×Nat))(e:Ending)(w':World):Prop:=
 aG b w w'/\match d with
  | none=>e=jO
  | some (l,q)=>(∃C,e = .returned (.agg C)/\bE w' w.heap.size l C)/\Rdr w' b s q
theorem aG.set(h:aG b w x)(d:w.heap.size<=g)(hb:b<w.heap.size)(u:Value):aG b w (x.setCell ⟨g,o,none⟩ u):=
 ⟨ai h.1 (by omega) u,fun j a c=>(a0K _ _ _ j (by show j≠g;omega)).trans (h.2 j a c),fun j a=>⟨by rw[World.cell?_setCell_other _ _ _ _ (by simp only[ne_eq,a0D];omega)];exact(h.3 j a).1,by simpa using(h.3 j a).2⟩⟩
theorem aG.setCells(h:aG b w x)(i:w.heap.size<=g)(hb:b<w.heap.size)(o:Nat)(us:List Value):aG b w (x.setCells g o us):=by
 have e:∀j,j≠g->(x.setCells g o us).heap[j]?=x.heap[j]?:=fun j c=>fD _ _ _ _ j c;refine⟨below_setCells (by omega) _ _ _ h.1,fun j c d=>(e j (by omega)).trans (h.2 j c d),fun j c=>?_⟩;have f:=e b (by omega);exact⟨(World.cell?_of_block (w:=x) f (a:=⟨b,j,none⟩)).trans (h.3 j c).1,by rw[World.frozen?_setCells];exact(h.3 j c).2⟩
theorem Rdr.set(h:Rdr x b s p)(a:g≠b)(u:Value):Rdr (x.setCell ⟨g,o,none⟩ u) b s p:=by
 obtain⟨c0,c1,c2,g0,g1,g2,hb⟩:=h;exact⟨by rw[World.cell?_setCell_other _ _ _ _ (by simp only[ne_eq,a0D];omega)];exact c0,by rw[World.cell?_setCell_other _ _ _ _ (by simp only[ne_eq,a0D];omega)];exact c1,by rw[World.cell?_setCell_other _ _ _ _ (by simp only[ne_eq,a0D];omega)];exact c2,by simpa using g0,by simpa using g1,by simpa using g2,by simpa using hb⟩
theorem BF(h:w.there g 0 n)(i:aG b w w')(e:g<w.heap.size)(c:g≠b):w'.there g 0 n:=fun j f=>by
 obtain⟨t1,t2⟩:=h j f;have d:=i.2 g e c;exact⟨by rw[World.cell?_of_block (w:=w) d (a:=⟨g,0+j,none⟩)];exact t1,by rw[World.frozen?_of_block (w:=w) d (a:=⟨g,0+j,none⟩)];exact t2⟩
theorem al.keep1'{base:Nat}(h:al w base v l)(a:aG b w w')(hb:b<base):al w' base v l:=a.own h hb
def LbI(b gL many:Nat)(s:ByteArray)(d:Option (List Int×Nat))(w:World)(i:Value)(wr:World):Prop:=
 ∃(k q:Nat) (l:List Int),i = .int .i64 k/\k<=many/\aG b w wr/\Rdr wr b s q/\q<=8*s.size/\al wr (w.heap.size+1) (.slice (some ⟨gL,0,none⟩) 19 19) l/\l.length=19/\wr.there w.heap.size 0 19/\cJ wr/\w.heap.size<wr.heap.size/\lbG (aE s) (8*s.size) ((bB.take many).drop k) q l=d
theorem yw(b p many:Nat)(s:ByteArray)(w:World)(h:Rdr w b s p)(hp:p<=8*s.size)(hs:s.size<=2000000)(hm:many<=19)(D:cJ w)(hb:1<b) :
  Calls prog 245 #[.pointer (some ⟨b,0,none⟩),.int .i64 (many:Nat)] w (LbP w b s (jS (aE s) (8*s.size) many p)):=by
 have an:prog.follows .mixedOrders=true:=by kernel_rfl
 obtain⟨i0,hi,ao,a0,a1⟩:=a0r Tryz.infoInt;obtain⟨d,hd⟩:∃d,lbG (aE s) (8*s.size) (bB.take many) p (List.replicate 19 0)=d:=⟨_,rfl⟩;unfold jS;rw[hd];have f:=h.lt;have a6:(many:Int)<=19:=by omega
 obtain⟨W0,hW0⟩:∃W,w.alloc (.cells pT 238)=W:=⟨_,rfl⟩;have S0:W0.heap.size=w.heap.size+1:=by rw[←hW0];exact dD _ _
 have B0:Below w.heap.size w W0:=by rw[←hW0];exact(a0c _ _).alloc (a0a _) _
 have T0:W0.there w.heap.size 0 19:=by rw[←hW0];exact gW w pT _ _ rfl
 have c:=af (a0b h (a0b hp (a0b D (a0b B0 (a0b T0 S0)))));have y:=af (a0b hs (a0b hm (a0b hb f)));have HD:=af hd;have E0:=af hW0;unfold pT at E0;clear h hp hs hm D hb f hd hW0 B0 T0 S0;go_enter func245,ntmps245;go_wp2_with (at_make;refine a1K _ rfl _ _ 97 rfl (w.heap.size+1) 3 i0 (.int .i64 0) 1 a0G hi ao a0 .i64 .i64 _ _ 19 rfl rfl rfl rfl (by rw[a1];omega) (by unfold maxLen;omega) (by simp) ?_;intro w1 n m);rw[ae E0]at n m;rw[(ae c).2.2.2.2.2]at n;have Z:al w1 (w.heap.size+1) (.slice (some ⟨w.heap.size+1,0,none⟩) 19 19) (List.replicate 19 0):=dy n;have A:Below (w.heap.size+1) W0 w1:=(a0c _ _).grown m (by rw[(ae c).2.2.2.2.2];exact a0a _) (fun k h=>by cases h);clear n m hi ao a0 a1 E0;have HI:Hid (LbI b (w.heap.size+1) many s d w (.int .i64 (0:Nat)) w1):=by
  obtain⟨h,hp,D,B0,T0,S0⟩:=ae c;have f:=(ae y).2.2.2;have bb:Below w.heap.size w w1:=B0.trans (A.mono (a07 _));refine⟨0,p,List.replicate 19 0,rfl,a0g _,(aG.refl b w).later bb f,h.kept (bb.mono f),hp,Z,by simp,?_,D.later bb,by have:=A.size;omega,ae HD⟩;intro j N;obtain⟨t1,t2⟩:=T0 j N;exact⟨by rw[A.cell (p:=⟨w.heap.size,0+j,none⟩) (a0s _)];exact t1,by rw[A.frozen (p:=⟨w.heap.size,0+j,none⟩) (a0s _)];exact t2⟩
 clear c HD Z A
 go_loopw [6,9] (fun _ i wr=>LbI b (w.heap.size+1) many s d w i wr) (fun _ i _=>many-(intOf i).toNat)
 case atStart=>exact ae HI
 case round=>
  obtain⟨k,q,l,rfl,hk,E,O,hq,ho,U,G,D,F,hd⟩:=hrel;clear HI;have a4:w.heap.size+1≠b:=by have:=(ae y).2.2.2;omega
  by_cases ad:k<many
  .
   have a3:(k:Int)<(many:Int):=by omega
   have H:k<19:=by have:=(ae y).2.1;omega
   have a5:=DX k H;rw[KZ ad (ae y).2.1]at hd;simp only[lbG]at hd;have Q:=af (bX b q 3 s wr.drew (show Rdr wr.drew b s q from O) (ae y).1 (by omega));have c:=af (a0b E (a0b O (a0b hq (a0b ho (a0b U (a0b G (a0b D F)))))));have J:Hid (∀W,aG b wr.drew W->W.cell? ⟨1,k,none⟩=some (.int .i64 (bB.getD k 0:Nat))):=fun W h=>(cJ.below (w:=wr.drew) (show cJ wr.drew from D) h.1 (ae y).2.2.1).cell H;have u:=af hd;clear E O hq ho U G D F hk hd;generalize bB.getD k 0=o at *
   have a7:(o:Int)<19:=by omega
   go_wp2_with fail;refine wp_region_held_drew (S:=fun W=>W.cell? ⟨1,k,none⟩=some (.int .i64 (o:Nat))) an (ae J _ (aG.refl _ _)) (fun T=>?_);refine ag 0 (.slice (some ⟨w.heap.size+1,0,none⟩) 19 19) rfl (by kernel_rfl) (fun _ _ _ h=>h) rfl (fun W z=>by go_simp) T ?_;refine ag 1 (.int .i64 (k:Nat)) rfl (by kernel_rfl) (fun _ _ _ h=>h) rfl (fun W z=>by go_simp) T ?_;refine ag 2 (.pointer (some ⟨1,k,none⟩)) rfl (by kernel_rfl) (fun _ _ _ h=>h) rfl (fun W z=>by go_simp<;>(intro h;omega)) T ?_;refine ag 3 (.int .i64 (o:Nat)) rfl (by kernel_rfl) (fun _ _ _ h=>h) rfl (fun W z=>by go_simp) T ?_;refine ag 4 (.pointer (some ⟨b,0,none⟩)) rfl (by kernel_rfl) (fun _ _ _ h=>h) rfl (fun W z=>by go_simp) T ?_;refine aj 5 (by kernel_rfl) rfl fun K Y=>?_;go_simp;go_at_call 216;unfold iW at Q;rcases h1:rdN (aE s) (8*s.size) q 3 with _|⟨x,q1⟩
   .
    rw[h1]at Q u;have Hn:Hid (d=none):=by show d=none;rw[←ae u];rfl
    refine(ae Q).mono ?_;rintro e x1 ⟨P,rfl⟩;refine⟨rfl,?_⟩;unfold LbP;rw[ae Hn];exact⟨(ae c).1.trans ((aG.refl b wr).drew.trans P),rfl⟩
   .
    rw[h1]at Q u;simp only[a0f]at u;have a2:=af (bS h1);clear h1;refine(ae Q).mono ?_;rintro e x1 ⟨P,rfl,r1⟩;refine Shut.out Y _ _ (ae J _ P) (fun M=>?_);clear Y K;have t:aG b wr x1:=(aG.refl b wr).drew.trans P;have f:=(ae y).2.2.2;have o1:=(ae c).2.2.2.1.keep1' t (by omega);obtain⟨c1,f1,_,_⟩:=o1.at (ae c).2.2.2.2.1 a5;refine wpAnyH_take (i:=6) (v:=.pointer (some ⟨w.heap.size+1,o,none⟩)) rfl (by kernel_rfl) (by kernel_rfl) (by kernel_rfl) (fun _ _ _ h=>h) (a0x ⟨by rfl,fun W z=>by go_simp<;>(intro h;omega)⟩) M ?_;refine aj 7 (by kernel_rfl) rfl fun K Y=>?_;go_simp;have ab:w.heap.size<wr.heap.size:=(ae c).2.2.2.2.2.2.2;have th1:=BF (ae c).2.2.2.2.2.1 t ab (by omega);have HI:Hid (LbI b (w.heap.size+1) many s d w (.int .i64 (k+1:Nat)) (x1.setCell ⟨w.heap.size+1,o,none⟩ (.int .i64 (x:Nat)))):=by
     refine⟨k+1,q1,l.set o (x:Nat),rfl,ad,((ae c).1.trans t).set (by omega) f _,r1.set a4 _,(ae a2).1,o1.put (ae c).2.2.2.2.1 _,by rw[a1w];exact(ae c).2.2.2.2.1,?_,?_,by simp;exact a0h ab t.1.size,ae u⟩
     . intro j N;obtain⟨t1,t2⟩:=th1 j N;exact⟨by rw[World.cell?_setCell_other _ _ _ _ (by simp)];exact t1,by simpa using t2⟩
     . exact((ae c).2.2.2.2.2.2.1.below t.1 (ae y).2.2.1).below (ai (a0c b x1) (by omega) _) (ae y).2.2.1
    have aa:(x1.setCell ⟨w.heap.size+1,o,none⟩ (.int .i64 (x:Nat))).cell? ⟨1,k,none⟩=some (.int .i64 (o:Nat)):=by
     rw[World.cell?_setCell_other _ _ _ _ (by simp only[ne_eq,a0D];have:=(ae y).2.2.1;omega)];exact M
    refine Shut.out Y _ _ aa (fun _=>?_);clear Y K;refine wpAnyH_done (by kernel_rfl) ?_ _;clear T M aa P t r1 o1 th1 J Q c c1 f1;generalize x1.setCell ⟨w.heap.size+1,o,none⟩ (.int .i64 (x:Nat))=x2 at *
    go_wp2_with fail;go_roundw
    case rel=>exact ae HI
    case measure=>simp[intOf];omega
  .
   have a3:¬ (k:Int)<(many:Int):=by omega
   have e0:(bB.take many).drop k=[]:=a3b (by rw[a0z];omega);rw[e0]at hd;simp only[lbG]at hd;have HE:=af hd;have f:=(ae y).2.2.2;have HJ:=af (dh U (ho.own U));have g:=af (GD _ 19 19 (w.heap.size+1) l wr U (ae HJ) (by omega) (by omega));have c:=af (a0b E (a0b O (a0b G F)));clear E O hq ho U G D F hk e0;cases r:av l
   . rw[r]at g;simp only[a1y,a1z]at g;have I:=af r;clear r hd;go_wp2_with fail;refine(ae g).mono ?_;rintro e x1 ⟨L,rfl⟩;refine⟨rfl,?_⟩;unfold LbP;rw[←ae HE];simp only[a0f];rw[ae I];exact⟨(ae c).1.later L (ae c).2.1.lt,rfl⟩
   .
    rw[r]at g;simp only[a0Z]at g;have I:=af r;clear r hd;go_wp2_with fail;refine(ae g).mono ?_;rintro e x1 ⟨L,C,rfl,R⟩;have X:Hid (x1.there w.heap.size 0 19):=fun j N=>by
     obtain⟨t1,t2⟩:=(ae c).2.2.1 j N;have f:=(ae c).2.2.2;exact⟨by rw[L.cell (p:=⟨w.heap.size,0+j,none⟩) f];exact t1,by rw[L.frozen (p:=⟨w.heap.size,0+j,none⟩) f];exact t2⟩
    have B:=af R.size;have V:=af R.one;have HY:=af (a0b ((ae c).1.later L (ae c).2.1.lt) (a0b ((ae c).2.1.kept (L.mono (ae c).2.1.lt)) R));clear L R g HJ c;go_wp2_with (refine wpList_store_mid rfl 238 (.tmp 4) (.tmp 21) rfl w.heap.size 0 C rfl rfl (by rw[ae B];exact ae X) (by rw[ae B];exact Tryz.infoLenB) (ae V) ?_);obtain⟨P,r1,R⟩:=ae HY;have O:=World.rangeAt_setCells_same x1 w.heap.size 0 C.toList (by rw[a1Z,ae B];exact ae X);have hk:∀j,j≠w.heap.size->(x1.setCells w.heap.size 0 C.toList).heap[j]?=x1.heap[j]?:=fun j N=>fD _ _ _ _ j N;have hz:(x1.setCells w.heap.size 0 C.toList).heap.size=x1.heap.size:=size_setCells _ _ _ _;refine a0u (fe rfl _ _ w.heap.size _ _ rfl O a27 rfl (by rw[a1Z,ae B];exact Tryz.infoLenB)) rfl ?_;unfold LbP;rw[←ae HE];simp only[a0f];rw[ae I];refine⟨P.setCells (a0a _) f _ _,⟨C,by simp,(R.touch hz hk (a0s _)).mono (a07 _)⟩,?_⟩;obtain⟨c0,c1,c2,g0,g1,g2,hb⟩:=r1;have ac:=hk b (by omega);have hc:∀j,(x1.setCells w.heap.size 0 C.toList).cell? ⟨b,j,none⟩=x1.cell? ⟨b,j,none⟩:=fun j=>World.cell?_of_block (w:=x1) ac (a:=⟨b,j,none⟩);have hf:∀j,(x1.setCells w.heap.size 0 C.toList).frozen? ⟨b,j,none⟩=x1.frozen? ⟨b,j,none⟩:=fun j=>World.frozen?_of_block (w:=x1) ac (a:=⟨b,j,none⟩);exact⟨(hc 0).trans c0,(hc 1).trans c1,(hc 2).trans c2,(hf 0).trans g0,(hf 1).trans g1,(hf 2).trans g2,by rw[hz];exact hb⟩
theorem Rdr.place(h:Rdr w b s p)(c:p<=8*s.size):ot b w=p:=by
 have a:=(h.at c).2.1;unfold ot;rw[a];simp[intOf]
theorem aG.book(h:aG b w w')(c:w.heap[g]?=some (Obj.cells C t))(e:g≠b):w'.heap[g]?=some (Obj.cells C t):=by
 have d:g<w.heap.size:=by
  rcases a1l g w.heap.size with a|a
  . exact a
  . rw[Array.getElem?_eq_none a]at c;cases c
 rw[h.2 g d e];exact c
theorem tK{base:Nat}{y:Int}(a:l.length=n)(h:x.ownsRow base 3 1 v (n+k) (l.map (Value.int .i64)++List.replicate k (.int .i64 y))):al x base v (l++List.replicate k y):=by
 show World.ownsRow _ _ _ _ _ (l++List.replicate k y).length _;rw[a0i,a0y,a,a0I,List.map_replicate];exact h
theorem Rdr.block(h:Rdr x b s p)(e:x'.heap[b]?=x.heap[b]?)(f:x.heap.size<=x'.heap.size):Rdr x' b s p:=by
 obtain⟨c0,c1,c2,g0,g1,g2,hb⟩:=h;have c:∀j,x'.cell? ⟨b,j,none⟩=x.cell? ⟨b,j,none⟩:=fun j=>World.cell?_of_block (w:=x) e (a:=⟨b,j,none⟩);have d:∀j,x'.frozen? ⟨b,j,none⟩=x.frozen? ⟨b,j,none⟩:=fun j=>World.frozen?_of_block (w:=x) e (a:=⟨b,j,none⟩);exact⟨(c 0).trans c0,(c 1).trans c1,(c 2).trans c2,(d 0).trans g0,(d 1).trans g1,(d 2).trans g2,by omega⟩
theorem zN{xs:List Value}(g:aG b w x)(l:x.ownsRow (w.heap.size+1) t 1 v n xs)(i:x.grownBy x' v.ownBlock)(hb:b<w.heap.size) :
  aG b w x'/\∀j,j<=w.heap.size->j<x.heap.size->x'.heap[j]?=x.heap[j]?:=by
 have d:∀j,j<=w.heap.size->some j≠v.ownBlock:=fun j c e=>by
  have:=(a0E l j e.symm).1;omega
 have m:=g.1.size;have f:=i.block b (by omega) (d b (by omega));refine⟨⟨g.1.grown i (by omega) (fun k h=>by have:=(a0E l k h).1;omega),fun j c h=>(i.block j (by omega) (d j (by omega))).trans (g.2 j c h),fun j c=>⟨(World.cell?_of_block (w:=x) f (a:=⟨b,j,none⟩)).trans (g.3 j c).1,(World.frozen?_of_block (w:=x) f (a:=⟨b,j,none⟩)).trans (g.3 j c).2⟩⟩,fun j c h=>i.block j h (d j c)⟩
def LnP(w:World)(b:Nat)(s:ByteArray)(d:Option (List Int×Nat))(e:Ending)(w':World):Prop:=
 aG b w w'/\match d with
  | none=>e=jO
  | some (l,q)=>(∃v,e = .returned v/\al w' w.heap.size v l)/\Rdr w' b s q
def LnI(b many:Nat)(s:ByteArray)(B:List Int)(C:Array Value)(d:Option (List Int×Nat))(w:World)(v:Value)(wr:World):Prop:=
 ∃(q:Nat) (A:List Int),al wr (w.heap.size+1) v A/\A.length<=600/\aG b w wr/\Rdr wr b s q/\q<=8*s.size/\wr.heap[w.heap.size]?=some (Obj.cells C 238)/\w.heap.size<wr.heap.size/\lnG (aE s) (8*s.size) B many q A=d
def LnS(b:Nat)(s:ByteArray)(C:Array Value)(w x:World)(v:Value)(A:List Int)(q:Nat):Prop:=
 al x (w.heap.size+1) v A/\aG b w x/\Rdr x b s q/\q<=8*s.size/\x.heap[w.heap.size]?=some (Obj.cells C 238)/\w.heap.size<x.heap.size
theorem LnS.keep{c:Nat}(h:LnS b s C w x v A q)(hb:b<w.heap.size)(a:aG b x x')(g:Rdr x' b s c)(hq:c<=8*s.size):LnS b s C w x' v A c:=by
 obtain⟨d,h2,i,j,e,f⟩:=h;exact⟨d.keep1' a (by omega),h2.trans a,g,hq,a.book e (by omega),a0h f a.1.size⟩
theorem LnS.below(h:LnS b s C w x v A q)(hb:b<w.heap.size)(a:Below x.heap.size x x'):LnS b s C w x' v A q:=by
 have h2:=h.2.2.1.lt;exact h.keep hb ((aG.refl b x).later a h2) (h.2.2.1.kept (a.mono h2)) h.2.2.2.1
theorem LnS.grown{v':Value}{A':List Int}(h:LnS b s C w x v A q)(hb:b<w.heap.size)(a:x.grownBy x' v.ownBlock)(i:al x' (w.heap.size+1) v' A'):LnS b s C w x' v' A' q:=by
 obtain⟨e,h2,c,f,g,d⟩:=h;obtain⟨g1,g2⟩:=zN h2 e a hb;exact⟨i,g1,c.block (g2 b (by omega) c.lt) a.size,f,(g2 _ (a0a _) d).trans g,a0h d a.size⟩
theorem LnS.done{many:Nat}{B:List Int}{d:Option (List Int×Nat)}(h:LnS b s C w x v A q)(a:A.length<=600)(hd:lnG (aE s) (8*s.size) B many q A=d):LnI b many s B C d w v x:=
 ⟨q,A,h.1,a,h.2.1,h.2.2.1,h.2.2.2.1,h.2.2.2.2.1,h.2.2.2.2.2,hd⟩
theorem yx(b p many base:Nat)(s:ByteArray)(B:List Int)(C:Array Value)(w:World)(h:Rdr w b s p)(hp:p<=8*s.size)(hs:s.size<=2000000)(hm:many<=400)(hB:bE w base B C)(a9:b<base)(b1:av B=true) :
  Calls prog 244 #[.pointer (some ⟨b,0,none⟩),.int .i64 (many:Nat),.agg C] w (LnP w b s (lnG (aE s) (8*s.size) B many p [])):=by
 have bl:prog.follows .mixedOrders=true:=by kernel_rfl
 obtain⟨i0,hi,a3,a4,a5⟩:=a0r Tryz.infoInt;obtain⟨d,hd⟩:∃d,lnG (aE s) (8*s.size) B many p []=d:=⟨_,rfl⟩;rw[hd];have a2:=h.lt;have cu:(many:Int)<=400:=by omega
 have HI:Hid (LnI b many s B C d w (.slice none 0 0) (w.alloc (.cells C 238))):=
  ⟨p,[],al.nil _ _,by simp,(aG.refl b w).alloc a2 _,h.alloc _,hp,alloc_at _ _,by simp,hd⟩
 have N:=af (a0b hs (a0b a9 (a0b b1 a2)));have HZ:=af hB.size;have b2:Hid (∀W,aG b w W->bE W base B C):=fun W hW=>hB.keep1 hW a9;clear h hp hs hm hB a9 b1 hd a2;go_enter func244,ntmps244;go_wp2_with fail
 go_loopw [7,8] (fun v _ wr=>LnI b many s B C d w v wr) (fun _ _ wr=>8*s.size-ot b wr)
 case atStart=>exact ae HI
 case round=>
  obtain⟨q,A,ho,hA,a1,hr,hq,a0,bc,hd⟩:=hrel;clear HI;obtain⟨n,hn⟩:∃n,A.length=n:=⟨_,rfl⟩;obtain⟨a,cap,rfl⟩:=ho.formN hn;have a2:=(ae N).2.2.2;have cg:w.heap.size≠b:=by omega
  have ac:=af (hr.place hq);have HX:=af (a0b ho (a0b a1 (a0b hr (a0b hq (a0b a0 bc)))));have c5:(n:Int)<=600:=by omega
  have F:=af hn;by_cases c6:n<many
  .
   have b0:(n:Int)<(many:Int):=by omega
   rw[Aw hq (by omega)]at hd;have T:=af (Dz b q base C B s wr (ae b2 _ a1) (ae N).2.1 (ae N).2.2.1 (ae N).1 hr hq);have a6:=af (rL a0);clear ho a1 hr hq a0 bc hn hA;unfold SyP at T;rcases h1:dec B (aE s) (8*s.size) q with _|⟨k,Q⟩
   .
    rw[h1]at T hd;have Hn:Hid (d=none):=by show d=none;rw[←hd];rfl
    clear h1 hd;go_wp2_with (refine bi rfl 238 (.tmp 5) rfl w.heap.size 0 rfl C _ (ae a6) a27 rfl (by rw[ae HZ];exact Tryz.infoLenB) ?_);refine(ae T).mono ?_;rintro e x1 ⟨k1,rfl⟩;refine⟨rfl,?_⟩;unfold LnP;rw[ae Hn];exact⟨(ae HX).2.1.trans k1,rfl⟩
   rw[h1]at T hd;have a8:=gJ h1;simp only[a0f]at hd;clear h1;have l:=af hd;clear hd;go_wp2_with (refine bi rfl 238 (.tmp 5) rfl w.heap.size 0 rfl C _ (ae a6) a27 rfl (by rw[ae HZ];exact Tryz.infoLenB) ?_);refine(ae T).mono ?_;rintro e x1 ⟨k1,rfl,r1⟩;have o1:=(ae HX).1.keep1' k1 (by omega);have HY:=af (a0b o1 (a0b ((ae HX).2.1.trans k1) (a0b r1 (a0b a8.1 (a0b (k1.book (ae HX).2.2.2.2.1 cg) (a0h (ae HX).2.2.2.2.2 k1.1.size))))));have Hq:=af a8.2.1;have I:Hid (LnS b s C w x1 (.slice a n cap) A Q):=ae HY;clear k1 r1 o1 HX a6 T a8 HY;have aa:=af ((ae I).1.own (ae F));have ba:w.heap.size+1<=x1.heap.size:=(ae I).2.2.2.2.2;have cy:n<400:=by omega
   by_cases o:k=16
   .
    have a7:(k == 16)=true:=by rw[o];rfl
    by_cases bb:n=0
    .
     have cc:decide (0<n)=false:=a0v (by omega);have Hn:Hid (d=none):=by show d=none;rw[←ae l,o];unfold ig;rw[a0d rfl,a0d (by rw[ae F];exact bb)];rfl
     clear bb o;go_wp2_with fail;refine(eZ _).mono ?_;rintro e x2 ⟨rfl,D⟩;rw[D];clear D x2;refine⟨rfl,?_⟩;unfold LnP;rw[ae Hn];exact⟨(ae I).2.1,rfl⟩
    .
     have cc:decide (0<n)=true:=a0F (by omega);obtain⟨g,rfl⟩:=(ae I).1.somes (by rw[ae F];omega);have H:Hid (ig (aE s) (8*s.size) A k Q=(rdN (aE s) (8*s.size) Q 2).bind fun x=>some (A++List.replicate (3+x.1) (A.getD (n-1) 0),x.2)):=by
      show _=_;rw[o];unfold ig;rw[a0d rfl,a0e (by rw[ae F];exact bb),ae F]
     rw[ae H]at l;obtain⟨m,hm⟩:∃m,n-1=m:=⟨_,rfl⟩;have cv:(n:Int)-1=(m:Int):=by omega
     have bs:m+1=n:=by omega
     rw[hm]at l;have an:=af bs;have b4:Hid (IntKind.i64.wrap (m:Int)=(m:Int)):=by show _=_;rw[a1e];omega
     clear H o hm bs;go_wp2_with fail;refine(df _).mono ?_;rintro e x2 ⟨rfl,D⟩;rw[D];clear D x2;go_wp2_with fail;have E:=af (bX b Q 2 s x1.drew (show Rdr x1.drew b s Q from(ae I).2.2.1) (ae N).1 (by omega));have co:n<=cap:=by
      have:=(ae aa);rcases this.2 with⟨e,_⟩|⟨g',ch,cr,e,_,_,h1,_⟩
      . cases e
      . simp only[a0J]at e;omega
     refine wp_region_held_drew (S:=fun _=>True) bl trivial (fun hS=>?_);refine ag 0 (.slice (some ⟨g,0,none⟩) n cap) rfl (by kernel_rfl) (fun _ _ _ h=>h) rfl (fun W P=>by go_simp) hS ?_;refine ag 1 (.slice (some ⟨g,0,none⟩) n cap) rfl (by kernel_rfl) (fun _ _ _ h=>h) rfl (fun W P=>by go_simp) hS ?_;refine ag 2 (.slice (some ⟨g,0,none⟩) n cap) rfl (by kernel_rfl) (fun _ _ _ h=>h) rfl (fun W P=>by go_simp) hS ?_;refine ag 3 (.int .i64 (n:Nat)) rfl (by kernel_rfl) (fun _ _ _ h=>h) rfl (fun W P=>by go_simp) hS ?_;refine ag 4 (.int .i64 (m:Nat)) rfl (by kernel_rfl) (fun _ _ _ h=>h) rfl (fun W P=>by go_simp;exact ae b4) hS ?_;refine ag 6 (.pointer (some ⟨b,0,none⟩)) rfl (by kernel_rfl) (fun _ _ _ h=>h) rfl (fun W P=>by go_simp) hS ?_;refine ag 5 (.slice (some ⟨g,m,none⟩) 1 (cap-m)) rfl (by kernel_rfl) (fun _ _ _ h=>h) rfl (fun W P=>by go_simp;rw[a0d (by have:=ae an;omega),a0e (by have:=ae an;omega),show n-m=1 by have:=ae an;omega]) hS ?_;refine aj 7 (by kernel_rfl) rfl fun K V=>?_;go_simp;go_at_call 216;unfold iW at E;rcases h2:rdN (aE s) (8*s.size) Q 2 with _|⟨y,q2⟩
     .
      rw[h2]at E l;have Hn:Hid (d=none):=by show d=none;rw[←ae l];rfl
      refine(ae E).mono ?_;rintro e x2 ⟨R,rfl⟩;refine⟨rfl,?_⟩;unfold LnP;rw[ae Hn];exact⟨(ae I).2.1.trans ((aG.refl b x1).drew.trans R),rfl⟩
     rw[h2]at E l;simp only[a0f]at l;have J:=af (bS h2);have hy:y<4:=by have:=(bS h2).2.2.2;omega
     clear h2;refine(ae E).mono ?_;rintro e x2 ⟨R,rfl,r2⟩;refine Shut.out V _ _ trivial (fun M=>?_);clear V K;have r:=af ((ae I).keep (ae N).2.2.2 ((aG.refl b x1).drew.trans R) r2 (ae J).1);clear R r2 E;obtain⟨c,hc⟩:∃c,3+y=c:=⟨_,rfl⟩;have b5:Hid (IntKind.i64.wrap (3+(y:Int))=(c:Int)):=by show _=_;rw[a1e];omega
     have cs:(c:Int)<=7:=by omega
     have ca:1<=c:=by omega
     rw[hc]at l;clear hc;refine wpAnyH_take (i:=8) (v:=.int .i64 (c:Nat)) rfl (by kernel_rfl) (by kernel_rfl) (by kernel_rfl) (fun _ _ _ h=>h) (a0x ⟨by rfl,fun W P=>by go_simp;exact ae b5⟩) M ?_;refine aj 9 (by kernel_rfl) rfl fun K V=>?_;go_simp;go_at_call 65;have Y:x2.cell? ⟨g,m,none⟩=some (.int .i64 (A.getD m 0)):=((ae r).1.at (ae F) (by have:=ae an;omega)).1;refine(ou (A.getD m 0) c (cap-m) g m x2 Y ca (by omega)).mono ?_;rintro e x3 ⟨rfl,o3,b3⟩;have ad:=af ((ae r).below (ae N).2.2.2 b3);have be:=af o3;generalize A.getD m 0=z at *
     refine Shut.out V _ _ trivial (fun t=>?_);clear V K o3 b3 Y;refine aj 10 (by kernel_rfl) rfl fun K V=>?_;refine aX rfl _ _ 97 rfl (w.heap.size+1) 3 i0 (.int .i64 0) 1 8 a0G hi a3 a4 a5 rfl (by decide) (.slice (some ⟨g,0,none⟩) n cap) n _ rfl ((ae ad).1.own (ae F)) ⟨x2.heap.size,0,none⟩ c c ((List.replicate c z).map (Value.int .i64)) rfl (by simp) (a1V ((ae be).own (n:=c) (by simp)) rfl) (by intro u hu;simp only[a2J]at hu;obtain⟨_,_,rfl⟩:=hu;rfl) (by unfold maxLen;omega) (by omega) (by have:=(ae ad).2.2.2.2.2;omega) (fun v' x4 j f Z=>?_);clear Z;rw[List.map_replicate]at j;have ao:=(ae ad).grown (ae N).2.2.2 f (tK (ae F) j);have HI:=af (ao.done (B:=B) (many:=many) (d:=d) (by rw[a0i,ae F,a0y];omega) (ae l));have O:=af (ao.2.2.1.place ao.2.2.2.1);clear j f ao;refine Shut.out V _ _ trivial (fun b8=>?_);clear V K;refine aj 11 (by kernel_rfl) rfl fun K V=>?_;go_simp;refine Shut.out V _ _ trivial (fun b9=>?_);clear V K;refine wpAnyH_done (by kernel_rfl) ?_ _;clear I r ad be aa hS M t b8 b9;go_wp2_with fail;go_roundw
     case rel=>exact ae HI
     case measure=>rw[ae O,ae ac];have:=ae Hq;have:=ae J;omega
   .
    by_cases L:k=17
    .
     have bk:(k == 17)=true:=by rw[L];rfl
     have a7:(k == 16)=false:=by rw[a04];exact o
     have E:=af (bX b Q 3 s x1 (ae I).2.2.1 (ae N).1 (by omega));have H:Hid (ig (aE s) (8*s.size) A k Q=(rdN (aE s) (8*s.size) Q 3).bind fun x=>some (A++List.replicate (3+x.1) 0,x.2)):=by
      show _=_;rw[L];unfold ig;rw[a0e (by decide),a0d rfl]
     rw[ae H]at l;clear o L H;unfold iW at E;rcases h2:rdN (aE s) (8*s.size) Q 3 with _|⟨y,q2⟩
     .
      rw[h2]at E l;have Hn:Hid (d=none):=by show d=none;rw[←ae l];rfl
      clear h2 l;go_wp2_with fail;refine(ae E).mono ?_;rintro e x2 ⟨R,rfl⟩;refine⟨rfl,?_⟩;unfold LnP;rw[ae Hn];exact⟨(ae I).2.1.trans R,rfl⟩
     .
      rw[h2]at E l;simp only[a0f]at l;have G:=bS h2;have hy:y<8:=by have:=G.2.2.2;omega
      have J:=af (a0b G.1 G.2.1);clear h2 G;go_wp2_with fail;refine(ae E).mono ?_;rintro e x2 ⟨R,rfl,r2⟩;have r:=af ((ae I).keep (ae N).2.2.2 R r2 (ae J).1);have ab:=af ((ae r).1.own (ae F));have X:w.heap.size+1<=x2.heap.size:=(ae r).2.2.2.2.2;have bd:Hid (n+(3+y)<=maxLen/\(n+(3+y))*8<=140737488355328):=by show _/\_;unfold maxLen;omega
      clear R r2 E I aa ba;go_wp2_with (at_builtin;refine iL _ rfl _ _ 97 3 rfl (w.heap.size+1) 3 i0 (.int .i64 0) 8 .i64 .i64 a0G a19 hi a3 a4 a5 rfl rfl (.slice a n cap) n _ rfl (ae ab) (3+y) (by simp[Act.eval]) (by omega) (ae bd).1 (ae bd).2 X ?_;intro v' x3 j f);have t:=(ae r).grown (ae N).2.2.2 f (tK (ae F) j);have HI:=af (t.done (B:=B) (many:=many) (d:=d) (by rw[a0i,ae F,a0y];omega) (ae l));have O:=af (t.2.2.1.place t.2.2.2.1);clear j f t;go_wp2_with fail;go_roundw
      case rel=>exact ae HI
      case measure=>rw[ae O,ae ac];have:=ae Hq;have:=ae J;omega
    .
     by_cases U:k=18
     .
      have bk:(k == 18)=true:=by rw[U];rfl
      have a7:(k == 16)=false:=by rw[a04];exact o
      have b6:(k == 17)=false:=by rw[a04];exact L
      have E:=af (bX b Q 7 s x1 (ae I).2.2.1 (ae N).1 (by omega));have H:Hid (ig (aE s) (8*s.size) A k Q=(rdN (aE s) (8*s.size) Q 7).bind fun x=>some (A++List.replicate (11+x.1) 0,x.2)):=by
       show _=_;rw[U];unfold ig;rw[a0e (by decide),a0e (by decide),a0d rfl]
      rw[ae H]at l;clear o L U H;unfold iW at E;rcases h2:rdN (aE s) (8*s.size) Q 7 with _|⟨y,q2⟩
      .
       rw[h2]at E l;have Hn:Hid (d=none):=by show d=none;rw[←ae l];rfl
       clear h2 l;go_wp2_with fail;refine(ae E).mono ?_;rintro e x2 ⟨R,rfl⟩;refine⟨rfl,?_⟩;unfold LnP;rw[ae Hn];exact⟨(ae I).2.1.trans R,rfl⟩
      .
       rw[h2]at E l;simp only[a0f]at l;have G:=bS h2;have hy:y<128:=by have:=G.2.2.2;omega
       have J:=af (a0b G.1 G.2.1);clear h2 G;go_wp2_with fail;refine(ae E).mono ?_;rintro e x2 ⟨R,rfl,r2⟩;have r:=af ((ae I).keep (ae N).2.2.2 R r2 (ae J).1);have ab:=af ((ae r).1.own (ae F));have X:w.heap.size+1<=x2.heap.size:=(ae r).2.2.2.2.2;have bd:Hid (n+(11+y)<=maxLen/\(n+(11+y))*8<=140737488355328):=by show _/\_;unfold maxLen;omega
       clear R r2 E I aa ba;go_wp2_with (at_builtin;refine iL _ rfl _ _ 97 3 rfl (w.heap.size+1) 3 i0 (.int .i64 0) 8 .i64 .i64 a0G a19 hi a3 a4 a5 rfl rfl (.slice a n cap) n _ rfl (ae ab) (11+y) (by simp[Act.eval]) (by omega) (ae bd).1 (ae bd).2 X ?_;intro v' x3 j f);have t:=(ae r).grown (ae N).2.2.2 f (tK (ae F) j);have HI:=af (t.done (B:=B) (many:=many) (d:=d) (by rw[a0i,ae F,a0y];omega) (ae l));have O:=af (t.2.2.1.place t.2.2.2.1);clear j f t;go_wp2_with fail;go_roundw
       case rel=>exact ae HI
       case measure=>rw[ae O,ae ac];have:=ae Hq;have:=ae J;omega
     .
      have a7:(k == 16)=false:=by rw[a04];exact o
      have b6:(k == 17)=false:=by rw[a04];exact L
      have cp:(k == 18)=false:=by rw[a04];exact U
      have bd:Hid (n+1<=maxLen/\(n+1)*8<=140737488355328):=by show _/\_;unfold maxLen;omega
      have HE:Hid (lnG (aE s) (8*s.size) B many Q (A++[k])=d):=by
       show _=d;rw[←ae l];unfold ig;rw[a0e o,a0e L,a0e U];rfl
      clear o L U l;go_wp2_with (at_builtin;refine a0B _ rfl _ _ 97 rfl (w.heap.size+1) 3 i0 (.int .i64 0) 1 8 a0G hi a3 a4 a5 rfl (by decide) (.slice a n cap) _ _ rfl (a0m (ae aa) _) ⟨x1.heap.size,0,none⟩ 1 1 [.int .i64 k] rfl rfl (dB _ _ rfl _ _) (ib _) (ae bd).1 (ae bd).2 (au ba _) ?_;intro v' x2 j f Z;clear Z);have M:=((ae I).below (ae N).2.2.2 ((a0c _ _).alloc (a0a _) (.cells #[.int .i64 k] 3))).grown (ae N).2.2.2 f (fR (ae F) j);have HI:=af (M.done (B:=B) (many:=many) (d:=d) (by rw[a0i,ae F,a1j];omega) (ae HE));have O:=af (M.2.2.1.place M.2.2.2.1);have HQ:=af M.2.2.2.1;clear j f M;go_wp2_with fail;go_roundw
      case rel=>exact ae HI
      case measure=>rw[ae O,ae ac];have:=ae Hq;have:=ae HQ;omega
  .
   have b0:¬ (n:Int)<(many:Int):=by omega
   rw[Ax hq (by omega)]at hd;have l:=af hd;clear ho a1 hr hq a0 bc hn hA hd;by_cases hE:n=many
   .
    have b7:((n:Int) == (many:Int))=true:=by rw[hE];exact beq_self_eq_true _
    rw[a0d (by rw[ae F];exact hE)]at l;clear hE;go_wp2_with fail;refine(df _).mono ?_;rintro e x2 ⟨rfl,D⟩;rw[D];clear D x2;go_wp2;go_ret;unfold LnP;rw[←ae l];exact⟨(ae HX).2.1,⟨_,rfl,(ae HX).1.mono (a07 _)⟩,(ae HX).2.2.1⟩
   .
    have b7:((n:Int) == (many:Int))=false:=by rw[a04];omega
    rw[a0e (by rw[ae F];exact hE)]at l;clear hE;go_wp2_with fail;refine(eZ _).mono ?_;rintro e x2 ⟨rfl,D⟩;rw[D];clear D x2;refine⟨rfl,?_⟩;unfold LnP;rw[←ae l];exact⟨(ae HX).2.1,rfl⟩
theorem M5:av (bQ 288)=true:=by kernel_rfl
theorem JG:av (List.replicate 32 (5:Int))=true:=by kernel_rfl
theorem eO.take{base:Nat}{a:Option Addr}(h:eO w base a l)(n:Nat):eO w base a (l.take n):=by
 have j:(l.take n).length<=l.length:=by rw[a0z];omega
 refine⟨fun b=>?_,fun b=>h.2 (by omega)⟩;obtain⟨g,o,e,d,c⟩:=h.1 (by omega);refine⟨g,o,e,d,fun i f=>?_⟩;rw[c i (by omega)];rw[a0z]at f;simp[List.getD,show i<n by omega]
theorem eO.drop{base:Nat}(h:eO w base (some ⟨g,o,none⟩) l)(n:Nat):eO w base (some ⟨g,o+n,none⟩) (l.drop n):=by
 have f:(l.drop n).length=l.length-n:=a1v ..;refine⟨fun a=>?_,fun a x e=>?_⟩
 . obtain⟨g',o',e,c,b⟩:=h.1 (by omega);simp only[a0k,a0D,a0P]at e;obtain⟨rfl,rfl⟩:=e;refine⟨g,o+n,rfl,c,fun i d=>?_⟩;have:=b (n+i) (by omega);rw[←a14]at this;rw[this];simp[List.getD,List.getElem?_drop]
 . have:=h.2 (by omega) _ rfl;simp only[a0k]at e;subst e;exact this
theorem vp(b p:Nat)(s:ByteArray)(T:List UInt8)(w:World)(h:Sou w b s p T)(o:T.length<=300)(r:p<=8*s.size)(t:s.size<=2000000) :
  Calls prog 214 #[.pointer (some ⟨b,0,none⟩)] w (cW w b s (Dc (aE s) (8*s.size) p T)):=by
 obtain⟨d,hd⟩:∃d,Dc (aE s) (8*s.size) p T=d:=⟨_,rfl⟩;rw[hd];have a:=af (a0b h (a0b o (a0b r t)));have k:=af hd;have j:=h.lt;clear h o r t hd;go_enter func214,ntmps214;go_wp2_with fail;refine(mb w).mono ?_;rintro e x1 ⟨⟨C,rfl,n⟩,i⟩;have g:=af (u9 b p (w.heap.size+1) s (bQ 288) (List.replicate 32 5) C T x1 ((ae a).1.later i) (ae a).2.1 (ae a).2.2.1 (ae a).2.2.2 n (by omega) M5 JG);have l:=af (show lx (aE s) (8*s.size) (bQ 288) (List.replicate 32 5) p T=d from ae k);rw[ae l]at g;have f:=af ((KU.refl b w).later i j);clear n i a k l;go_wp2_with fail;refine(ae g).mono ?_;intro e x2 h2;unfold cW at h2;rcases d with _|⟨T',q⟩
 . obtain⟨c,rfl⟩:=h2;refine⟨rfl,?_⟩;unfold cW;exact⟨(ae f).trans c,rfl⟩
 .
  obtain⟨c,rfl,s2⟩:=h2;have m:=af (a0b ((ae f).trans c) s2);clear c s2 g f;go_wp2
  go_end0
  unfold cW;exact⟨(ae m).1,rfl,(ae m).2⟩
theorem bE.second{base:Nat}{a b:Array Value}(h:dI w base L D (a++b))(d:a.size=19):bE w base D b:=by
 obtain⟨E1,E2,e,f1,f2⟩:=h;have c:=congrArg Array.toList e;simp only[a1k]at c;have h2:=a2N c (by simp[d,f1.size]);rw[Array.ext' h2.2];exact f2
theorem vf{P:Program}{ops:Array Oper}{S:World->Prop}{op:Oper}{a:Act}(d:Region.wanted op (yielded ops a.tmps)=true)(t:TypeId)(parts:Array (Nat×Operand))(c:op.op = .build t parts)(cells:Array Value)
  (b:P.built t (parts.map fun(i,x)=>(i,a.eval x)).toList=some cells):YieldsIf P ops S op (.agg cells) a:=
 a0x ⟨d,fun w _=>by unfold execOp;simp only[c,a2G,run_build w t _ cells b,Result.andThen_ok,a3s]⟩
theorem sg{P:Program}{ops:Array Oper}{S:World->Prop}{op:Oper}{a:Act}(d:Region.wanted op (yielded ops a.tmps)=true)(t:TypeId)(x y:Operand)(c:op.op = .build t #[(0,x),(1,y)])(cells:Array Value)(u v:Value)(f:a.eval x=u)(g:a.eval y=v)
  (b:P.built t [(0,u),(1,v)]=some cells):YieldsIf P ops S op (.agg cells) a:=by
 have e:((#[(0,x),(1,y)]:Array (Nat×Operand)).map fun(i,x)=>(i,a.eval x)).toList=[(0,u),(1,v)]:=by simp[f,g]
 exact vf d t _ c cells (by rw[e];exact b)
theorem AY(b p:Nat)(s:ByteArray)(T:List UInt8)(w:World)(h:Sou w b s p T)(hT:T.length<=300)(hs:s.size<=2000000)(hO:cJ w)(hb:1<b) :
  Calls prog 215 #[.pointer (some ⟨b,0,none⟩)] w (cW w b s (uC (aE s) (8*s.size) p T)):=by
 have bb:prog.follows .mixedOrders=true:=by kernel_rfl
 obtain⟨d,hd⟩:∃d,uC (aE s) (8*s.size) p T=d:=⟨_,rfl⟩;rw[hd];have f:=af hd;unfold uC at f;have y:=af (a0b hs (a0b hT (a0b hO hb)));have j:=af (bX b p 5 s w h.1 hs (by omega));have HS:=af h;clear h hT hs hO hb hd;go_enter func215,ntmps215;unfold iW at j;rcases h1:rdN (aE s) (8*s.size) p 5 with _|⟨a,q1⟩
 .
  rw[h1]at j f;have t:Hid (d=none):=by show d=none;rw[←ae f];rfl
  clear h1 f;go_wp2_with fail;refine(ae j).mono ?_;rintro e x1 ⟨k1,rfl⟩;refine⟨rfl,?_⟩;unfold cW;rw[ae t];exact⟨k1.ku,rfl⟩
 rw[h1]at j f;simp only[a0f]at f;have ha:a<32:=by have:=(bS h1).2.2.2;omega
 clear h1;go_wp2_with fail;refine(ae j).mono ?_;rintro e x1 ⟨k1,rfl,r1⟩;have M:=af k1;have a3:=af r1;clear k1 r1 j;have j:=af (bX b q1 5 s x1 (ae a3) (ae y).1 (by omega));unfold iW at j;rcases h2:rdN (aE s) (8*s.size) q1 5 with _|⟨c,q2⟩
 .
  rw[h2]at j f;have t:Hid (d=none):=by show d=none;rw[←ae f];rfl
  clear h2 f;go_wp2_with fail;refine(ae j).mono ?_;rintro e x2 ⟨k2,rfl⟩;refine⟨rfl,?_⟩;unfold cW;rw[ae t];exact⟨((ae M).trans k2).ku,rfl⟩
 rw[h2]at j f;simp only[a0f]at f;have hc:c<32:=by have:=(bS h2).2.2.2;omega
 clear h2;go_wp2_with fail;refine(ae j).mono ?_;rintro e x2 ⟨k2,rfl,r2⟩;have u:=af ((ae M).trans k2);have a4:=af r2;clear k2 r2 j M a3;have j:=af (bX b q2 4 s x2 (ae a4) (ae y).1 (by omega));unfold iW at j;by_cases hA:a+257<=286/\c+1<=30
 .
  rw[a0d hA]at f;have z:(a:Int)+256+1<=286:=by omega
  have bs:(c:Int)+1<=30:=by omega
  clear hA;obtain⟨nL,hnL⟩:∃n,a+257=n:=⟨_,rfl⟩;obtain⟨nD,hnD⟩:∃n,c+1=n:=⟨_,rfl⟩;have e1:(a:Int)+256+1=(nL:Int):=by omega
  have e2:(c:Int)+1=(nD:Int):=by omega
  have l1:nL<=286/\257<=nL:=by omega
  have l2:nD<=30/\1<=nD:=by omega
  have l1I:(nL:Int)<=286:=by omega
  have l2I:(nD:Int)<=30:=by omega
  rw[hnL,hnD]at f;clear hnL hnD;go_wp2_with fail;refine(df _).mono ?_;rintro e x3 ⟨rfl,k⟩;rw[k];clear k x3;clear e1 e2 z bs ha hc;rcases h3:rdN (aE s) (8*s.size) q2 4 with _|⟨m,q3⟩
  .
   rw[h3]at j f;have t:Hid (d=none):=by show d=none;rw[←ae f];rfl
   clear h3 f;go_wp2_with fail;refine(ae j).mono ?_;rintro e x3 ⟨k3,rfl⟩;refine⟨rfl,?_⟩;unfold cW;rw[ae t];exact⟨((ae u).trans k3).ku,rfl⟩
  rw[h3]at j f;simp only[a0f]at f;have b5:m<16:=by have:=(bS h3).2.2.2;omega
  have a6:=af (bS h3).1;obtain⟨mm,hmm⟩:∃n,m+4=n:=⟨_,rfl⟩;have e3:(m:Int)+4=(mm:Int):=by omega
  have ad:mm<=19:=by omega
  rw[hmm]at f;clear h3 hmm;go_wp2_with fail;refine(ae j).mono ?_;rintro e x3 ⟨k3,rfl,r3⟩;have x:=af ((ae u).trans k3);have Q:=af r3;clear k3 r3 j u a4;have HB:=af (yw b q3 mm s x3 (ae Q) (ae a6) (ae y).1 ad ((ae y).2.2.1.below (ae x).1 (ae y).2.2.2) (ae y).2.2.2);unfold LbP at HB;rcases h4:jS (aE s) (8*s.size) mm q3 with _|⟨B,q4⟩
  .
   rw[h4]at HB f;have t:Hid (d=none):=by show d=none;rw[←ae f];rfl
   clear h4 f;go_wp2_with fail;refine(ae HB).mono ?_;rintro e x4 ⟨k4,rfl⟩;refine⟨rfl,?_⟩;unfold cW;rw[ae t];exact⟨((ae x).trans k4).ku,rfl⟩
  rw[h4]at HB f;simp only[a0f]at f;have Y:=af (wt h4 (ae a6));clear h4;go_wp2_with fail;refine(ae HB).mono ?_;rintro e x4 ⟨k4,⟨C,rfl,a7⟩,r4⟩;have N:=af ((ae x).trans k4);have R:=af r4;have an:=af a7;have a9:b<x3.heap.size:=(ae Q).lt;clear k4 r4 HB x Q a7 e3;have P:=af (yx b q4 (nL+nD) x3.heap.size s B C x4 (ae R) (ae Y).1 (ae y).1 (by omega) (ae an) a9 (ae Y).2.2.1);have e5:((nL+nD:Nat):Int)=(nL:Int)+(nD:Int):=by omega
  rw[e5]at P;clear e5;unfold LnP at P;rcases h5:lnG (aE s) (8*s.size) B (nL+nD) q4 []with _|⟨A,q5⟩
  .
   rw[h5]at P f;have t:Hid (d=none):=by show d=none;rw[←ae f];rfl
   clear h5 f;go_wp2_with fail;refine(ae P).mono ?_;rintro e x5 ⟨k5,rfl⟩;refine⟨rfl,?_⟩;unfold cW;rw[ae t];exact⟨((ae N).trans k5).ku,rfl⟩
  rw[h5]at P f;simp only[a0f]at f;have a5:=af (Kr h5 (ae Y).1);clear h5;go_wp2_with fail;refine(ae P).mono ?_;rintro e x5 ⟨k5,⟨v,rfl,hv⟩,r5⟩;have D:A.length=nL+nD:=(ae a5).2.2;obtain⟨ga,cap,rfl⟩:=hv.formN D;obtain⟨g,rfl⟩:=hv.somes (by omega);have b4:nL+nD<=cap:=by
   rcases (hv.own D).2 with⟨e,_⟩|⟨g',b3,b8,e,_,_,h1,_⟩
   . cases e
   . simp only[a0J]at e;omega
  have O:=af ((ae N).trans k5);have U:=af ((ae HS).keep1 (ae O) r5);have be:=af (dh D (hv.own D));have ba:b<x4.heap.size:=(ae R).lt;have J:x4.heap.size<=x5.heap.size:=k5.1.size;clear k5 r5 P hv N R an;go_wp2_with fail;refine wp_region_held_drew (S:=fun _=>True) bb trivial (fun I=>?_);refine ag 0 (.pointer (some ⟨b,0,none⟩)) rfl (by kernel_rfl) (fun _ _ _ h=>h) rfl (fun W r=>by go_simp) I ?_;refine ag 1 (.slice (some ⟨g,0,none⟩) (nL+nD) cap) rfl (by kernel_rfl) (fun _ _ _ h=>h) rfl (fun W r=>by go_simp) I ?_;refine ag 2 (.int .i64 (nL:Nat)) rfl (by kernel_rfl) (fun _ _ _ h=>h) rfl (fun W r=>by go_simp) I ?_;refine ag 5 (.slice (some ⟨g,0,none⟩) (nL+nD) cap) rfl (by kernel_rfl) (fun _ _ _ h=>h) rfl (fun W r=>by go_simp) I ?_;refine ag 6 (.int .i64 (nL:Nat)) rfl (by kernel_rfl) (fun _ _ _ h=>h) rfl (fun W r=>by go_simp) I ?_;refine ag 3 (.slice (some ⟨g,0,none⟩) nL cap) rfl (by kernel_rfl) (fun _ _ _ h=>h) rfl (fun W r=>by go_simp;intro h;omega) I ?_;refine ag 7 (.slice (some ⟨g,nL,none⟩) nD (cap-nL)) rfl (by kernel_rfl) (fun _ _ _ h=>h) rfl (fun W r=>by go_simp;rw[a0d (by omega),a0e (by omega)]) I ?_;have a0:Hid (eO x5.drew x4.heap.size (some ⟨g,0,none⟩) A):=(ae be).later (a0c _ _).drew;have tl:(A.take nL).length=nL:=by rw[a0z];omega
  have dl:(A.drop nL).length=nD:=by rw[a1v];omega
  have l:=af (GJ (some ⟨g,0,none⟩) cap nL x4.heap.size (A.take nL) x5.drew tl ((ae a0).take nL) J (by omega));refine aj 4 (by kernel_rfl) rfl fun K H=>?_;go_simp;go_at_call 246;unfold sT at f;cases ab:av (A.take nL)
  . rw[ab]at l f;simp only[a1y,a1z]at l f;refine(ae l).mono ?_;rintro e x6 ⟨Z,rfl⟩;refine⟨rfl,?_⟩;unfold cW;rw[←ae f];exact⟨((ae O).drew.ku).later Z (show b<x5.drew.heap.size from(ae U).lt),rfl⟩
  rw[ab]at l f;simp only[a0Z]at l f;refine(ae l).mono ?_;rintro e x6 ⟨Z,F,rfl,E⟩;have a1:=af (((ae O).drew.ku).later Z (show b<x5.drew.heap.size from(ae U).lt));have V:=af (Sou.later (w:=x5.drew) (show Sou x5.drew b s q5 T from ae U) Z);have L:=af E;have b2:x4.heap.size<=x6.heap.size:=a0L J Z.size;have bk:=af ((ae a0).later Z);refine Shut.out H _ _ trivial (fun b0=>?_);clear H K Z E l;have o:=af (CY (some ⟨g,nL,none⟩) (cap-nL) nD x4.heap.size (A.drop nL) x6 dl (by have:=(ae bk).drop nL;rwa[a0H]at this) b2 (by omega));refine aj 8 (by kernel_rfl) rfl fun K H=>?_;go_simp;go_at_call 247;cases ac:av (A.drop nL)
  . rw[ac]at o f;simp only[a1y,a1z]at o f;refine(ae o).mono ?_;rintro e x7 ⟨b7,rfl⟩;refine⟨rfl,?_⟩;unfold cW;rw[←ae f];exact⟨(ae a1).later b7 (ae V).lt,rfl⟩
  rw[ac]at o f;simp only[a0Z]at o f;refine(ae o).mono ?_;rintro e x7 ⟨b7,G,rfl,aa⟩;have a2:=af ((ae a1).later b7 (ae V).lt);have bl:=af ((ae V).later b7);have ao:Hid (dI x7 x4.heap.size (A.take nL) (A.drop nL) (F++G)):=⟨F,G,rfl,(ae L).later b7,aa⟩;have bc:=(ae L).later b7;refine Shut.out H _ _ trivial (fun a8=>?_);clear H K b7 aa o;have bd:Hid (prog.built 164 [(0,.agg F),(1,.agg G)]=some (F++G)):=by
   exact lW bc (bE.second (ae ao) (ae L).size)
  have X:=af (u9 b q5 x4.heap.size s (A.take nL) (A.drop nL) (F++G) T x7 (ae bl) (ae y).2.1 (ae a5).1 (ae y).1 (ae ao) ba ab ac);rw[ae f]at X;refine wpAnyH_take (i:=9) (v:=.agg (F++G)) rfl (by kernel_rfl) (by kernel_rfl) (by kernel_rfl) (fun _ _ _ h=>h) (sg (by rfl) 164 (.tmp 35) (.tmp 39) rfl (F++G) (.agg F) (.agg G) rfl rfl (ae bd)) a8 ?_;refine aj 10 (by kernel_rfl) rfl fun K H=>?_;go_simp;go_at_call 243;refine(ae X).mono ?_;intro e x8 h8;unfold cW at h8;rcases d with _|⟨T',q⟩
  . obtain⟨k8,rfl⟩:=h8;refine⟨rfl,?_⟩;unfold cW;exact⟨(ae a2).trans k8,rfl⟩
  .
   obtain⟨k8,rfl,s8⟩:=h8;have HY:=af (a0b ((ae a2).trans k8) s8);refine Shut.out H _ _ trivial (fun b1=>?_);clear H K k8 s8 X;refine wpAnyH_done (by kernel_rfl) ?_ _;clear I b0 a8 b1;go_wp2
   go_end0
   unfold cW;exact⟨(ae HY).1,rfl,(ae HY).2⟩
 .
  rw[a0e hA]at f;have t:Hid (d=none):=by show d=none;rw[←ae f]
  by_cases z:a+257<=286
  .
   have E:(a:Int)+256+1<=286:=by omega
   have aa:decide ((c:Int)+1<=30)=false:=a0v (by omega);clear hA z;go_wp2_with fail;refine(eZ _).mono ?_;rintro e x3 ⟨rfl,k⟩;rw[k];clear k x3;refine⟨rfl,?_⟩;unfold cW;rw[ae t];exact⟨(ae u).ku,rfl⟩
  . have E:decide ((a:Int)+256+1<=286)=false:=a0v (by omega);clear hA z;go_wp2_with fail;refine(eZ _).mono ?_;rintro e x3 ⟨rfl,k⟩;rw[k];clear k x3;refine⟨rfl,?_⟩;unfold cW;rw[ae t];exact⟨(ae u).ku,rfl⟩
theorem FO(R:List UInt8)(y:Nat)(b:y<256):eu R ((y:Nat),0,0)=if R.length+1<=300 then some (R++[lY (y:Nat)])else none:=by
 have a:isB (((y:Nat):Int),0,0)=true:=by unfold isB inB;simp;omega
 unfold eu Cl;rw[a];simp
def lbV(V:Nat):List Nat->Nat->List Int->List Int
 | [],_,l=>l
 | i :: is,p,l=>lbV V is (p+3) (l.set i ((V/2 ^ p%2 ^ 3:Nat):Int))
theorem Nq(V:Nat):∀(is:List Nat) (p:Nat) (l:List Int),(lbV V is p l).length=l.length:=by
 intro is;induction is with
 | nil=>intro p l;rfl
 | cons i is ih=>intro p l;simp only[lbV];rw[ih,a1w]
theorem PR: ∀(is:List Nat) (p:Nat) (l:List Int),p<=sz->lbG V sz is p l=if p+3*is.length<=sz then some (lbV V is p l,p+3*is.length)else none:=by
 intro is;induction is with
 | nil=>intro p l h;simp[lbG,lbV,h]
 | cons i is ih=>
  intro p l h;simp only[lbG,lbV,a0A];by_cases a:p+3<=sz
  . rw[nr a];simp only[a0f];rw[ih _ _ a,show p+3+3*is.length=p+3*(is.length+1) by omega]
  . rw[qD a,a0e (by omega)];rfl
def Ar(V sz p:Nat):Option (Nat×List Int×Nat):=
 (rdN V sz p 5).bind fun a=>(rdN V sz a.2 5).bind fun c=>if a.1+257<=286/\c.1+1<=30 then
  (rdN V sz c.2 4).bind fun m=>(jS V sz (m.1+4) m.2).bind fun B=>(lnG V sz B.1 (a.1+257+(c.1+1)) B.2 []).bind fun A=>
   if av (A.1.take (a.1+257))=true/\av (A.1.drop (a.1+257))=true then some (a.1+257,A.1,A.2)else none
  else none
theorem Ha: uC V sz p T=(Ar V sz p).bind fun x=>lx V sz (x.2.1.take x.1) (x.2.1.drop x.1) x.2.2 T:=by
 unfold uC Ar;rcases rdN V sz p 5 with _|⟨a,d⟩
 . rfl
 simp only[a0f];rcases rdN V sz d 5 with _|⟨c,e⟩
 . rfl
 simp only[a0f]
 split
 .
  rcases rdN V sz e 4 with _|⟨m,f⟩
  . rfl
  simp only[a0f];rcases jS V sz (m+4) f with _|⟨B,g⟩
  . rfl
  simp only[a0f];rcases lnG V sz B (a+257+(c+1)) g []with _|⟨A,i⟩
  . rfl
  simp only[a0f];unfold sT;by_cases b:av (A.take (a+257))=true
  .
   by_cases h2:av (A.drop (a+257))=true
   . rw[a0d b,a0d h2,a0d ⟨b,h2⟩];rfl
   . rw[a0d b,a0e h2,a0e (fun h=>h2 h.2)];rfl
  . rw[a0e b,a0e (fun h=>b h.1)];rfl
 . rfl
theorem Km{X1 X2 X3:Nat}(g:p<=sz)(d:V/2 ^ p%2 ^ 5=X1)(h2:V/2 ^ (p+5)%2 ^ 5=X2)(e:V/2 ^ (p+5+5)%2 ^ 4=X3)(f:lbV V (bB.take (X3+4)) (p+5+5+4) (List.replicate 19 0)=l) :
  Ar V sz p=if p+5+5+4+3*(X3+4)<=sz/\av l=true/\X1+257<=286/\X2+1<=30 then(lnG V sz l (X1+257+(X2+1)) (p+5+5+4+3*(X3+4)) []).bind fun A=>
   if av (A.1.take (X1+257))=true/\av (A.1.drop (X1+257))=true then some (X1+257,A.1,A.2)else none else none:=by
 have a:(bB.take (X3+4)).length=X3+4:=by rw[a0z];have:bB.length=19:=rfl;omega
 unfold Ar;by_cases c1:p+5<=sz
 .
  rw[nr c1];simp only[a0f];rw[d];by_cases c2:p+5+5<=sz
  .
   rw[nr c2];simp only[a0f];rw[h2];by_cases c:X1+257<=286/\X2+1<=30
   .
    rw[a0d c];by_cases c3:p+5+5+4<=sz
    .
     rw[nr c3];simp only[a0f];rw[e];unfold jS;rw[PR _ _ _ c3,a,f];by_cases c4:p+5+5+4+3*(X3+4)<=sz
     .
      rw[a0d c4];simp only[a0f];by_cases b:av l=true
      . rw[a0d b,a0d ⟨c4,b,c⟩];rfl
      . rw[a0e b,a0e (fun h=>b h.2.1)];rfl
     . rw[a0e c4,a0e (fun h=>c4 h.1)];rfl
    . rw[qD c3,a0e (by omega)];rfl
   . rw[a0e c,a0e (fun h=>c h.2.2)]
  . rw[qD c2,a0e (by omega)];rfl
 . rw[qD c1,a0e (by omega)];rfl
end Go.Proofs.YtgmfehnnebkaoaaGreatDoor
