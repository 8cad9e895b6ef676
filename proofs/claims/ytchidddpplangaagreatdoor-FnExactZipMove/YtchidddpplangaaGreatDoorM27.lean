/- Of what the proof is made: 18 texts, one behind the other. -/
import Derived.Test.YtchidddpplangaaGreatDoorM23
import Derived.Test.YtchidddpplangaaGreatDoorM19
import Derived.Test.YtchidddpplangaaGreatDoorM24
import Derived.Test.YtchidddpplangaaGreatDoorM25
import Derived.Test.YtchidddpplangaaGreatDoorTi1
import Derived.Test.YtchidddpplangaaGreatDoorM9
import Derived.Test.YtchidddpplangaaGreatDoorM16
import Derived.Test.YtchidddpplangaaGreatDoorM2
import Derived.Test.YtchidddpplangaaGreatDoorM13
import Derived.Test.YtchidddpplangaaGreatDoorM4
set_option maxRecDepth 100000
set_option linter.unusedSimpArgs false
set_option linter.unusedVariables false
set_option maxHeartbeats 6400000
namespace Go.Proofs.YtchidddpplangaaGreatDoor
open Go.Proofs.Tryz
open Go.RowKit Corb Bkx
set_option linter.defProp false
variable {b:Nat}{w w':World}
theorem av.drew(h:av b w w'):av b w w'.drew:=⟨h.1.drew,h.2,h.3⟩
theorem cx.keep1{base:Nat}{a:Option Addr}{l:List Int}(h:cx w base a l)(c:av b w w')(hb:b<base):cx w' base a l:=h.moved c.1.size (fun g e d _=>c.2 g d (by omega))
theorem bP.keep1{base:Nat}{l:List Int}{C:Array Value}(h:bP w base l C)(c:av b w w')(hb:b<base):bP w' base l C:=by
 obtain⟨a,cap,ac,d,q,sc,e,f,h2,g⟩:=h;exact⟨a,cap,ac,d,q,sc,e,f.keep1 c hb,h2.keep1 c hb,g.keep1 c hb⟩
def SyP(w:World)(b:Nat)(s:ByteArray)(d:Option (Int×Nat))(e:Ending)(w':World):Prop:=
 av b w w'/\match d with
  | none=>e=j6
  | some (i,q)=>e = .returned (.int .i64 i)/\Rdr w' b s q
def pT:Array Value:=#[Value.slice none 0 0,Value.slice none 0 0,Value.int .i64 0,Value.int .i64 0,Value.int .i64 0,Value.int .i64 0,Value.int .i64 0,Value.int .i64 0,Value.int .i64 0,Value.int .i64 0,Value.int .i64 0,Value.int .i64 0,Value.int .i64 0,Value.int .i64 0,Value.int .i64 0,Value.int .i64 0,Value.int .i64 0,Value.int .i64 0,Value.slice none 0 0]
theorem Tryz.infoLenB:(prog.info? 268).map (·.size)=some 19:=by kernel_rfl
theorem IW(B:BkI)(i:Bks B)(b p base:Nat)(C:Array Value)(l:List Int)(s:ByteArray)(w:World)(h:bP w base l C)(c:b<base)(d:au l=true)(n:s.size<=2000000)(m:Rdr w b s p)(k:p<=8*s.size) :
  Calls prog B.g #[.agg C,.pointer (some ⟨b,0,none⟩)] w (mQ w b s (dec l (aj s) (8*s.size) p)):=by
 obtain⟨a,cap,ac,o,q,sc,e,r,h2,f⟩:=h;exact Bkx.bookGet_any B i a q cap l.length _ sc b p _ C l s w e d rfl n m k (fun W j=>(f.keep1 j c).1)
theorem sP(B:BkI)(M:Bks B)(b p base:Nat)(C:Array Value)(l:List Int)(s:ByteArray)(w:World)(N:bP w base l C)(E:b<base)(H:au l=true)(Y:s.size<=2000000)(R:Rdr w b s p)(X:p<=8*s.size) :
  Calls prog B.s #[.pointer (some ⟨b,0,none⟩),.agg C] w (SyP w b s (dec l (aj s) (8*s.size) p)):=by
 have G:prog.follows .mixedOrders=true:=by kernel_rfl
 have O:=R.lt;have V:Below w.heap.size w (w.alloc (.cells C B.T)):=(a0c _ _).alloc (a0a _) _;have z:av b w (w.alloc (.cells C B.T)).drew:=((av.refl b w).alloc O _).drew;have I:Rdr (w.alloc (.cells C B.T)).drew b s p:=R.alloc _;have y:bP (w.alloc (.cells C B.T)).drew base l C:=N.later V.drew;have J:=N.size;have F:(prog.info? B.T).map (·.size)=some C.size:=by rw[J];exact M.info
 have r:(w.alloc (.cells C B.T)).rangeAt w.heap.size 0 C.toList:=by
  intro j v U;rw[a0G,bu (alloc_at w (.cells C B.T))];simpa using U
 have L:=ae (IW B M b p base C l s _ y E H Y I X);have o:=ae z;have Q:w.heap.size≠b:=by omega
 have a:Hid (∀W,av b (w.alloc (.cells C B.T)).drew W->W.rangeAt w.heap.size 0 C.toList):=by
  intro W hW j v U;rw[←r j v U];exact World.cell?_of_block (w:=w.alloc (.cells C B.T)) (hW.2 w.heap.size (by simp) Q)
 have A:(w.alloc (.cells C B.T)).drew.rangeAt w.heap.size 0 C.toList:=r;clear N H Y R X V z I y J r E;obtain⟨ds,D,P⟩:=M.und;rcases M with rfl|rfl|rfl;all_goals
  simp only[bkL,bkD,bkN]at F L o a A D ⊢;generalize dec l (aj s) (8*s.size) p=d at *
  unfold SyP;unfold mQ at L;rcases d with _|⟨i,q⟩;all_goals
   simp only at L ⊢
   (first|go_enter func245,ntmps245|go_enter func252,ntmps252|go_enter func247,ntmps247)
   go_wp2_with fail;refine wp_region_held_drew (S:=fun W=>W.rangeAt w.heap.size 0 C.toList) G A (fun x=>?_);refine wpAnyH_take (i:=0) (v:=.agg C) rfl (by kernel_rfl) (by kernel_rfl) (by kernel_rfl) (fun _ _ _ h=>h) (dk (by rfl) _ (.tmp 3) rfl w.heap.size 0 rfl C _ (fun _ h=>h) D P F) x ?_;refine af 1 (.pointer (some ⟨b,0,none⟩)) rfl (by kernel_rfl) (fun _ _ _ h=>h) rfl (fun W f=>by go_simp) x ?_;refine af 2 (.pointer (some ⟨b,0,none⟩)) rfl (by kernel_rfl) (fun _ _ _ h=>h) rfl (fun W f=>by go_simp) x ?_;refine af 3 (.pointer (some ⟨b,0,none⟩)) rfl (by kernel_rfl) (fun _ _ _ h=>h) rfl (fun W f=>by go_simp) x ?_;refine ag 4 (by kernel_rfl) rfl fun K g=>?_;go_simp
   (first|go_at_call 250|go_at_call 256|go_at_call 254)
   refine(ab L).mono ?_
  . rintro e x1 ⟨m,rfl⟩;have n:=ae ((ab o).trans m);refine Shut.out g _ _ (ab a _ m) (fun c=>?_);clear g K;refine wpAnyH_take (i:=5) (v:=.tuple #[.int .i64 0,.bool false]) rfl (by kernel_rfl) (by kernel_rfl) (by kernel_rfl) (fun _ _ _ h=>h) (a0A ⟨by rfl,fun W f=>by go_simp⟩) c ?_;refine wpAnyH_take (i:=6) (v:=.int .i64 0) rfl (by kernel_rfl) (by kernel_rfl) (by kernel_rfl) (fun _ _ _ h=>h) (a0A ⟨by rfl,fun W f=>by go_simp⟩) c ?_;refine wpAnyH_take (i:=7) (v:=.bool false) rfl (by kernel_rfl) (by kernel_rfl) (by kernel_rfl) (fun _ _ _ h=>h) (a0A ⟨by rfl,fun W f=>by go_simp⟩) c ?_;refine ag 8 (by kernel_rfl) rfl fun K g=>?_;go_simp;refine Shut.out g _ _ (ab a _ m) (fun t=>?_);clear g K;refine ag 9 (by kernel_rfl) rfl fun K g=>?_;go_simp;refine Shut.out g _ _ (ab a _ m) (fun u=>?_);clear g K;refine wpAnyH_done (by kernel_rfl) ?_ _;clear x c t u m a;go_wp2_with fail;refine(fx _).mono ?_;rintro e x2 ⟨rfl,k⟩;rw[k];clear k x2;exact⟨rfl,ab n,rfl⟩
  . rintro e x1 ⟨m,rfl,Z⟩;have n:=ae (a0b ((ab o).trans m) Z);refine Shut.out g _ _ (ab a _ m) (fun c=>?_);clear g K;refine wpAnyH_take (i:=5) (v:=.tuple #[.int .i64 i,.bool true]) rfl (by kernel_rfl) (by kernel_rfl) (by kernel_rfl) (fun _ _ _ h=>h) (a0A ⟨by rfl,fun W f=>by go_simp⟩) c ?_;refine wpAnyH_take (i:=6) (v:=.int .i64 i) rfl (by kernel_rfl) (by kernel_rfl) (by kernel_rfl) (fun _ _ _ h=>h) (a0A ⟨by rfl,fun W f=>by go_simp⟩) c ?_;refine wpAnyH_take (i:=7) (v:=.bool true) rfl (by kernel_rfl) (by kernel_rfl) (by kernel_rfl) (fun _ _ _ h=>h) (a0A ⟨by rfl,fun W f=>by go_simp⟩) c ?_;refine ag 8 (by kernel_rfl) rfl fun K g=>?_;go_simp;refine Shut.out g _ _ (ab a _ m) (fun t=>?_);clear g K;refine ag 9 (by kernel_rfl) rfl fun K g=>?_;go_simp;refine Shut.out g _ _ (ab a _ m) (fun u=>?_);clear g K;refine wpAnyH_done (by kernel_rfl) ?_ _;clear x c t u m a;clear Z;go_wp2_with fail;refine(dh _).mono ?_;rintro e x2 ⟨rfl,k⟩;rw[k];clear k x2;go_wp2;go_ret;exact⟨(ab n).1,rfl,(ab n).2⟩
theorem wZ(B:BkI)(A:Bks B)(a:Option Addr)(cap n base:Nat)(l:List Int)(w:World)(u:l.length=n)(h:cx w base a l)(Z:base<=w.heap.size)(hm:n<=1000) :
  Calls prog B.b #[.slice a n cap] w fun e w'=>Below w.heap.size w w'/\if au l=true then ∃C,e = .returned (.agg C)/\bP w' base l C else e=j6:=by
 obtain⟨W0,hW0⟩:∃W,w.alloc (.cells pT B.T)=W:=⟨_,rfl⟩;have S0:W0.heap.size=w.heap.size+1:=by rw[←hW0];exact dC _ _
 have I:Below w.heap.size w W0:=by rw[←hW0];exact(a0c _ _).alloc (a0a _) _
 have T0:Hid (W0.there w.heap.size 0 19):=by rw[←hW0];exact ij w pT _ _ rfl
 have r:aZ W0 a l:=(h.later I).1;have G:=ae (tw a cap n l W0 u r (by omega));have E0:=ae hW0;unfold pT at E0;have v:=ae I;have y:=ae S0;have Q:=ae h;have S:=ae u;clear hW0 S0 I;have m:=fun V=>Bkx.codeBook_any B A a cap n l W0 u r V;have s:=A.info;have K:=ae A.ne;obtain⟨Y,D,L⟩:=A.und;rcases A with rfl|rfl|rfl;all_goals
  simp only[bkL,bkD,bkN]at E0 s m D ⊢;cases c:au l
  .
   rw[c]at G;simp only[a01,a02];clear c
   (first|go_enter func241,ntmps241|go_enter func242,ntmps242|go_enter func248,ntmps248)
   go_wp2_with fail;rw[ab E0];refine(ab G).mono ?_;rintro e x1 ⟨rfl,d⟩;rw[d];clear d x1;go_wp2_with fail;refine(fx _).mono ?_;rintro e x2 ⟨rfl,f⟩;rw[f];clear f x2;exact⟨rfl,ab v,rfl⟩
  .
   rw[c]at G;simp only[a0X];have J:=ae (m (by have:=ce c;omega));clear c r h u m
   (first|go_enter func241,ntmps241|go_enter func242,ntmps242|go_enter func248,ntmps248)
   go_wp2_with fail;rw[ab E0];refine(ab G).mono ?_;rintro e x1 ⟨rfl,d⟩;rw[d];clear d x1;go_wp2_with fail;refine(dh _).mono ?_;rintro e x2 ⟨rfl,f⟩;rw[f];clear f x2;go_wp2_with fail;refine(ab J).mono ?_;rintro e x3 ⟨vs,C,rfl,t,H,h2,hb⟩;obtain⟨q,sc,rfl⟩:=h2.form;have F:C.size=19:=by rw[t];simp[cS]
   have k:C.all (·.oneCell')=true:=by rw[t];exact j4 rfl rfl rfl
   have z:Hid (x3.there w.heap.size 0 19):=fun j M=>by
    obtain⟨t1,t2⟩:=ab T0 j M;have E:w.heap.size<W0.heap.size:=by have:=ab y;omega
    exact⟨by rw[hb.cell (p:=⟨w.heap.size,0+j,none⟩) E];exact t1,by rw[hb.frozen (p:=⟨w.heap.size,0+j,none⟩) E];exact t2⟩
   have i:=ae F;have x:=ae k;have R:=ae (a0b t (a0b H (a0b h2 hb)));clear F k t H h2 hb;go_wp2_with (refine wpList_store_mid rfl _ (.tmp 2) (.tmp 7) rfl w.heap.size 0 C rfl rfl (by rw[ab i];exact ab z) (by rw[ab i];exact s) (ab x) ?_);obtain⟨t,H,h2,hb⟩:=ab R;have X:=World.rangeAt_setCells_same x3 w.heap.size 0 C.toList (by rw[a1W,ab i];exact ab z);have N:∀j,j≠w.heap.size->(x3.setCells w.heap.size 0 C.toList).heap[j]?=x3.heap[j]?:=fun j M=>fL _ _ _ _ j M;have P:(x3.setCells w.heap.size 0 C.toList).heap.size=x3.heap.size:=size_setCells _ _ _ _;have o:=ai (ab v) hb;have s0:=ab y;refine a0F (fy rfl _ _ w.heap.size _ _ rfl X D L (by rw[a1W,ab i];exact s)) rfl ⟨below_setCells (a0a _) _ _ _ o,C,by simp,?_⟩;have u:=ab S;subst u;have O:cx (x3.setCells w.heap.size 0 C.toList) base a l:=(ab Q).moved (by rw[P];exact o.size) (fun g _ U _=>(N g (by omega)).trans (o.block g U));exact⟨a,cap,_,_,q,sc,t,O,((bG (bC l 15) (H.own (bC l 15))).mono (b':=w.heap.size+1) (by omega)).touch P N (by omega) |>.mono (by omega),((bG rfl h2 (ab K)).mono (b':=w.heap.size+1) (by omega)).touch P N (by omega) |>.mono (by omega)⟩
def ue:=@sP bkL (.inl rfl)
def GE:=@wZ bkL (.inl rfl)
def zl:=@sP bkD (.inr (.inl rfl))
def CY:=@wZ bkD (.inr (.inl rfl))
def Dz:=@sP bkN (.inr (.inr rfl))
def Gy:=@wZ bkN (.inr (.inr rfl))
end Go.Proofs.YtchidddpplangaaGreatDoor
namespace Go.Proofs.YtchidddpplangaaGreatDoor
open Go.Proofs.Tryz
open Go.RowKit Corb
variable {A D L l:List Int}{B V b g k kk n o p q q' sz:Nat}{C:Array Value}{R T T':List UInt8}{a:Option Addr}{d:Option (List UInt8×Nat)}{f:Bool}{s:ByteArray}{t:TypeId}{v v':Value}{w w' w1 w2 x x':World}
def Sou(w:World)(b:Nat)(s:ByteArray)(p:Nat)(T:List UInt8):Prop:=
 Rdr w b s p/\∃v,w.cell? ⟨b,3,none⟩=some v/\w.frozen? ⟨b,3,none⟩=false/\aQ w (b+1) v T
theorem aQ.keep1{base:Nat}{l:List UInt8}(h:aQ w base v l)(a:av b w w')(hb:b<base):aQ w' base v l:=a.own h hb
theorem Sou.keep1(h:Sou w b s p T)(a:av b w w')(d:Rdr w' b s q):Sou w' b s q T:=by
 obtain⟨_,v,c,f,o⟩:=h;exact⟨d,v,(a.3 3 (a0a _)).1.trans c,(a.3 3 (a0a _)).2.trans f,o.keep1 a (a0i _)⟩
theorem Sou.lt(h:Sou w b s p T):b<w.heap.size:=h.1.lt
structure KU (b:Nat) (w w':World):Prop where
 below:Below b w w'
 keep:∀k,k<w.heap.size->k≠b->(∀cur fr,w.heap[k]?≠some (.cells cur 5 fr))->w'.heap[k]?=w.heap[k]?
theorem KU.refl(b:Nat)(w:World):KU b w w:=⟨a0c _ _,fun _ _ _ _=>rfl⟩
theorem KU.trans(h:KU b w w1)(k:KU b w1 w2):KU b w w2:=
 ⟨h.1.trans k.1,fun j c a d=>(k.2 j (a0m c h.1.size) a (by rw[h.2 j c a d];exact d)).trans (h.2 j c a d)⟩
theorem av.ku(h:av b w w'):KU b w w':=⟨h.1,fun j c a _=>h.2 j c a⟩
theorem KU.later(h:KU b w w1)(hb:Below w1.heap.size w1 w2)(a:b<w1.heap.size):KU b w w2:=
 ⟨h.1.trans (hb.mono (a0z a)),fun j d c e=>(hb.block j (a0m d h.1.size)).trans (h.2 j d c e)⟩
theorem Sou.later(h:Sou w b s p T)(hb:Below w.heap.size w w'):Sou w' b s p T:=by
 obtain⟨r,v,c,f,o⟩:=h;exact⟨r.kept (hb.mono r.lt),v,(hb.cell (p:=⟨b,3,none⟩) r.lt).trans c,(hb.frozen (p:=⟨b,3,none⟩) r.lt).trans f,o.later hb (a0a _)⟩
theorem cx.ku{base:Nat}(h:cx w base a l)(c:KU b w w')(hb:b<base):cx w' base a l:=h.moved c.1.size (fun g f d e=>c.2 g d (by omega) e)
theorem bP.ku{base:Nat}(h:bP w base l C)(c:KU b w w')(hb:b<base):bP w' base l C:=by
 obtain⟨a,cap,ac,d,q,sc,e,f,h2,g⟩:=h;exact⟨a,cap,ac,d,q,sc,e,f.ku c hb,h2.ku c hb,g.ku c hb⟩
theorem dL.ku{base:Nat}(h:dL w base L D C)(a:KU b w w')(hb:b<base):dL w' base L D C:=by
 obtain⟨c,d,e,f,h2⟩:=h;exact⟨c,d,e,f.ku a hb,h2.ku a hb⟩
theorem dL.keep1{base:Nat}(h:dL w base L D C)(a:av b w w')(hb:b<base):dL w' base L D C:=h.ku a.ku hb
theorem Ct{base:Nat}{l:List UInt8}(h:aQ w base v l)(hb:b<base)(u:Value):aQ (w.setCell ⟨b,o,none⟩ u) base v l:=by
 refine⟨h.1,?_⟩;rcases h.2 with e|⟨g,cap,a,rfl,c,d,rest⟩
 . exact .inl e
 . exact .inr ⟨g,cap,a,rfl,c,(a0O _ _ _ g (by show g≠b;omega)).trans d,rest⟩
def cW(w:World)(b:Nat)(s:ByteArray)(d:Option (List UInt8×Nat))(e:Ending)(w':World):Prop:=
 KU b w w'/\match d with
  | none=>e=j6
  | some (T,q)=>e = .returned (.tuple #[])/\Sou w' b s q T
theorem ES(b p:Nat)(s:ByteArray)(T:List UInt8)(t:Tk)(w:World)(h:Sou w b s p T)(C:T.length<=300)(z:okT t=true) :
  Calls prog 237 #[.pointer (some ⟨b,0,none⟩),fG t] w (cW w b s ((eT T t).map fun x=>(x,p))):=by
 have u:=h.lt;obtain⟨A,v,c3,f3,m⟩:=h;obtain⟨n,g⟩:∃n,T.length=n:=⟨_,rfl⟩;obtain⟨a,cap,rfl⟩:=m.formN g;have i:=ae (U.lzLay_any (b+1) n cap a T t w g m (by omega) u z);have E:=ae A;have D:=ae f3;unfold cW;rcases l:eT T t with _|T'
 .
  rw[l]at i;simp only[Option.map_none];clear l m C g z A f3;generalize fG t=tv at *
  go_enter func237,ntmps237;go_wp2_with fail;refine(ab i).mono ?_;rintro e x1 ⟨v1,rfl,o1,d⟩;simp only[Option.isSome_none];have o:Hid (KU b w x1):=⟨d.1.mono (a06 _),fun j r _ g=>d.2 j r g⟩;clear o1 d i;go_wp2_with fail;refine(fx _).mono ?_;rintro e x2 ⟨rfl,c⟩;rw[c];clear c x2;exact⟨rfl,ab o,rfl⟩
 .
  rw[l]at i;simp only[a3R];clear l m C g z A f3;generalize fG t=tv at *
  go_enter func237,ntmps237;go_wp2_with fail;refine(ab i).mono ?_;rintro e x1 ⟨v1,rfl,o1,d⟩;simp only[Option.isSome_some,a1x]at o1 ⊢;have o:Hid (KU b w x1):=⟨d.1.mono (a06 _),fun j r _ g=>d.2 j r g⟩;have k:=(ab E).kept d.1;have q:=(d.1.cell (p:=⟨b,3,none⟩) (a0i b)).trans c3;have f31:=(d.1.frozen (p:=⟨b,3,none⟩) (a0i b)).trans (ab D);obtain⟨a1,f,rfl⟩:=o1.form;have B:=ae (a0b k o1);clear o1 d i k;go_wp2_with fail;refine(dh _).mono ?_;rintro e x2 ⟨rfl,c⟩;rw[c];clear c x2;go_wp2
  go_end0
  have F:KU b w (x1.setCell ⟨b,3,none⟩ (.slice a1 T'.length f)):=(ab o).trans ⟨ah (a0c _ _) (a0a _) _,fun j _ y _=>a0O _ _ _ j y⟩;refine⟨F,rfl,?_,.slice a1 T'.length f,World.cell?_setCell_same _ _ _ q,by simpa using f31,?_⟩
  . obtain⟨c0,c1,c2,g0,g1,g2,hb⟩:=(ab B).1;exact⟨by rw[World.cell?_setCell_other _ _ _ _ (by simp)];exact c0,by rw[World.cell?_setCell_other _ _ _ _ (by simp)];exact c1,by rw[World.cell?_setCell_other _ _ _ _ (by simp)];exact c2,by simpa using g0,by simpa using g1,by simpa using g2,by simpa using hb⟩
  . exact Ct (ab B).2 (a0i _) _
def TkP(w:World)(b:Nat)(s:ByteArray)(d:Option (Tk×Nat))(e:Ending)(w':World):Prop:=
 av b w w'/\match d with
  | none=>e=j6
  | some (t,q)=>e = .returned (fG t)/\Rdr w' b s q
def okG(d:Option (Tk×Nat)):Option (Tk×Nat):=d.bind fun t=>if okT t.1=true then some t else none
theorem Er{base:Nat}(h:dL w base L D C):∃a b,C=a++b/\bP w base L a/\bP w base D b/\(w.alloc (.cells C 204)).rangeAt w.heap.size 0 a.toList/\(w.alloc (.cells C 204)).rangeAt w.heap.size 19 b.toList:=by
 obtain⟨a,b,rfl,c,h2⟩:=h;obtain⟨d,e⟩:=iy (alloc_at w (.cells (a++b) 204)) c.size;exact⟨a,b,rfl,c,h2,d,e⟩
theorem rE{c:List Value}(h:w.rangeAt g o c)(e:av b w w')(d:g<w.heap.size)(a:g≠b):w'.rangeAt g o c:=fun j v f=>by
 rw[←h j v f];exact World.cell?_of_block (w:=w) (e.2 g d a)
theorem Ej(b p k:Nat)(C:Array Value)(s:ByteArray)(w:World)(a:Rdr w b s p)(g:k<256) :
  Calls prog 246 #[.pointer (some ⟨b,0,none⟩),.int .i64 (k:Nat),.agg C] w fun e w'=>av b w w'/\e = .returned (fG ((k:Nat),0,0))/\Rdr w' b s p:=by
 have c:isB (((k:Nat):Int),0,0)=true:=by unfold isB inB;simp;omega
 rw[lB c];have h:(k:Int)<256:=by omega
 have i:IntKind.u8.wrap (k:Int)=(k:Int):=BS (by omega) (by omega);have d:Hid (av b w (w.alloc (.cells C 204))):=(av.refl b w).alloc a.lt _;have f:Hid (Rdr (w.alloc (.cells C 204)) b s p):=a.alloc _;clear a g c;go_enter func246,ntmps246;go_wp2;go_ret;exact⟨ab d,rfl,ab f⟩
theorem Ek(b p k base:Nat)(L D:List Int)(C:Array Value)(s:ByteArray)(w:World)(hr:Rdr w b s p)(hk:k<=900)(X:dL w base L D C)(ad:b<base)(f:au D=true)(hs:s.size<=2000000) :
  Calls prog 246 #[.pointer (some ⟨b,0,none⟩),.int .i64 ((k:Nat)+257),.agg C] w (TkP w b s (okG (fV (aj s) (8*s.size) D k p))):=by
 have a4:prog.follows .mixedOrders=true:=by kernel_rfl
 obtain⟨d,hd⟩:∃d,okG (fV (aj s) (8*s.size) D k p)=d:=⟨_,rfl⟩;rw[hd];have Hd:=ae hd;obtain⟨T,o,rfl,G,h2,r1,r2⟩:=Er X;have a3:=hr.lt;have hA:Below w.heap.size w (w.alloc (.cells (T++o) 204)):=(a0c _ _).alloc (a0a _) _;have a5:w.heap.size≠b:=by omega
 have bn:(prog.info? 202).map (·.size)=some o.size:=by rw[h2.size];exact Tryz.infoDistB
 have O:=ae (a0b ((av.refl b w).alloc a3 (.cells (T++o) 204)) (a0b (hr.alloc (.cells (T++o) 204)) (a0b (h2.later hA) r2)));have B:w.heap.size<(w.alloc (.cells (T++o) 204)).heap.size:=by simp
 have HS:=ae hs;have U:=ae f;have J:=ae ad;clear hr X G h2 r1 r2 hd hs f ad;go_enter func246,ntmps246;go_wp2_with fail;generalize w.alloc (.cells (T++o) 204)=w1 at *
 generalize bl:w.heap.size=g at *
 clear bl hA a3;refine(nM w1).mono ?_;rintro e w2 ⟨rfl,R⟩;have a1:=(ab O).1.later R (ab O).2.1.lt;have a6:=(ab O).2.1.kept (R.mono (ab O).2.1.lt);have a8:=(ab O).2.2.1.later R;have al:w2.rangeAt g 19 o.toList:=jT (ab O).2.2.2 R B;have z:g<w2.heap.size:=a0m B R.size;have n:=ae (uI 3 4 28 b p k s w2 a6 (ab HS) (by omega) (by omega) (by omega) (by omega) (fun k h=>by omega) (by omega));have r:=ae (a0b a1 (a0b a8 al));clear R a1 a6 a8 al O B;have ek:(k:Int)+257-256-1=(k:Int):=by omega
 unfold jm at n;rcases G:scG (aj s) (8*s.size) 3 4 28 k p with _|⟨x,q1⟩
 .
  rw[G]at n;have F:Hid (d=none):=by show d=none;rw[←ab Hd];unfold okG fV;rw[G];rfl
  clear G;go_wp2_with fail;refine(ab n).mono ?_;rintro e x3 ⟨Q,rfl⟩;refine⟨rfl,?_⟩;unfold TkP;rw[ab F];exact⟨(ab r).1.trans Q,rfl⟩
 .
  rw[G]at n;have aa:=D6 G;have H1:=ae G;have bb:=ae aa.1;clear G aa;go_wp2_with fail;refine(ab n).mono ?_;rintro e x3 ⟨Q,rfl,r3⟩;have a2:=(ab r).1.trans Q;have a9:=(ab r).2.1.keep1 Q (ab J);have an:=rE (ab r).2.2 Q z a5;have a0:g<x3.heap.size:=a0m z Q.1.size;have c:=ae (a0b a2 (a0b a9 (a0b an r3)));clear Q a2 a9 an r3 n r z;have m:Hid (∀W,av b x3 W->W.rangeAt g 19 o.toList):=fun W h=>rE (ab c).2.2.1 h a0 a5;have P:av b x3 x3.drew:=(av.refl b x3).drew;go_wp2_with fail;refine wp_region_held_drew (S:=fun W=>W.rangeAt g 19 o.toList) a4 (ab m _ P) (fun Y=>?_);refine af 0 (.pointer (some ⟨b,0,none⟩)) rfl (by kernel_rfl) (fun _ _ _ h=>h) rfl (fun W Z=>by go_simp) Y ?_;refine af 2 (.pointer (some ⟨b,0,none⟩)) rfl (by kernel_rfl) (fun _ _ _ h=>h) rfl (fun W Z=>by go_simp) Y ?_;refine af 3 (.pointer (some ⟨g,19,none⟩)) rfl (by kernel_rfl) (fun _ _ _ h=>h) rfl (fun W Z=>by go_simp) Y ?_;refine wpAnyH_take (i:=4) (v:=.agg o) rfl (by kernel_rfl) (by kernel_rfl) (by kernel_rfl) (fun _ _ _ h=>h) (dk (by rfl) 202 (.tmp 25) rfl g 19 rfl o _ (fun _ h=>h) underlying202 rfl bn) Y ?_;refine ag 1 (by kernel_rfl) rfl fun K u=>?_;go_simp;go_at_call 218;refine(nF _).mono ?_;rintro e x4 ⟨rfl,b4⟩;have k4:av b x3 x4:=P.later b4 (ab c).2.2.2.lt;have r4:Rdr x4 b s q1:=Rdr.kept (w:=x3.drew) (show Rdr x3.drew b s q1 from(ab c).2.2.2) (b4.mono (ab c).2.2.2.lt);have v4:=(ab c).2.1.keep1 k4 (ab J);have l:=ae (zl b q1 base o D s x4 v4 (ab J) (ab U) (ab HS) r4 (ab bb));refine Shut.out u _ _ (ab m _ k4) (fun bc=>?_);clear u K b4 v4;refine ag 5 (by kernel_rfl) rfl fun K u=>?_;go_simp;go_at_call 252;unfold SyP at l;rcases h2:dec D (aj s) (8*s.size) q1 with _|⟨j,q2⟩
  .
   rw[h2]at l;have F:Hid (d=none):=by show d=none;rw[←ab Hd];unfold okG fV;rw[ab H1];simp only[a0f];rw[h2];rfl
   refine(ab l).mono ?_;rintro e x5 ⟨k5,rfl⟩;refine⟨rfl,?_⟩;unfold TkP;rw[ab F];exact⟨(ab c).1.trans (k4.trans k5),rfl⟩
  .
   rw[h2]at l;have ac:=fE h2;have H2:=ae h2;refine(ab l).mono ?_;rintro e x5 ⟨k5,rfl,r5⟩;have H:=k4.trans k5;refine Shut.out u _ _ (ab m _ H) (fun bd=>?_);clear u K k5 k4 r4 l;obtain⟨jn,hj⟩:=a0t ac.2.2.1;subst hj;have A:jn<=1000:=by have:=ce (ab U);omega
   have a:=ae (uI 1 2 30 b q2 jn s x5 r5 (ab HS) (by omega) (by omega) (by omega) (by omega) (fun k h=>by omega) A);refine ag 6 (by kernel_rfl) rfl fun K u=>?_;go_simp;go_at_call 251;unfold jm at a;rcases V:scG (aj s) (8*s.size) 1 2 30 jn q2 with _|⟨y,q3⟩
   .
    rw[V]at a;have F:Hid (d=none):=by show d=none;rw[←ab Hd];unfold okG fV;rw[ab H1];simp only[a0f];rw[ab H2];simp only[a0f,a0p];rw[V];rfl
    refine(ab a).mono ?_;rintro e x6 ⟨k6,rfl⟩;refine⟨rfl,?_⟩;unfold TkP;rw[ab F];exact⟨(ab c).1.trans (H.trans k6),rfl⟩
   .
    rw[V]at a;have H3:=ae V;refine(ab a).mono ?_;rintro e x6 ⟨k6,rfl,r6⟩;have I:=H.trans k6;refine Shut.out u _ _ (ab m _ I) (fun be=>?_);clear u K;refine ag 7 (by kernel_rfl) rfl fun K u=>?_;go_simp;refine Shut.out u _ _ (ab m _ I) (fun bk=>?_);clear u K;refine wpAnyH_done (by kernel_rfl) ?_ _;have HE:Hid (d=if okT (0,(x:Int),(y:Int))=true then some ((0,(x:Int),(y:Int)),q3)else none):=by
     show d=_;rw[←ab Hd];unfold okG fV;rw[ab H1];simp only[a0f];rw[ab H2];simp only[a0f,a0p];rw[ab H3];rfl
    have q:=ae (a0b ((ab c).1.trans I) r6);have N:=ae (fun W=>Kg (0,(x:Int),(y:Int)) W);clear Y bc bd be bk I H k6 r6 r5 m P h2 V ac A a;simp only at N;go_wp2_with fail;refine(ab N _).mono ?_;rintro e x7 ⟨rfl,b7⟩;have M:=ae (a0b ((ab q).1.later b7 (ab q).2.lt) ((ab q).2.kept (b7.mono (ab q).2.lt)));clear b7 q N;cases f:okT (0,(x:Int),(y:Int))
    .
     have F:Hid (d=none):=by show d=none;rw[ab HE,f];rfl
     clear f;generalize fG (0,(x:Int),(y:Int))=tv at *
     go_wp2_with fail;refine(fx _).mono ?_;rintro e x8 ⟨rfl,E⟩;rw[E];clear E x8;refine⟨rfl,?_⟩;unfold TkP;rw[ab F];exact⟨(ab M).1,rfl⟩
    .
     have F:Hid (d=some ((0,(x:Int),(y:Int)),q3)):=by show d=_;rw[ab HE,f];rfl
     clear f;obtain⟨t,ht⟩:∃t:Tk,(0,(x:Int),(y:Int))=t:=⟨_,rfl⟩;rw[ht]at F ⊢;clear ht;generalize a7:fG t=tv at *
     have ba:=ae a7;clear a7;go_wp2_with fail;refine(dh _).mono ?_;rintro e x8 ⟨rfl,E⟩;rw[E];clear E x8;go_wp2;go_ret;unfold TkP;rw[ab F];exact⟨(ab M).1,by rw[ab ba];rfl,(ab M).2⟩
theorem vA(b p:Nat)(s:ByteArray)(T:List UInt8)(w:World)(h:Sou w b s p T)(hT:T.length<=300)(hp:p<=8*s.size)(hs:s.size<=2000000) :
  Calls prog 226 #[.pointer (some ⟨b,0,none⟩)] w (cW w b s (dS (aj s) (8*s.size) p T)):=by
 obtain⟨d,hd⟩:∃d,dS (aj s) (8*s.size) p T=d:=⟨_,rfl⟩;rw[hd];have g:=ae hd;have F:=ae (nQ b p s w h.1 hs hp);have HS:=ae h;have Q:=ae (a0b hs hT);clear h hT hp hs hd;go_enter func226,ntmps226;unfold dS at g;rcases G:gz (aj s) p with _|q
 .
  rw[G]at F;have o:Hid (d=none):=by show d=none;rw[←ab g,G];rfl
  clear G g;go_wp2_with fail;refine(ab F).mono ?_;rintro e x1 ⟨M,rfl⟩;refine⟨rfl,?_⟩;unfold cW;rw[ab o];exact⟨M.ku,rfl⟩
 rw[G]at F g;clear G;simp only[a0f]at g;go_wp2_with fail;refine(ab F).mono ?_;rintro e x1 ⟨M,rfl,r1⟩;have m:=ae (a0b M.ku ((ab HS).keep1 M r1));clear M r1 HS F;have f:=ae (cf b q 16 s x1 (ab m).2.1 (ab Q).1 (by omega));rcases h2:rdN (aj s) (8*s.size) q 16 with _|⟨a,q2⟩
 .
  rw[h2]at f;unfold jm at f;have o:Hid (d=none):=by show d=none;rw[←ab g,h2];rfl
  clear h2 g;go_wp2_with fail;refine(ab f).mono ?_;rintro e x2 ⟨N,rfl⟩;refine⟨rfl,?_⟩;unfold cW;rw[ab o];exact⟨(ab m).1.trans N.ku,rfl⟩
 rw[h2]at f g;unfold jm at f;have ha:a<=65535:=by have:=(bF h2).2.2.2;omega
 clear h2;simp only[a0f]at g;go_wp2_with fail;refine(ab f).mono ?_;rintro e x2 ⟨N,rfl,r2⟩;have n:=ae (a0b ((ab m).1.trans N.ku) ((ab m).2.keep1 N r2));clear N r2 m f;have f:=ae (cf b q2 16 s x2 (ab n).2.1 (ab Q).1 (by omega));rcases B:rdN (aj s) (8*s.size) q2 16 with _|⟨c,q3⟩
 .
  rw[B]at f;unfold jm at f;have o:Hid (d=none):=by show d=none;rw[←ab g,B];rfl
  clear B g;go_wp2_with fail;refine(ab f).mono ?_;rintro e x3 ⟨O,rfl⟩;refine⟨rfl,?_⟩;unfold cW;rw[ab o];exact⟨(ab n).1.trans O.ku,rfl⟩
 rw[B]at f g;unfold jm at f;simp only[a0f]at g;go_wp2_with fail;refine(ab f).mono ?_;rintro e x3 ⟨O,rfl,r3⟩;have v:=ae (a0b ((ab n).1.trans O.ku) ((ab n).2.keep1 O r3));clear O r3 n f;have U:bits .xor .i64 (a:Int) 65535=((65535-a:Nat):Int):=by
  rw[←LE a ha];exact rl a 65535 (by omega) (by omega)
 by_cases r:c=65535-a
 .
  rw[a0e r]at g;have hb:((c:Int) == bits .xor .i64 (a:Int) 65535)=true:=by rw[U,r];exact beq_self_eq_true _
  clear B U r;go_wp2_with fail;refine(dh _).mono ?_;rintro e x4 ⟨rfl,t⟩;rw[t];clear t x4 hb;go_wp2_with fail
  go_loopw [14] (fun i wr=>∃(k q:Nat) (R:List UInt8),k<=a/\i = .int .i64 k/\KU b w wr/\Sou wr b s q R/\R.length<=300/\dZ (aj s) (8*s.size) (a-k) q R=d) (fun i _=>a-(intOf i).toNat)
  case atStart=>exact⟨0,q3,T,a0g _,rfl,(ab v).1,(ab v).2,(ab Q).2,ab g⟩
  case round=>
   obtain⟨k,q,R,hk,rfl,J,A,hR,hg⟩:=hrel;clear v g;have u:=ae J;have x:=ae A;have j:=ae hg;have HR:=ae hR;clear J A hg hR hk;by_cases Z:k<a
   .
    have K:(k:Int)<(a:Int):=by omega
    have e1:a-k=(a-(k+1))+1:=by omega
    have f:=ae (cf b q 8 s wr (ab x).1 (ab Q).1 (by omega));rw[e1]at j;simp only[dZ]at j;clear e1;rcases H:rdN (aj s) (8*s.size) q 8 with _|⟨y,q4⟩
    .
     rw[H]at f j;unfold jm at f;have o:Hid (d=none):=by show d=none;rw[←ab j];rfl
     clear H j;go_wp2_with fail;refine(ab f).mono ?_;rintro e x5 ⟨P,rfl⟩;refine⟨rfl,?_⟩;unfold cW;rw[ab o];exact⟨(ab u).trans P.ku,rfl⟩
    rw[H]at f j;unfold jm at f;have hy:y<256:=by have:=(bF H).2.2.2;omega
    have hu:IntKind.u8.wrap (y:Int)=(y:Int):=BS (by omega) (by omega);have Y:isB (((y:Nat):Int),0,0)=true:=by unfold isB inB;simp;omega
    have L:okT (((y:Nat):Int),0,0)=true:=by unfold okT;rw[Y];rfl
    have E:=ae (lB Y);clear H Y;simp only[a0f]at j;go_wp2_with fail;refine(ab f).mono ?_;rintro e x5 ⟨P,rfl,r5⟩;have l:=ae ((ab u).trans P.ku);have z:=ae ((ab x).keep1 P r5);clear P r5 f u x;have W:=ae (ES b q4 s R (((y:Nat):Int),0,0) x5 (ab z) (ab HR) L);rw[ab E]at W;clear L E;go_wp2_with fail;refine(ab W).mono ?_;intro e x6 I;unfold cW at I;rcases S:eT R (((y:Nat):Int),0,0)with _|R'
    .
     rw[S]at I j;obtain⟨V,rfl⟩:=I;have o:Hid (d=none):=by show d=none;rw[←ab j];rfl
     refine⟨rfl,?_⟩;unfold cW;rw[ab o];exact⟨(ab l).trans V,rfl⟩
    rw[S]at I j;obtain⟨V,rfl,s6⟩:=I;simp only[a0f]at j;have X:=ae (oL S);have C:=ae ((ab l).trans V);have D:=ae s6;clear V s6 S l z W HR;go_wp2_with fail;go_roundw
    case rel=>exact⟨k+1,q4,R',Z,by go_num,ab C,ab D,ab X,ab j⟩
    case measure=>simp[intOf];omega
   .
    have K:¬ (k:Int)<(a:Int):=by omega
    have e0:a-k=0:=by omega
    rw[e0]at j;simp only[dZ]at j;go_wp2
    go_end0
    unfold cW;rw[←ab j];exact⟨ab u,rfl,ab x⟩
 .
  rw[a0d r]at g;have hb:((c:Int) == bits .xor .i64 (a:Int) 65535)=false:=by rw[U,a03];omega
  have o:Hid (d=none):=by show d=none;rw[←ab g]
  clear g U r B;go_wp2_with fail;refine(fx _).mono ?_;rintro e x4 ⟨rfl,t⟩;rw[t];clear t x4;refine⟨rfl,?_⟩;unfold cW;rw[ab o];exact⟨(ab v).1,rfl⟩
def rC(V sz:Nat)(L D:List Int)(k:Int)(q:Nat)(R:List UInt8):Option (List UInt8×Nat):=
 if k=256 then some (R,q)else(oneG V sz D k q).bind fun t=>(eT R t.1).bind fun T'=>iK V sz L D t.2 T'
theorem wI: iK V sz L D p T=(dec L V sz p).bind fun k=>rC V sz L D k.1 k.2 T:=by
 rcases h:dec L V sz p with _|⟨i,q⟩
 . rw[wJ h];rfl
 .
  simp only[a0f];unfold rC;by_cases a:i=256
  . subst a;rw[BE h,a0e rfl]
  . rw[wK h a,a0d a]
theorem GQ{k:Int}(b:k≠256)(h:okG (oneG V sz D k q)=none):rC V sz L D k q R=none:=by
 unfold rC;rw[a0d b];unfold okG at h;rcases a:oneG V sz D k q with _|⟨t,r⟩
 . rfl
 .
  rw[a]at h;simp only[a0f]at h ⊢
  split at h
  . cases h
  . rw[IH (Bool.eq_false_iff.2 (by assumption))];rfl
theorem DU{k:Int}{r:Nat}{t:Tk}(b:k≠256)(h:okG (oneG V sz D k q)=some (t,r)):oneG V sz D k q=some (t,r)/\okT t=true/\rC V sz L D k q R=(eT R t).bind fun T'=>iK V sz L D r T':=by
 unfold okG at h;rcases a:oneG V sz D k q with _|⟨t',c⟩
 . rw[a]at h;cases h
 .
  rw[a]at h;simp only[a0f]at h
  split at h
  . simp only[a0l,a08]at h;obtain⟨rfl,rfl⟩:=h;refine⟨rfl,by assumption,?_⟩;unfold rC;rw[a0d b,a];rfl
  . cases h
theorem Il(b p base:Nat)(k:Int)(L D:List Int)(C:Array Value)(s:ByteArray)(w:World)(g:Rdr w b s p)(i:0<=k)(q:k<=1000)(l:k≠256)(c:dL w base L D C)(d:b<base)(f:au D=true)(o:s.size<=2000000) :
  Calls prog 246 #[.pointer (some ⟨b,0,none⟩),.int .i64 k,.agg C] w (TkP w b s (okG (oneG (aj s) (8*s.size) D k p))):=by
 obtain⟨n,rfl⟩:=a0t i;by_cases h:n<256
 .
  have j:isB (((n:Nat):Int),0,0)=true:=by unfold isB inB;simp;omega
  have a:okT (((n:Nat):Int),0,0)=true:=by unfold okT;rw[j];rfl
  have e:okG (oneG (aj s) (8*s.size) D (n:Int) p)=some ((((n:Nat):Int),0,0),p):=by
   unfold oneG okG;rw[a0e (by omega)];simp only[a0f];rw[a0e a]
  rw[e];exact Ej b p n C s w g h
 .
  obtain⟨m,rfl⟩:∃m,n=m+257:=⟨n-257,by omega⟩;have e:oneG (aj s) (8*s.size) D ((m+257:Nat):Int) p=fV (aj s) (8*s.size) D m p:=by
   unfold oneG;rw[a0d (by omega)];rw[show(((m+257:Nat):Int).toNat-257)=m by omega]
  rw[e];exact Ek b p m base L D C s w g (by omega) c d f o
def lw(b:Nat)(w:World):Nat:=match w.cell? ⟨b,1,none⟩with
 | some v=>(intOf v).toNat
 | none=>0
theorem Sou.place(h:Sou w b s p T)(c:p<=8*s.size):lw b w=p:=by
 have a:=(h.1.at c).2.1;unfold lw;rw[a];simp[intOf]
theorem rS(h:w.heap[g]?=some (Obj.cells C t)):w.rangeAt g 0 C.toList:=by
 intro j v a;rw[a0G,bu h];simpa using a
theorem KU.books(h:KU b w w')(a:w.heap[g]?=some (Obj.cells C 204))(e:g≠b):w'.heap[g]?=some (Obj.cells C 204):=by
 have d:g<w.heap.size:=by
  rcases a1k g w.heap.size with c|c
  . exact c
  . rw[Array.getElem?_eq_none c]at a;cases a
 rw[h.2 g d e (by intro i fr f;rw[a]at f;simp at f)];exact a
def TkI(b g base:Nat)(s:ByteArray)(L D:List Int)(C:Array Value)(d:Option (List UInt8×Nat))(w:World)(i:Value)(wr:World):Prop:=
 ∃(k:Int) (q:Nat) (R:List UInt8),i = .int .i64 k/\0<=k/\k<=1000/\KU b w wr/\Sou wr b s q R/\R.length<=300/\q<=8*s.size/\wr.heap[g]?=some (Obj.cells C 204)/\dL wr base L D C/\rC (aj s) (8*s.size) L D k q R=d
theorem uU(b p base:Nat)(s:ByteArray)(L D:List Int)(C:Array Value)(T:List UInt8)(w:World)(h:Sou w b s p T)(hT:T.length<=300)(hp:p<=8*s.size)(hs:s.size<=2000000)(X:dL w base L D C)(Z:b<base)(hL:au L=true)(hD:au D=true) :
  Calls prog 238 #[.pointer (some ⟨b,0,none⟩),.agg C] w (cW w b s (iK (aj s) (8*s.size) L D p T)):=by
 obtain⟨d,hd⟩:∃d,iK (aj s) (8*s.size) L D p T=d:=⟨_,rfl⟩;rw[hd];have hd:=wI.symm.trans hd;have a2:=h.lt;have A:w.heap.size≠b:=by omega
 have hA:Below w.heap.size w (w.alloc (.cells C 204)):=(a0c _ _).alloc (a0a _) _;have Y:=h.later hA;have V:=X.later hA;have x:KU b w (w.alloc (.cells C 204)):=(KU.refl b w).later hA a2;have v:=alloc_at w (.cells C 204);have m:=ae (a0b hs (a0b Z (a0b hL hD)));have HT:=ae hT;have P:=ae (ce hL);obtain⟨j,C2,rfl,b1,b2⟩:=X;have z:=b1.size;have ac:=b2.size;have M:=ae (a0b z (show(j++C2).size=38 by rw[a2c,z,ac]));have F:Hid (∀W:World,W.heap[w.heap.size]?=some (Obj.cells (j++C2) 204)->W.rangeAt w.heap.size 0 j.toList):=fun W h=>(iy h z).1;have O:Hid (∀W,dL W base L D (j++C2)->bP W base L j):=by
  intro W hW;obtain⟨E1,E2,e,f1,f2⟩:=hW;have:=f1.size;have e1:j=E1:=by
   have E:=congrArg Array.toList e;simp only[a1L]at E;have h2:=a14 E (by simp[z,this]);exact Array.ext' h2.1
  rw[e1];exact f1
 clear b1 b2 h Z hL hD hT z ac hs;generalize hC:j++C2=C at *
 go_enter func238,ntmps238;have f:=ae (a0b x (a0b Y (a0b V v)));clear x Y V v hA;have c:=ae (ue b p base j L s (w.alloc (.cells C 204)) (ab O _ (ab f).2.2.1) (ab m).2.1 (ab m).2.2.1 (ab m).1 (ab f).2.1.1 hp);clear hp;unfold SyP at c;rcases E:dec L (aj s) (8*s.size) p with _|⟨k,q⟩
 .
  rw[E]at c hd;have H:Hid (d=none):=by show d=none;rw[←hd];rfl
  clear E hd;go_wp2_with (refine bi rfl 199 (.tmp 6) rfl w.heap.size 0 rfl j _ (ab F _ (ab f).2.2.2) a2e rfl (by rw[(ab M).1];exact Tryz.infoLitB) ?_);refine(ab c).mono ?_;rintro e x1 ⟨B,rfl⟩;refine⟨rfl,?_⟩;unfold cW;rw[ab H];exact⟨(ab f).1.trans B.ku,rfl⟩
 rw[E]at c hd;have hb:=fE E;clear E;simp only[a0f]at hd;go_wp2_with (refine bi rfl 199 (.tmp 6) rfl w.heap.size 0 rfl j _ (ab F _ (ab f).2.2.2) a2e rfl (by rw[(ab M).1];exact Tryz.infoLitB) ?_);refine(ab c).mono ?_;rintro e x1 ⟨B,rfl,r1⟩;have HI:Hid (TkI b w.heap.size base s L D C d w (.int .i64 k) x1):=
  ⟨k,q,T,rfl,hb.2.2.1,by have:=ab P;omega,(ab f).1.trans B.ku,(ab f).2.1.keep1 B r1,ab HT,hb.1,B.ku.books (ab f).2.2.2 A,(ab f).2.2.1.keep1 B (ab m).2.1,hd⟩
 clear B r1 c hb hd f HT;go_wp2_with fail
 go_loopw [4] (fun i wr=>TkI b w.heap.size base s L D C d w i wr) (fun _ wr=>8*s.size-lw b wr)
 case atStart=>exact ab HI
 case round=>
  obtain⟨k,q,R,rfl,k0,B,x,y,hR,hq,v,aa,hn⟩:=hrel;clear HI;have f:=ae (a0b x (a0b y (a0b hR (a0b hq (a0b v aa)))));have a:=ae hn;have al:=ae (y.place hq);clear x y hR hq v aa hn;by_cases hk:k=256
  .
   subst hk;go_wp2
   go_end0
   unfold cW;rw[←ab a];unfold rC;rw[a0e rfl];exact⟨(ab f).1,rfl,(ab f).2.1⟩
  have a3:(k == 256)=false:=by rw[a03];exact hk
  have n:=ae (Il b q base k L D C s wr (ab f).2.1.1 k0 B hk (ab f).2.2.2.2.2 (ab m).2.1 (ab m).2.2.2 (ab m).1);have G:=ae (rS (ab f).2.2.2.2.1);unfold TkP at n;rcases h2:okG (oneG (aj s) (8*s.size) D k q)with _|⟨t,r⟩
  .
   rw[h2]at n;have H:Hid (d=none):=by show d=none;rw[←ab a];exact GQ hk h2
   clear h2;go_wp2_with (refine bi rfl 204 (.tmp 3) rfl w.heap.size 0 rfl C _ (ab G) a3g rfl (by rw[(ab M).2];exact Tryz.infoBooks) ?_);refine(ab n).mono ?_;rintro e x2 ⟨J,rfl⟩;refine⟨rfl,?_⟩;unfold cW;rw[ab H];exact⟨(ab f).1.trans J.ku,rfl⟩
  rw[h2]at n;obtain⟨n1,n2,n3⟩:=DU (L:=L) (R:=R) hk h2;have Q:=ae (sC n1 (ab f).2.2.2.1);rw[n3]at a;have a1:=ae n2;clear h2 n1 n2 n3;go_wp2_with (refine bi rfl 204 (.tmp 3) rfl w.heap.size 0 rfl C _ (ab G) a3g rfl (by rw[(ab M).2];exact Tryz.infoBooks) ?_);refine(ab n).mono ?_;rintro e x2 ⟨J,rfl,r2⟩;have o:=ae (a0b ((ab f).1.trans J.ku) (a0b ((ab f).2.1.keep1 J r2) (a0b (J.ku.books (ab f).2.2.2.2.1 A) ((ab f).2.2.2.2.2.keep1 J (ab m).2.1))));have a0:=ae (a0b (ab f).2.2.1 (ab f).2.2.2.1);clear J r2 n f G;have l:=ae (ES b r s R t x2 (ab o).2.1 (ab a0).1 (ab a1));generalize fG t=tv at *
  unfold cW at l;rcases S:eT R t with _|R'
  .
   rw[S]at l a;have H:Hid (d=none):=by show d=none;rw[←ab a];rfl
   clear S;go_wp2_with fail;refine(ab l).mono ?_;rintro e x3 ⟨N,rfl⟩;refine⟨rfl,?_⟩;unfold cW;rw[ab H];exact⟨(ab o).1.trans N,rfl⟩
  rw[S]at l a;have an:=ae (oL S);clear S;simp only[a0f]at a;rw[wI]at a;go_wp2_with fail;refine(ab l).mono ?_;rintro e x3 ⟨N,rfl,s3⟩;have g:=ae (a0b ((ab o).1.trans N) (a0b s3 (a0b (N.books (ab o).2.2.1 A) ((ab o).2.2.2.ku N (ab m).2.1))));clear N s3 l o;have c:=ae (ue b r base j L s x3 (ab O _ (ab g).2.2.2) (ab m).2.1 (ab m).2.2.1 (ab m).1 (ab g).2.1.1 (ab Q).1);have u:=ae (ab F _ (ab g).2.2.1);unfold SyP at c;rcases U:dec L (aj s) (8*s.size) r with _|⟨k',q'⟩
  .
   rw[U]at c a;have H:Hid (d=none):=by show d=none;rw[←ab a];rfl
   clear U;go_wp2_with (refine bi rfl 199 (.tmp 12) rfl w.heap.size 0 rfl j _ (ab u) a2e rfl (by rw[(ab M).1];exact Tryz.infoLitB) ?_);refine(ab c).mono ?_;rintro e x4 ⟨K,rfl⟩;refine⟨rfl,?_⟩;unfold cW;rw[ab H];exact⟨(ab g).1.trans K.ku,rfl⟩
  rw[U]at c a;have hb:=fE U;clear U;simp only[a0f]at a;go_wp2_with (refine bi rfl 199 (.tmp 12) rfl w.heap.size 0 rfl j _ (ab u) a2e rfl (by rw[(ab M).1];exact Tryz.infoLitB) ?_);refine(ab c).mono ?_;rintro e x4 ⟨K,rfl,r4⟩;have I:=(ab g).2.1.keep1 K r4;have ad:=ae (I.place hb.1);have HI:Hid (TkI b w.heap.size base s L D C d w (.int .i64 k') x4):=
   ⟨k',q',R',rfl,hb.2.2.1,by have:=ab P;omega,(ab g).1.trans K.ku,I,ab an,hb.1,K.ku.books (ab g).2.2.1 A,(ab g).2.2.2.keep1 K (ab m).2.1,ab a⟩
  have Hm:Hid (q<q'/\q'<=8*s.size):=⟨by have:=ab Q;omega,hb.1⟩;clear K r4 I hb c u g;go_wp2_with fail;go_roundw
  case rel=>exact ab HI
  case measure=>rw[ab ad,ab al];have:=ab Hm;omega
theorem dT.below(h:dT w)(hb:Below B w w')(a:1<B):dT w':=
 ⟨fun j v b=>(hb.cell (p:=⟨1,0+j,none⟩) a).trans (h.1 j v b),a0m h.2 hb.size⟩
theorem dT.cell(h:dT w)(a:k<19):w.cell? ⟨1,k,none⟩=some (.int .i64 (bY.getD k 0:Nat)):=by
 have:=h.1 k (.int .i64 (bY.getD k 0:Nat)) (by rw[Array.getElem?_toList];exact AF k a);rwa[a0G]at this
theorem AO{m:Nat}(h:k<m)(b:m<=19):(bY.take m).drop k=bY.getD k 0 :: (bY.take m).drop (k+1):=by
 have a:k<(bY.take m).length:=by rw[a0s];have:bY.length=19:=rfl;omega
 rw[a3m a]
 congr 1
 have h2:k<bY.length:=by have:bY.length=19:=rfl;omega
 simp[List.getD,h2]
def LbP(w:World)(b:Nat)(s:ByteArray)(d:Option (List Int×Nat))(e:Ending)(w':World):Prop:=
 av b w w'/\match d with
  | none=>e=j6
  | some (l,q)=>(∃C,e = .returned (.agg C)/\bP w' w.heap.size l C)/\Rdr w' b s q
theorem av.set(h:av b w x)(d:w.heap.size<=g)(hb:b<w.heap.size)(u:Value):av b w (x.setCell ⟨g,o,none⟩ u):=
 ⟨ah h.1 (by omega) u,fun j a c=>(a0O _ _ _ j (by show j≠g;omega)).trans (h.2 j a c),fun j a=>⟨by rw[World.cell?_setCell_other _ _ _ _ (by simp only[ne_eq,a0B];omega)];exact(h.3 j a).1,by simpa using(h.3 j a).2⟩⟩
theorem av.setCells(h:av b w x)(i:w.heap.size<=g)(hb:b<w.heap.size)(o:Nat)(us:List Value):av b w (x.setCells g o us):=by
 have e:∀j,j≠g->(x.setCells g o us).heap[j]?=x.heap[j]?:=fun j c=>fL _ _ _ _ j c;refine⟨below_setCells (by omega) _ _ _ h.1,fun j c d=>(e j (by omega)).trans (h.2 j c d),fun j c=>?_⟩;have f:=e b (by omega);exact⟨(World.cell?_of_block (w:=x) f (a:=⟨b,j,none⟩)).trans (h.3 j c).1,by rw[World.frozen?_setCells];exact(h.3 j c).2⟩
theorem Rdr.set(h:Rdr x b s p)(a:g≠b)(u:Value):Rdr (x.setCell ⟨g,o,none⟩ u) b s p:=by
 obtain⟨c0,c1,c2,g0,g1,g2,hb⟩:=h;exact⟨by rw[World.cell?_setCell_other _ _ _ _ (by simp only[ne_eq,a0B];omega)];exact c0,by rw[World.cell?_setCell_other _ _ _ _ (by simp only[ne_eq,a0B];omega)];exact c1,by rw[World.cell?_setCell_other _ _ _ _ (by simp only[ne_eq,a0B];omega)];exact c2,by simpa using g0,by simpa using g1,by simpa using g2,by simpa using hb⟩
theorem BC(h:w.there g 0 n)(i:av b w w')(e:g<w.heap.size)(c:g≠b):w'.there g 0 n:=fun j f=>by
 obtain⟨t1,t2⟩:=h j f;have d:=i.2 g e c;exact⟨by rw[World.cell?_of_block (w:=w) d (a:=⟨g,0+j,none⟩)];exact t1,by rw[World.frozen?_of_block (w:=w) d (a:=⟨g,0+j,none⟩)];exact t2⟩
theorem am.keep1'{base:Nat}(h:am w base v l)(a:av b w w')(hb:b<base):am w' base v l:=a.own h hb
def LbI(b gL many:Nat)(s:ByteArray)(d:Option (List Int×Nat))(w:World)(i:Value)(wr:World):Prop:=
 ∃(k q:Nat) (l:List Int),i = .int .i64 k/\k<=many/\av b w wr/\Rdr wr b s q/\q<=8*s.size/\am wr (w.heap.size+1) (.slice (some ⟨gL,0,none⟩) 19 19) l/\l.length=19/\wr.there w.heap.size 0 19/\dT wr/\w.heap.size<wr.heap.size/\lbG (aj s) (8*s.size) ((bY.take many).drop k) q l=d
theorem yt(b p many:Nat)(s:ByteArray)(w:World)(h:Rdr w b s p)(hp:p<=8*s.size)(hs:s.size<=2000000)(hm:many<=19)(D:dT w)(hb:1<b) :
  Calls prog 240 #[.pointer (some ⟨b,0,none⟩),.int .i64 (many:Nat)] w (LbP w b s (jv (aj s) (8*s.size) many p)):=by
 have an:prog.follows .mixedOrders=true:=by kernel_rfl
 obtain⟨i0,hi,a0,a1,a2⟩:=a0o Tryz.infoInt;obtain⟨d,hd⟩:∃d,lbG (aj s) (8*s.size) (bY.take many) p (List.replicate 19 0)=d:=⟨_,rfl⟩;unfold jv;rw[hd];have f:=h.lt;have a7:(many:Int)<=19:=by omega
 obtain⟨W0,hW0⟩:∃W,w.alloc (.cells pT 268)=W:=⟨_,rfl⟩;have S0:W0.heap.size=w.heap.size+1:=by rw[←hW0];exact dC _ _
 have B0:Below w.heap.size w W0:=by rw[←hW0];exact(a0c _ _).alloc (a0a _) _
 have T0:W0.there w.heap.size 0 19:=by rw[←hW0];exact ij w pT _ _ rfl
 have c:=ae (a0b h (a0b hp (a0b D (a0b B0 (a0b T0 S0)))));have y:=ae (a0b hs (a0b hm (a0b hb f)));have HD:=ae hd;have E0:=ae hW0;unfold pT at E0;clear h hp hs hm D hb f hd hW0 B0 T0 S0;go_enter func240,ntmps240;go_wp2_with (at_make;refine a1w _ rfl _ _ 137 rfl (w.heap.size+1) 3 i0 (.int .i64 0) 1 a0C hi a0 a1 .i64 .i64 _ _ 19 rfl rfl rfl rfl (by rw[a2];omega) (by unfold maxLen;omega) (by simp) ?_;intro w1 n m);rw[ab E0]at n m;rw[(ab c).2.2.2.2.2]at n;have Z:am w1 (w.heap.size+1) (.slice (some ⟨w.heap.size+1,0,none⟩) 19 19) (List.replicate 19 0):=cY n;have A:Below (w.heap.size+1) W0 w1:=(a0c _ _).grown m (by rw[(ab c).2.2.2.2.2];exact a0a _) (fun k h=>by cases h);clear n m hi a0 a1 a2 E0;have HI:Hid (LbI b (w.heap.size+1) many s d w (.int .i64 (0:Nat)) w1):=by
  obtain⟨h,hp,D,B0,T0,S0⟩:=ab c;have f:=(ab y).2.2.2;have bb:Below w.heap.size w w1:=B0.trans (A.mono (a06 _));refine⟨0,p,List.replicate 19 0,rfl,a0g _,(av.refl b w).later bb f,h.kept (bb.mono f),hp,Z,by simp,?_,D.later bb,by have:=A.size;omega,ab HD⟩;intro j N;obtain⟨t1,t2⟩:=T0 j N;exact⟨by rw[A.cell (p:=⟨w.heap.size,0+j,none⟩) (a0i _)];exact t1,by rw[A.frozen (p:=⟨w.heap.size,0+j,none⟩) (a0i _)];exact t2⟩
 clear c HD Z A
 go_loopw [6,9] (fun _ i wr=>LbI b (w.heap.size+1) many s d w i wr) (fun _ i _=>many-(intOf i).toNat)
 case atStart=>exact ab HI
 case round=>
  obtain⟨k,q,l,rfl,hk,E,O,hq,ho,U,G,D,F,hd⟩:=hrel;clear HI;have a5:w.heap.size+1≠b:=by have:=(ab y).2.2.2;omega
  by_cases al:k<many
  .
   have a4:(k:Int)<(many:Int):=by omega
   have H:k<19:=by have:=(ab y).2.1;omega
   have a6:=yl k H;rw[AO al (ab y).2.1]at hd;simp only[lbG]at hd;have Q:=ae (cf b q 3 s wr.drew (show Rdr wr.drew b s q from O) (ab y).1 (by omega));have c:=ae (a0b E (a0b O (a0b hq (a0b ho (a0b U (a0b G (a0b D F)))))));have J:Hid (∀W,av b wr.drew W->W.cell? ⟨1,k,none⟩=some (.int .i64 (bY.getD k 0:Nat))):=fun W h=>(dT.below (w:=wr.drew) (show dT wr.drew from D) h.1 (ab y).2.2.1).cell H;have u:=ae hd;clear E O hq ho U G D F hk hd;generalize bY.getD k 0=o at *
   have a8:(o:Int)<19:=by omega
   go_wp2_with fail;refine wp_region_held_drew (S:=fun W=>W.cell? ⟨1,k,none⟩=some (.int .i64 (o:Nat))) an (ab J _ (av.refl _ _)) (fun T=>?_);refine af 0 (.slice (some ⟨w.heap.size+1,0,none⟩) 19 19) rfl (by kernel_rfl) (fun _ _ _ h=>h) rfl (fun W z=>by go_simp) T ?_;refine af 1 (.int .i64 (k:Nat)) rfl (by kernel_rfl) (fun _ _ _ h=>h) rfl (fun W z=>by go_simp) T ?_;refine af 2 (.pointer (some ⟨1,k,none⟩)) rfl (by kernel_rfl) (fun _ _ _ h=>h) rfl (fun W z=>by go_simp<;>(intro h;omega)) T ?_;refine af 3 (.int .i64 (o:Nat)) rfl (by kernel_rfl) (fun _ _ _ h=>h) rfl (fun W z=>by go_simp) T ?_;refine af 4 (.pointer (some ⟨b,0,none⟩)) rfl (by kernel_rfl) (fun _ _ _ h=>h) rfl (fun W z=>by go_simp) T ?_;refine ag 5 (by kernel_rfl) rfl fun K Y=>?_;go_simp;go_at_call 229;unfold jm at Q;rcases h1:rdN (aj s) (8*s.size) q 3 with _|⟨x,q1⟩
   .
    rw[h1]at Q u;have Hn:Hid (d=none):=by show d=none;rw[←ab u];rfl
    refine(ab Q).mono ?_;rintro e x1 ⟨P,rfl⟩;refine⟨rfl,?_⟩;unfold LbP;rw[ab Hn];exact⟨(ab c).1.trans ((av.refl b wr).drew.trans P),rfl⟩
   .
    rw[h1]at Q u;simp only[a0f]at u;have a3:=ae (bF h1);clear h1;refine(ab Q).mono ?_;rintro e x1 ⟨P,rfl,r1⟩;refine Shut.out Y _ _ (ab J _ P) (fun M=>?_);clear Y K;have t:av b wr x1:=(av.refl b wr).drew.trans P;have f:=(ab y).2.2.2;have o1:=(ab c).2.2.2.1.keep1' t (by omega);obtain⟨c1,f1,_,_⟩:=o1.at (ab c).2.2.2.2.1 a6;refine wpAnyH_take (i:=6) (v:=.pointer (some ⟨w.heap.size+1,o,none⟩)) rfl (by kernel_rfl) (by kernel_rfl) (by kernel_rfl) (fun _ _ _ h=>h) (a0A ⟨by rfl,fun W z=>by go_simp<;>(intro h;omega)⟩) M ?_;refine ag 7 (by kernel_rfl) rfl fun K Y=>?_;go_simp;have ac:w.heap.size<wr.heap.size:=(ab c).2.2.2.2.2.2.2;have th1:=BC (ab c).2.2.2.2.2.1 t ac (by omega);have HI:Hid (LbI b (w.heap.size+1) many s d w (.int .i64 (k+1:Nat)) (x1.setCell ⟨w.heap.size+1,o,none⟩ (.int .i64 (x:Nat)))):=by
     refine⟨k+1,q1,l.set o (x:Nat),rfl,al,((ab c).1.trans t).set (by omega) f _,r1.set a5 _,(ab a3).1,o1.put (ab c).2.2.2.2.1 _,by rw[a1d];exact(ab c).2.2.2.2.1,?_,?_,by simp;exact a0m ac t.1.size,ab u⟩
     . intro j N;obtain⟨t1,t2⟩:=th1 j N;exact⟨by rw[World.cell?_setCell_other _ _ _ _ (by simp)];exact t1,by simpa using t2⟩
     . exact((ab c).2.2.2.2.2.2.1.below t.1 (ab y).2.2.1).below (ah (a0c b x1) (by omega) _) (ab y).2.2.1
    have aa:(x1.setCell ⟨w.heap.size+1,o,none⟩ (.int .i64 (x:Nat))).cell? ⟨1,k,none⟩=some (.int .i64 (o:Nat)):=by
     rw[World.cell?_setCell_other _ _ _ _ (by simp only[ne_eq,a0B];have:=(ab y).2.2.1;omega)];exact M
    refine Shut.out Y _ _ aa (fun _=>?_);clear Y K;refine wpAnyH_done (by kernel_rfl) ?_ _;clear T M aa P t r1 o1 th1 J Q c c1 f1;generalize x1.setCell ⟨w.heap.size+1,o,none⟩ (.int .i64 (x:Nat))=x2 at *
    go_wp2_with fail;go_roundw
    case rel=>exact ab HI
    case measure=>simp[intOf];omega
  .
   have a4:¬ (k:Int)<(many:Int):=by omega
   have e0:(bY.take many).drop k=[]:=List.drop_eq_nil_of_le (by rw[a0s];omega);rw[e0]at hd;simp only[lbG]at hd;have HE:=ae hd;have f:=(ab y).2.2.2;have HJ:=ae (bG U (ho.own U));have g:=ae (Gy _ 19 19 (w.heap.size+1) l wr U (ab HJ) (by omega) (by omega));have c:=ae (a0b E (a0b O (a0b G F)));clear E O hq ho U G D F hk e0;cases r:au l
   . rw[r]at g;simp only[a01,a02]at g;have I:=ae r;clear r hd;go_wp2_with fail;refine(ab g).mono ?_;rintro e x1 ⟨L,rfl⟩;refine⟨rfl,?_⟩;unfold LbP;rw[←ab HE];simp only[a0f];rw[ab I];exact⟨(ab c).1.later L (ab c).2.1.lt,rfl⟩
   .
    rw[r]at g;simp only[a0X]at g;have I:=ae r;clear r hd;go_wp2_with fail;refine(ab g).mono ?_;rintro e x1 ⟨L,C,rfl,R⟩;have X:Hid (x1.there w.heap.size 0 19):=fun j N=>by
     obtain⟨t1,t2⟩:=(ab c).2.2.1 j N;have f:=(ab c).2.2.2;exact⟨by rw[L.cell (p:=⟨w.heap.size,0+j,none⟩) f];exact t1,by rw[L.frozen (p:=⟨w.heap.size,0+j,none⟩) f];exact t2⟩
    have B:=ae R.size;have V:=ae R.one;have HY:=ae (a0b ((ab c).1.later L (ab c).2.1.lt) (a0b ((ab c).2.1.kept (L.mono (ab c).2.1.lt)) R));clear L R g HJ c;go_wp2_with (refine wpList_store_mid rfl 268 (.tmp 4) (.tmp 21) rfl w.heap.size 0 C rfl rfl (by rw[ab B];exact ab X) (by rw[ab B];exact Tryz.infoLenB) (ab V) ?_);obtain⟨P,r1,R⟩:=ab HY;have O:=World.rangeAt_setCells_same x1 w.heap.size 0 C.toList (by rw[a1W,ab B];exact ab X);have hk:∀j,j≠w.heap.size->(x1.setCells w.heap.size 0 C.toList).heap[j]?=x1.heap[j]?:=fun j N=>fL _ _ _ _ j N;have hz:(x1.setCells w.heap.size 0 C.toList).heap.size=x1.heap.size:=size_setCells _ _ _ _;refine a0F (fy rfl _ _ w.heap.size _ _ rfl O a27 rfl (by rw[a1W,ab B];exact Tryz.infoLenB)) rfl ?_;unfold LbP;rw[←ab HE];simp only[a0f];rw[ab I];refine⟨P.setCells (a0a _) f _ _,⟨C,by simp,(R.touch hz hk (a0i _)).mono (a06 _)⟩,?_⟩;obtain⟨c0,c1,c2,g0,g1,g2,hb⟩:=r1;have ad:=hk b (by omega);have hc:∀j,(x1.setCells w.heap.size 0 C.toList).cell? ⟨b,j,none⟩=x1.cell? ⟨b,j,none⟩:=fun j=>World.cell?_of_block (w:=x1) ad (a:=⟨b,j,none⟩);have hf:∀j,(x1.setCells w.heap.size 0 C.toList).frozen? ⟨b,j,none⟩=x1.frozen? ⟨b,j,none⟩:=fun j=>World.frozen?_of_block (w:=x1) ad (a:=⟨b,j,none⟩);exact⟨(hc 0).trans c0,(hc 1).trans c1,(hc 2).trans c2,(hf 0).trans g0,(hf 1).trans g1,(hf 2).trans g2,by rw[hz];exact hb⟩
theorem Rdr.place(h:Rdr w b s p)(c:p<=8*s.size):lw b w=p:=by
 have a:=(h.at c).2.1;unfold lw;rw[a];simp[intOf]
theorem av.book(h:av b w w')(c:w.heap[g]?=some (Obj.cells C t))(e:g≠b):w'.heap[g]?=some (Obj.cells C t):=by
 have d:g<w.heap.size:=by
  rcases a1k g w.heap.size with a|a
  . exact a
  . rw[Array.getElem?_eq_none a]at c;cases c
 rw[h.2 g d e];exact c
theorem tF{base:Nat}{y:Int}(a:l.length=n)(h:x.ownsRow base 3 1 v (n+k) (l.map (Value.int .i64)++List.replicate k (.int .i64 y))):am x base v (l++List.replicate k y):=by
 show World.ownsRow _ _ _ _ _ (l++List.replicate k y).length _;rw[a0j,a0x,a,a0I,List.map_replicate];exact h
theorem Rdr.block(h:Rdr x b s p)(e:x'.heap[b]?=x.heap[b]?)(f:x.heap.size<=x'.heap.size):Rdr x' b s p:=by
 obtain⟨c0,c1,c2,g0,g1,g2,hb⟩:=h;have c:∀j,x'.cell? ⟨b,j,none⟩=x.cell? ⟨b,j,none⟩:=fun j=>World.cell?_of_block (w:=x) e (a:=⟨b,j,none⟩);have d:∀j,x'.frozen? ⟨b,j,none⟩=x.frozen? ⟨b,j,none⟩:=fun j=>World.frozen?_of_block (w:=x) e (a:=⟨b,j,none⟩);exact⟨(c 0).trans c0,(c 1).trans c1,(c 2).trans c2,(d 0).trans g0,(d 1).trans g1,(d 2).trans g2,by omega⟩
theorem zJ{xs:List Value}(g:av b w x)(l:x.ownsRow (w.heap.size+1) t 1 v n xs)(i:x.grownBy x' v.ownBlock)(hb:b<w.heap.size) :
  av b w x'/\∀j,j<=w.heap.size->j<x.heap.size->x'.heap[j]?=x.heap[j]?:=by
 have d:∀j,j<=w.heap.size->some j≠v.ownBlock:=fun j c e=>by
  have:=(a0y l j e.symm).1;omega
 have m:=g.1.size;have f:=i.block b (by omega) (d b (by omega));refine⟨⟨g.1.grown i (by omega) (fun k h=>by have:=(a0y l k h).1;omega),fun j c h=>(i.block j (by omega) (d j (by omega))).trans (g.2 j c h),fun j c=>⟨(World.cell?_of_block (w:=x) f (a:=⟨b,j,none⟩)).trans (g.3 j c).1,(World.frozen?_of_block (w:=x) f (a:=⟨b,j,none⟩)).trans (g.3 j c).2⟩⟩,fun j c h=>i.block j h (d j c)⟩
def LnP(w:World)(b:Nat)(s:ByteArray)(d:Option (List Int×Nat))(e:Ending)(w':World):Prop:=
 av b w w'/\match d with
  | none=>e=j6
  | some (l,q)=>(∃v,e = .returned v/\am w' w.heap.size v l)/\Rdr w' b s q
def LnI(b many:Nat)(s:ByteArray)(B:List Int)(C:Array Value)(d:Option (List Int×Nat))(w:World)(v:Value)(wr:World):Prop:=
 ∃(q:Nat) (A:List Int),am wr (w.heap.size+1) v A/\A.length<=600/\av b w wr/\Rdr wr b s q/\q<=8*s.size/\wr.heap[w.heap.size]?=some (Obj.cells C 268)/\w.heap.size<wr.heap.size/\lnG (aj s) (8*s.size) B many q A=d
def LnS(b:Nat)(s:ByteArray)(C:Array Value)(w x:World)(v:Value)(A:List Int)(q:Nat):Prop:=
 am x (w.heap.size+1) v A/\av b w x/\Rdr x b s q/\q<=8*s.size/\x.heap[w.heap.size]?=some (Obj.cells C 268)/\w.heap.size<x.heap.size
theorem LnS.keep(h:LnS b s C w x v A q)(hb:b<w.heap.size)(a:av b x x')(f:Rdr x' b s q')(hq:q'<=8*s.size):LnS b s C w x' v A q':=by
 obtain⟨c,h2,g,i,d,e⟩:=h;exact⟨c.keep1' a (by omega),h2.trans a,f,hq,a.book d (by omega),a0m e a.1.size⟩
theorem LnS.below(h:LnS b s C w x v A q)(hb:b<w.heap.size)(a:Below x.heap.size x x'):LnS b s C w x' v A q:=by
 have h2:=h.2.2.1.lt;exact h.keep hb ((av.refl b x).later a h2) (h.2.2.1.kept (a.mono h2)) h.2.2.2.1
theorem LnS.grown{A':List Int}(h:LnS b s C w x v A q)(hb:b<w.heap.size)(a:x.grownBy x' v.ownBlock)(i:am x' (w.heap.size+1) v' A'):LnS b s C w x' v' A' q:=by
 obtain⟨e,h2,c,f,g,d⟩:=h;obtain⟨g1,g2⟩:=zJ h2 e a hb;exact⟨i,g1,c.block (g2 b (by omega) c.lt) a.size,f,(g2 _ (a0a _) d).trans g,a0m d a.size⟩
theorem LnS.done{many:Nat}{B:List Int}{d:Option (List Int×Nat)}(h:LnS b s C w x v A q)(a:A.length<=600)(hd:lnG (aj s) (8*s.size) B many q A=d):LnI b many s B C d w v x:=
 ⟨q,A,h.1,a,h.2.1,h.2.2.1,h.2.2.2.1,h.2.2.2.2.1,h.2.2.2.2.2,hd⟩
theorem yu(b p many base:Nat)(s:ByteArray)(B:List Int)(C:Array Value)(w:World)(h:Rdr w b s p)(hp:p<=8*s.size)(hs:s.size<=2000000)(hm:many<=400)(hB:bP w base B C)(ba:b<base)(b1:au B=true) :
  Calls prog 239 #[.pointer (some ⟨b,0,none⟩),.int .i64 (many:Nat),.agg C] w (LnP w b s (lnG (aj s) (8*s.size) B many p [])):=by
 have bn:prog.follows .mixedOrders=true:=by kernel_rfl
 obtain⟨i0,hi,a4,a5,a6⟩:=a0o Tryz.infoInt;obtain⟨d,hd⟩:∃d,lnG (aj s) (8*s.size) B many p []=d:=⟨_,rfl⟩;rw[hd];have a3:=h.lt;have cu:(many:Int)<=400:=by omega
 have HI:Hid (LnI b many s B C d w (.slice none 0 0) (w.alloc (.cells C 268))):=
  ⟨p,[],am.nil _ _,by simp,(av.refl b w).alloc a3 _,h.alloc _,hp,alloc_at _ _,by simp,hd⟩
 have N:=ae (a0b hs (a0b ba (a0b b1 a3)));have HZ:=ae hB.size;have b2:Hid (∀W,av b w W->bP W base B C):=fun W hW=>hB.keep1 hW ba;clear h hp hs hm hB ba b1 hd a3;go_enter func239,ntmps239;go_wp2_with fail
 go_loopw [7,8] (fun v _ wr=>LnI b many s B C d w v wr) (fun _ _ wr=>8*s.size-lw b wr)
 case atStart=>exact ab HI
 case round=>
  obtain⟨q,A,ho,hA,a2,hr,hq,a1,be,hd⟩:=hrel;clear HI;obtain⟨n,hn⟩:∃n,A.length=n:=⟨_,rfl⟩;obtain⟨a,cap,rfl⟩:=ho.formN hn;have a3:=(ab N).2.2.2;have cg:w.heap.size≠b:=by omega
  have ad:=ae (hr.place hq);have HX:=ae (a0b ho (a0b a2 (a0b hr (a0b hq (a0b a1 be)))));have c5:(n:Int)<=600:=by omega
  have F:=ae hn;by_cases c6:n<many
  .
   have b0:(n:Int)<(many:Int):=by omega
   rw[Am hq (by omega)]at hd;have T:=ae (Dz b q base C B s wr (ab b2 _ a2) (ab N).2.1 (ab N).2.2.1 (ab N).1 hr hq);have a7:=ae (rS a1);clear ho a2 hr hq a1 be hn hA;unfold SyP at T;rcases h1:dec B (aj s) (8*s.size) q with _|⟨k,Q⟩
   .
    rw[h1]at T hd;have Hn:Hid (d=none):=by show d=none;rw[←hd];rfl
    clear h1 hd;go_wp2_with (refine bi rfl 268 (.tmp 5) rfl w.heap.size 0 rfl C _ (ab a7) a27 rfl (by rw[ab HZ];exact Tryz.infoLenB) ?_);refine(ab T).mono ?_;rintro e x1 ⟨k1,rfl⟩;refine⟨rfl,?_⟩;unfold LnP;rw[ab Hn];exact⟨(ab HX).2.1.trans k1,rfl⟩
   rw[h1]at T hd;have a9:=fE h1;simp only[a0f]at hd;clear h1;have l:=ae hd;clear hd;go_wp2_with (refine bi rfl 268 (.tmp 5) rfl w.heap.size 0 rfl C _ (ab a7) a27 rfl (by rw[ab HZ];exact Tryz.infoLenB) ?_);refine(ab T).mono ?_;rintro e x1 ⟨k1,rfl,r1⟩;have o1:=(ab HX).1.keep1' k1 (by omega);have HY:=ae (a0b o1 (a0b ((ab HX).2.1.trans k1) (a0b r1 (a0b a9.1 (a0b (k1.book (ab HX).2.2.2.2.1 cg) (a0m (ab HX).2.2.2.2.2 k1.1.size))))));have Hq:=ae a9.2.1;have I:Hid (LnS b s C w x1 (.slice a n cap) A Q):=ab HY;clear k1 r1 o1 HX a7 T a9 HY;have aa:=ae ((ab I).1.own (ab F));have bb:w.heap.size+1<=x1.heap.size:=(ab I).2.2.2.2.2;have cy:n<400:=by omega
   by_cases o:k=16
   .
    have a8:(k == 16)=true:=by rw[o];rfl
    by_cases bc:n=0
    .
     have cc:decide (0<n)=false:=a0h (by omega);have Hn:Hid (d=none):=by show d=none;rw[←ab l,o];unfold dV;rw[a0e rfl,a0e (by rw[ab F];exact bc)];rfl
     clear bc o;go_wp2_with fail;refine(fx _).mono ?_;rintro e x2 ⟨rfl,D⟩;rw[D];clear D x2;refine⟨rfl,?_⟩;unfold LnP;rw[ab Hn];exact⟨(ab I).2.1,rfl⟩
    .
     have cc:decide (0<n)=true:=a0v (by omega);obtain⟨g,rfl⟩:=(ab I).1.somes (by rw[ab F];omega);have H:Hid (dV (aj s) (8*s.size) A k Q=(rdN (aj s) (8*s.size) Q 2).bind fun x=>some (A++List.replicate (3+x.1) (A.getD (n-1) 0),x.2)):=by
      show _=_;rw[o];unfold dV;rw[a0e rfl,a0d (by rw[ab F];exact bc),ab F]
     rw[ab H]at l;obtain⟨m,hm⟩:∃m,n-1=m:=⟨_,rfl⟩;have cv:(n:Int)-1=(m:Int):=by omega
     have bs:m+1=n:=by omega
     rw[hm]at l;have an:=ae bs;have b4:Hid (IntKind.i64.wrap (m:Int)=(m:Int)):=by show _=_;rw[a0Z];omega
     clear H o hm bs;go_wp2_with fail;refine(dh _).mono ?_;rintro e x2 ⟨rfl,D⟩;rw[D];clear D x2;go_wp2_with fail;have E:=ae (cf b Q 2 s x1.drew (show Rdr x1.drew b s Q from(ab I).2.2.1) (ab N).1 (by omega));have co:n<=cap:=by
      have:=(ab aa);rcases this.2 with⟨e,_⟩|⟨g',ch,cr,e,_,_,h1,_⟩
      . cases e
      . simp only[a0J]at e;omega
     refine wp_region_held_drew (S:=fun _=>True) bn trivial (fun hS=>?_);refine af 0 (.slice (some ⟨g,0,none⟩) n cap) rfl (by kernel_rfl) (fun _ _ _ h=>h) rfl (fun W P=>by go_simp) hS ?_;refine af 1 (.slice (some ⟨g,0,none⟩) n cap) rfl (by kernel_rfl) (fun _ _ _ h=>h) rfl (fun W P=>by go_simp) hS ?_;refine af 2 (.slice (some ⟨g,0,none⟩) n cap) rfl (by kernel_rfl) (fun _ _ _ h=>h) rfl (fun W P=>by go_simp) hS ?_;refine af 3 (.int .i64 (n:Nat)) rfl (by kernel_rfl) (fun _ _ _ h=>h) rfl (fun W P=>by go_simp) hS ?_;refine af 4 (.int .i64 (m:Nat)) rfl (by kernel_rfl) (fun _ _ _ h=>h) rfl (fun W P=>by go_simp;exact ab b4) hS ?_;refine af 6 (.pointer (some ⟨b,0,none⟩)) rfl (by kernel_rfl) (fun _ _ _ h=>h) rfl (fun W P=>by go_simp) hS ?_;refine af 5 (.slice (some ⟨g,m,none⟩) 1 (cap-m)) rfl (by kernel_rfl) (fun _ _ _ h=>h) rfl (fun W P=>by go_simp;rw[a0e (by have:=ab an;omega),a0d (by have:=ab an;omega),show n-m=1 by have:=ab an;omega]) hS ?_;refine ag 7 (by kernel_rfl) rfl fun K V=>?_;go_simp;go_at_call 229;unfold jm at E;rcases h2:rdN (aj s) (8*s.size) Q 2 with _|⟨y,q2⟩
     .
      rw[h2]at E l;have Hn:Hid (d=none):=by show d=none;rw[←ab l];rfl
      refine(ab E).mono ?_;rintro e x2 ⟨R,rfl⟩;refine⟨rfl,?_⟩;unfold LnP;rw[ab Hn];exact⟨(ab I).2.1.trans ((av.refl b x1).drew.trans R),rfl⟩
     rw[h2]at E l;simp only[a0f]at l;have J:=ae (bF h2);have hy:y<4:=by have:=(bF h2).2.2.2;omega
     clear h2;refine(ab E).mono ?_;rintro e x2 ⟨R,rfl,r2⟩;refine Shut.out V _ _ trivial (fun M=>?_);clear V K;have r:=ae ((ab I).keep (ab N).2.2.2 ((av.refl b x1).drew.trans R) r2 (ab J).1);clear R r2 E;obtain⟨c,hc⟩:∃c,3+y=c:=⟨_,rfl⟩;have b5:Hid (IntKind.i64.wrap (3+(y:Int))=(c:Int)):=by show _=_;rw[a0Z];omega
     have cs:(c:Int)<=7:=by omega
     have ca:1<=c:=by omega
     rw[hc]at l;clear hc;refine wpAnyH_take (i:=8) (v:=.int .i64 (c:Nat)) rfl (by kernel_rfl) (by kernel_rfl) (by kernel_rfl) (fun _ _ _ h=>h) (a0A ⟨by rfl,fun W P=>by go_simp;exact ab b5⟩) M ?_;refine ag 9 (by kernel_rfl) rfl fun K V=>?_;go_simp;go_at_call 97;have Y:x2.cell? ⟨g,m,none⟩=some (.int .i64 (A.getD m 0)):=((ab r).1.at (ab F) (by have:=ab an;omega)).1;refine(oy (A.getD m 0) c (cap-m) g m x2 Y ca (by omega)).mono ?_;rintro e x3 ⟨rfl,o3,b3⟩;have al:=ae ((ab r).below (ab N).2.2.2 b3);have bl:=ae o3;generalize A.getD m 0=z at *
     refine Shut.out V _ _ trivial (fun t=>?_);clear V K o3 b3 Y;refine ag 10 (by kernel_rfl) rfl fun K V=>?_;refine aL rfl _ _ 137 rfl (w.heap.size+1) 3 i0 (.int .i64 0) 1 8 a0C hi a4 a5 a6 rfl (by decide) (.slice (some ⟨g,0,none⟩) n cap) n _ rfl ((ab al).1.own (ab F)) ⟨x2.heap.size,0,none⟩ c c ((List.replicate c z).map (Value.int .i64)) rfl (by simp) (a1K ((ab bl).own (n:=c) (by simp)) rfl) (by intro u hu;simp only[a2H]at hu;obtain⟨_,_,rfl⟩:=hu;rfl) (by unfold maxLen;omega) (by omega) (by have:=(ab al).2.2.2.2.2;omega) (fun v' x4 j f Z=>?_);clear Z;rw[List.map_replicate]at j;have a0:=(ab al).grown (ab N).2.2.2 f (tF (ab F) j);have HI:=ae (a0.done (B:=B) (many:=many) (d:=d) (by rw[a0j,ab F,a0x];omega) (ab l));have O:=ae (a0.2.2.1.place a0.2.2.2.1);clear j f a0;refine Shut.out V _ _ trivial (fun b8=>?_);clear V K;refine ag 11 (by kernel_rfl) rfl fun K V=>?_;go_simp;refine Shut.out V _ _ trivial (fun b9=>?_);clear V K;refine wpAnyH_done (by kernel_rfl) ?_ _;clear I r al bl aa hS M t b8 b9;go_wp2_with fail;go_roundw
     case rel=>exact ab HI
     case measure=>rw[ab O,ab ad];have:=ab Hq;have:=ab J;omega
   .
    by_cases L:k=17
    .
     have bk:(k == 17)=true:=by rw[L];rfl
     have a8:(k == 16)=false:=by rw[a03];exact o
     have E:=ae (cf b Q 3 s x1 (ab I).2.2.1 (ab N).1 (by omega));have H:Hid (dV (aj s) (8*s.size) A k Q=(rdN (aj s) (8*s.size) Q 3).bind fun x=>some (A++List.replicate (3+x.1) 0,x.2)):=by
      show _=_;rw[L];unfold dV;rw[a0d (by decide),a0e rfl]
     rw[ab H]at l;clear o L H;unfold jm at E;rcases h2:rdN (aj s) (8*s.size) Q 3 with _|⟨y,q2⟩
     .
      rw[h2]at E l;have Hn:Hid (d=none):=by show d=none;rw[←ab l];rfl
      clear h2 l;go_wp2_with fail;refine(ab E).mono ?_;rintro e x2 ⟨R,rfl⟩;refine⟨rfl,?_⟩;unfold LnP;rw[ab Hn];exact⟨(ab I).2.1.trans R,rfl⟩
     .
      rw[h2]at E l;simp only[a0f]at l;have G:=bF h2;have hy:y<8:=by have:=G.2.2.2;omega
      have J:=ae (a0b G.1 G.2.1);clear h2 G;go_wp2_with fail;refine(ab E).mono ?_;rintro e x2 ⟨R,rfl,r2⟩;have r:=ae ((ab I).keep (ab N).2.2.2 R r2 (ab J).1);have ac:=ae ((ab r).1.own (ab F));have X:w.heap.size+1<=x2.heap.size:=(ab r).2.2.2.2.2;have bd:Hid (n+(3+y)<=maxLen/\(n+(3+y))*8<=140737488355328):=by show _/\_;unfold maxLen;omega
      clear R r2 E I aa bb;go_wp2_with (at_builtin;refine iZ _ rfl _ _ 137 3 rfl (w.heap.size+1) 3 i0 (.int .i64 0) 8 .i64 .i64 a0C a1U hi a4 a5 a6 rfl rfl (.slice a n cap) n _ rfl (ab ac) (3+y) (by simp[Act.eval]) (by omega) (ab bd).1 (ab bd).2 X ?_;intro v' x3 j f);have t:=(ab r).grown (ab N).2.2.2 f (tF (ab F) j);have HI:=ae (t.done (B:=B) (many:=many) (d:=d) (by rw[a0j,ab F,a0x];omega) (ab l));have O:=ae (t.2.2.1.place t.2.2.2.1);clear j f t;go_wp2_with fail;go_roundw
      case rel=>exact ab HI
      case measure=>rw[ab O,ab ad];have:=ab Hq;have:=ab J;omega
    .
     by_cases U:k=18
     .
      have bk:(k == 18)=true:=by rw[U];rfl
      have a8:(k == 16)=false:=by rw[a03];exact o
      have b6:(k == 17)=false:=by rw[a03];exact L
      have E:=ae (cf b Q 7 s x1 (ab I).2.2.1 (ab N).1 (by omega));have H:Hid (dV (aj s) (8*s.size) A k Q=(rdN (aj s) (8*s.size) Q 7).bind fun x=>some (A++List.replicate (11+x.1) 0,x.2)):=by
       show _=_;rw[U];unfold dV;rw[a0d (by decide),a0d (by decide),a0e rfl]
      rw[ab H]at l;clear o L U H;unfold jm at E;rcases h2:rdN (aj s) (8*s.size) Q 7 with _|⟨y,q2⟩
      .
       rw[h2]at E l;have Hn:Hid (d=none):=by show d=none;rw[←ab l];rfl
       clear h2 l;go_wp2_with fail;refine(ab E).mono ?_;rintro e x2 ⟨R,rfl⟩;refine⟨rfl,?_⟩;unfold LnP;rw[ab Hn];exact⟨(ab I).2.1.trans R,rfl⟩
      .
       rw[h2]at E l;simp only[a0f]at l;have G:=bF h2;have hy:y<128:=by have:=G.2.2.2;omega
       have J:=ae (a0b G.1 G.2.1);clear h2 G;go_wp2_with fail;refine(ab E).mono ?_;rintro e x2 ⟨R,rfl,r2⟩;have r:=ae ((ab I).keep (ab N).2.2.2 R r2 (ab J).1);have ac:=ae ((ab r).1.own (ab F));have X:w.heap.size+1<=x2.heap.size:=(ab r).2.2.2.2.2;have bd:Hid (n+(11+y)<=maxLen/\(n+(11+y))*8<=140737488355328):=by show _/\_;unfold maxLen;omega
       clear R r2 E I aa bb;go_wp2_with (at_builtin;refine iZ _ rfl _ _ 137 3 rfl (w.heap.size+1) 3 i0 (.int .i64 0) 8 .i64 .i64 a0C a1U hi a4 a5 a6 rfl rfl (.slice a n cap) n _ rfl (ab ac) (11+y) (by simp[Act.eval]) (by omega) (ab bd).1 (ab bd).2 X ?_;intro v' x3 j f);have t:=(ab r).grown (ab N).2.2.2 f (tF (ab F) j);have HI:=ae (t.done (B:=B) (many:=many) (d:=d) (by rw[a0j,ab F,a0x];omega) (ab l));have O:=ae (t.2.2.1.place t.2.2.2.1);clear j f t;go_wp2_with fail;go_roundw
       case rel=>exact ab HI
       case measure=>rw[ab O,ab ad];have:=ab Hq;have:=ab J;omega
     .
      have a8:(k == 16)=false:=by rw[a03];exact o
      have b6:(k == 17)=false:=by rw[a03];exact L
      have cp:(k == 18)=false:=by rw[a03];exact U
      have bd:Hid (n+1<=maxLen/\(n+1)*8<=140737488355328):=by show _/\_;unfold maxLen;omega
      have HE:Hid (lnG (aj s) (8*s.size) B many Q (A++[k])=d):=by
       show _=d;rw[←ab l];unfold dV;rw[a0d o,a0d L,a0d U];rfl
      clear o L U l;go_wp2_with (at_builtin;refine a0r _ rfl _ _ 137 rfl (w.heap.size+1) 3 i0 (.int .i64 0) 1 8 a0C hi a4 a5 a6 rfl (by decide) (.slice a n cap) _ _ rfl (a0k (ab aa) _) ⟨x1.heap.size,0,none⟩ 1 1 [.int .i64 k] rfl rfl (bE _ _ rfl _ _) (eO _) (ab bd).1 (ab bd).2 (ao bb _) ?_;intro v' x2 j f Z;clear Z);have M:=((ab I).below (ab N).2.2.2 ((a0c _ _).alloc (a0a _) (.cells #[.int .i64 k] 3))).grown (ab N).2.2.2 f (de (ab F) j);have HI:=ae (M.done (B:=B) (many:=many) (d:=d) (by rw[a0j,ab F,a1o];omega) (ab HE));have O:=ae (M.2.2.1.place M.2.2.2.1);have HQ:=ae M.2.2.2.1;clear j f M;go_wp2_with fail;go_roundw
      case rel=>exact ab HI
      case measure=>rw[ab O,ab ad];have:=ab Hq;have:=ab HQ;omega
  .
   have b0:¬ (n:Int)<(many:Int):=by omega
   rw[Ap hq (by omega)]at hd;have l:=ae hd;clear ho a2 hr hq a1 be hn hA hd;by_cases hE:n=many
   .
    have b7:((n:Int) == (many:Int))=true:=by rw[hE];exact beq_self_eq_true _
    rw[a0e (by rw[ab F];exact hE)]at l;clear hE;go_wp2_with fail;refine(dh _).mono ?_;rintro e x2 ⟨rfl,D⟩;rw[D];clear D x2;go_wp2;go_ret;unfold LnP;rw[←ab l];exact⟨(ab HX).2.1,⟨_,rfl,(ab HX).1.mono (a06 _)⟩,(ab HX).2.2.1⟩
   .
    have b7:((n:Int) == (many:Int))=false:=by rw[a03];omega
    rw[a0d (by rw[ab F];exact hE)]at l;clear hE;go_wp2_with fail;refine(fx _).mono ?_;rintro e x2 ⟨rfl,D⟩;rw[D];clear D x2;refine⟨rfl,?_⟩;unfold LnP;rw[←ab l];exact⟨(ab HX).2.1,rfl⟩
theorem EK:au (dc 288)=true:=by kernel_rfl
theorem zx:au (List.replicate 32 (5:Int))=true:=by kernel_rfl
theorem cx.take{base:Nat}(h:cx w base a l)(n:Nat):cx w base a (l.take n):=by
 have j:(l.take n).length<=l.length:=by rw[a0s];omega
 refine⟨fun b=>?_,fun b=>h.2 (by omega)⟩;obtain⟨g,o,e,d,c⟩:=h.1 (by omega);refine⟨g,o,e,d,fun i f=>?_⟩;rw[c i (by omega)];rw[a0s]at f;simp[List.getD,show i<n by omega]
theorem cx.drop{base:Nat}(h:cx w base (some ⟨g,o,none⟩) l)(n:Nat):cx w base (some ⟨g,o+n,none⟩) (l.drop n):=by
 have f:(l.drop n).length=l.length-n:=a04 ..;refine⟨fun a=>?_,fun a x e=>?_⟩
 . obtain⟨g',o',e,c,b⟩:=h.1 (by omega);simp only[a0l,a0B,a0P]at e;obtain⟨rfl,rfl⟩:=e;refine⟨g,o+n,rfl,c,fun i d=>?_⟩;have:=b (n+i) (by omega);rw[←Nat.add_assoc]at this;rw[this];simp[List.getD,List.getElem?_drop]
 . have:=h.2 (by omega) _ rfl;simp only[a0l]at e;subst e;exact this
theorem vf(b p:Nat)(s:ByteArray)(T:List UInt8)(w:World)(h:Sou w b s p T)(o:T.length<=300)(r:p<=8*s.size)(t:s.size<=2000000) :
  Calls prog 227 #[.pointer (some ⟨b,0,none⟩)] w (cW w b s (F8 (aj s) (8*s.size) p T)):=by
 obtain⟨d,hd⟩:∃d,F8 (aj s) (8*s.size) p T=d:=⟨_,rfl⟩;rw[hd];have a:=ae (a0b h (a0b o (a0b r t)));have k:=ae hd;have j:=h.lt;clear h o r t hd;go_enter func227,ntmps227;go_wp2_with fail;refine(l9 w).mono ?_;rintro e x1 ⟨⟨C,rfl,n⟩,i⟩;have g:=ae (uU b p (w.heap.size+1) s (dc 288) (List.replicate 32 5) C T x1 ((ab a).1.later i) (ab a).2.1 (ab a).2.2.1 (ab a).2.2.2 n (by omega) EK zx);have l:=ae (show iK (aj s) (8*s.size) (dc 288) (List.replicate 32 5) p T=d from ab k);rw[ab l]at g;have f:=ae ((KU.refl b w).later i j);clear n i a k l;go_wp2_with fail;refine(ab g).mono ?_;intro e x2 h2;unfold cW at h2;rcases d with _|⟨T',q⟩
 . obtain⟨c,rfl⟩:=h2;refine⟨rfl,?_⟩;unfold cW;exact⟨(ab f).trans c,rfl⟩
 .
  obtain⟨c,rfl,s2⟩:=h2;have m:=ae (a0b ((ab f).trans c) s2);clear c s2 g f;go_wp2
  go_end0
  unfold cW;exact⟨(ab m).1,rfl,(ab m).2⟩
theorem bP.second{base:Nat}{a b:Array Value}(h:dL w base L D (a++b))(d:a.size=19):bP w base D b:=by
 obtain⟨E1,E2,e,f1,f2⟩:=h;have c:=congrArg Array.toList e;simp only[a1L]at c;have h2:=a14 c (by simp[d,f1.size]);rw[Array.ext' h2.2];exact f2
theorem uV{P:Program}{ops:Array Oper}{S:World->Prop}{op:Oper}{a:Act}(d:Region.wanted op (yielded ops a.tmps)=true)(t:TypeId)(parts:Array (Nat×Operand))(c:op.op = .build t parts)(cells:Array Value)
  (b:P.built t (parts.map fun(i,x)=>(i,a.eval x)).toList=some cells):YieldsIf P ops S op (.agg cells) a:=
 a0A ⟨d,fun w _=>by unfold execOp;simp only[c,a2C,run_build w t _ cells b,Result.andThen_ok,a3F]⟩
theorem si{P:Program}{ops:Array Oper}{S:World->Prop}{op:Oper}{a:Act}(d:Region.wanted op (yielded ops a.tmps)=true)(t:TypeId)(x y:Operand)(c:op.op = .build t #[(0,x),(1,y)])(cells:Array Value)(u v:Value)(f:a.eval x=u)(g:a.eval y=v)
  (b:P.built t [(0,u),(1,v)]=some cells):YieldsIf P ops S op (.agg cells) a:=by
 have e:((#[(0,x),(1,y)]:Array (Nat×Operand)).map fun(i,x)=>(i,a.eval x)).toList=[(0,u),(1,v)]:=by simp[f,g]
 exact uV d t _ c cells (by rw[e];exact b)
theorem AU(b p:Nat)(s:ByteArray)(T:List UInt8)(w:World)(h:Sou w b s p T)(hT:T.length<=300)(hs:s.size<=2000000)(hO:dT w)(hb:1<b) :
  Calls prog 228 #[.pointer (some ⟨b,0,none⟩)] w (cW w b s (ux (aj s) (8*s.size) p T)):=by
 have bc:prog.follows .mixedOrders=true:=by kernel_rfl
 obtain⟨d,hd⟩:∃d,ux (aj s) (8*s.size) p T=d:=⟨_,rfl⟩;rw[hd];have f:=ae hd;unfold ux at f;have y:=ae (a0b hs (a0b hT (a0b hO hb)));have j:=ae (cf b p 5 s w h.1 hs (by omega));have HS:=ae h;clear h hT hs hO hb hd;go_enter func228,ntmps228;unfold jm at j;rcases h1:rdN (aj s) (8*s.size) p 5 with _|⟨a,q1⟩
 .
  rw[h1]at j f;have t:Hid (d=none):=by show d=none;rw[←ab f];rfl
  clear h1 f;go_wp2_with fail;refine(ab j).mono ?_;rintro e x1 ⟨k1,rfl⟩;refine⟨rfl,?_⟩;unfold cW;rw[ab t];exact⟨k1.ku,rfl⟩
 rw[h1]at j f;simp only[a0f]at f;have ha:a<32:=by have:=(bF h1).2.2.2;omega
 clear h1;go_wp2_with fail;refine(ab j).mono ?_;rintro e x1 ⟨k1,rfl,r1⟩;have M:=ae k1;have a4:=ae r1;clear k1 r1 j;have j:=ae (cf b q1 5 s x1 (ab a4) (ab y).1 (by omega));unfold jm at j;rcases h2:rdN (aj s) (8*s.size) q1 5 with _|⟨c,q2⟩
 .
  rw[h2]at j f;have t:Hid (d=none):=by show d=none;rw[←ab f];rfl
  clear h2 f;go_wp2_with fail;refine(ab j).mono ?_;rintro e x2 ⟨k2,rfl⟩;refine⟨rfl,?_⟩;unfold cW;rw[ab t];exact⟨((ab M).trans k2).ku,rfl⟩
 rw[h2]at j f;simp only[a0f]at f;have hc:c<32:=by have:=(bF h2).2.2.2;omega
 clear h2;go_wp2_with fail;refine(ab j).mono ?_;rintro e x2 ⟨k2,rfl,r2⟩;have u:=ae ((ab M).trans k2);have a5:=ae r2;clear k2 r2 j M a4;have j:=ae (cf b q2 4 s x2 (ab a5) (ab y).1 (by omega));unfold jm at j;by_cases hA:a+257<=286/\c+1<=30
 .
  rw[a0e hA]at f;have z:(a:Int)+256+1<=286:=by omega
  have bs:(c:Int)+1<=30:=by omega
  clear hA;obtain⟨nL,hnL⟩:∃n,a+257=n:=⟨_,rfl⟩;obtain⟨nD,hnD⟩:∃n,c+1=n:=⟨_,rfl⟩;have e1:(a:Int)+256+1=(nL:Int):=by omega
  have e2:(c:Int)+1=(nD:Int):=by omega
  have l1:nL<=286/\257<=nL:=by omega
  have l2:nD<=30/\1<=nD:=by omega
  have l1I:(nL:Int)<=286:=by omega
  have l2I:(nD:Int)<=30:=by omega
  rw[hnL,hnD]at f;clear hnL hnD;go_wp2_with fail;refine(dh _).mono ?_;rintro e x3 ⟨rfl,k⟩;rw[k];clear k x3;clear e1 e2 z bs ha hc;rcases h3:rdN (aj s) (8*s.size) q2 4 with _|⟨m,q3⟩
  .
   rw[h3]at j f;have t:Hid (d=none):=by show d=none;rw[←ab f];rfl
   clear h3 f;go_wp2_with fail;refine(ab j).mono ?_;rintro e x3 ⟨k3,rfl⟩;refine⟨rfl,?_⟩;unfold cW;rw[ab t];exact⟨((ab u).trans k3).ku,rfl⟩
  rw[h3]at j f;simp only[a0f]at f;have b5:m<16:=by have:=(bF h3).2.2.2;omega
  have a7:=ae (bF h3).1;obtain⟨mm,hmm⟩:∃n,m+4=n:=⟨_,rfl⟩;have e3:(m:Int)+4=(mm:Int):=by omega
  have al:mm<=19:=by omega
  rw[hmm]at f;clear h3 hmm;go_wp2_with fail;refine(ab j).mono ?_;rintro e x3 ⟨k3,rfl,r3⟩;have x:=ae ((ab u).trans k3);have Q:=ae r3;clear k3 r3 j u a5;have HB:=ae (yt b q3 mm s x3 (ab Q) (ab a7) (ab y).1 al ((ab y).2.2.1.below (ab x).1 (ab y).2.2.2) (ab y).2.2.2);unfold LbP at HB;rcases h4:jv (aj s) (8*s.size) mm q3 with _|⟨B,q4⟩
  .
   rw[h4]at HB f;have t:Hid (d=none):=by show d=none;rw[←ab f];rfl
   clear h4 f;go_wp2_with fail;refine(ab HB).mono ?_;rintro e x4 ⟨k4,rfl⟩;refine⟨rfl,?_⟩;unfold cW;rw[ab t];exact⟨((ab x).trans k4).ku,rfl⟩
  rw[h4]at HB f;simp only[a0f]at f;have Y:=ae (qA h4 (ab a7));clear h4;go_wp2_with fail;refine(ab HB).mono ?_;rintro e x4 ⟨k4,⟨C,rfl,a8⟩,r4⟩;have N:=ae ((ab x).trans k4);have R:=ae r4;have an:=ae a8;have ba:b<x3.heap.size:=(ab Q).lt;clear k4 r4 HB x Q a8 e3;have P:=ae (yu b q4 (nL+nD) x3.heap.size s B C x4 (ab R) (ab Y).1 (ab y).1 (by omega) (ab an) ba (ab Y).2.2.1);have e5:((nL+nD:Nat):Int)=(nL:Int)+(nD:Int):=by omega
  rw[e5]at P;clear e5;unfold LnP at P;rcases h5:lnG (aj s) (8*s.size) B (nL+nD) q4 []with _|⟨A,q5⟩
  .
   rw[h5]at P f;have t:Hid (d=none):=by show d=none;rw[←ab f];rfl
   clear h5 f;go_wp2_with fail;refine(ab P).mono ?_;rintro e x5 ⟨k5,rfl⟩;refine⟨rfl,?_⟩;unfold cW;rw[ab t];exact⟨((ab N).trans k5).ku,rfl⟩
  rw[h5]at P f;simp only[a0f]at f;have a6:=ae (DK h5 (ab Y).1);clear h5;go_wp2_with fail;refine(ab P).mono ?_;rintro e x5 ⟨k5,⟨v,rfl,hv⟩,r5⟩;have D:A.length=nL+nD:=(ab a6).2.2;obtain⟨ga,cap,rfl⟩:=hv.formN D;obtain⟨g,rfl⟩:=hv.somes (by omega);have b4:nL+nD<=cap:=by
   rcases (hv.own D).2 with⟨e,_⟩|⟨g',b3,b8,e,_,_,h1,_⟩
   . cases e
   . simp only[a0J]at e;omega
  have O:=ae ((ab N).trans k5);have U:=ae ((ab HS).keep1 (ab O) r5);have bk:=ae (bG D (hv.own D));have bb:b<x4.heap.size:=(ab R).lt;have J:x4.heap.size<=x5.heap.size:=k5.1.size;clear k5 r5 P hv N R an;go_wp2_with fail;refine wp_region_held_drew (S:=fun _=>True) bc trivial (fun I=>?_);refine af 0 (.pointer (some ⟨b,0,none⟩)) rfl (by kernel_rfl) (fun _ _ _ h=>h) rfl (fun W r=>by go_simp) I ?_;refine af 1 (.slice (some ⟨g,0,none⟩) (nL+nD) cap) rfl (by kernel_rfl) (fun _ _ _ h=>h) rfl (fun W r=>by go_simp) I ?_;refine af 2 (.int .i64 (nL:Nat)) rfl (by kernel_rfl) (fun _ _ _ h=>h) rfl (fun W r=>by go_simp) I ?_;refine af 5 (.slice (some ⟨g,0,none⟩) (nL+nD) cap) rfl (by kernel_rfl) (fun _ _ _ h=>h) rfl (fun W r=>by go_simp) I ?_;refine af 6 (.int .i64 (nL:Nat)) rfl (by kernel_rfl) (fun _ _ _ h=>h) rfl (fun W r=>by go_simp) I ?_;refine af 3 (.slice (some ⟨g,0,none⟩) nL cap) rfl (by kernel_rfl) (fun _ _ _ h=>h) rfl (fun W r=>by go_simp;intro h;omega) I ?_;refine af 7 (.slice (some ⟨g,nL,none⟩) nD (cap-nL)) rfl (by kernel_rfl) (fun _ _ _ h=>h) rfl (fun W r=>by go_simp;rw[a0e (by omega),a0d (by omega)]) I ?_;have a1:Hid (cx x5.drew x4.heap.size (some ⟨g,0,none⟩) A):=(ab bk).later (a0c _ _).drew;have tl:(A.take nL).length=nL:=by rw[a0s];omega
  have dl:(A.drop nL).length=nD:=by rw[a04];omega
  have l:=ae (GE (some ⟨g,0,none⟩) cap nL x4.heap.size (A.take nL) x5.drew tl ((ab a1).take nL) J (by omega));refine ag 4 (by kernel_rfl) rfl fun K H=>?_;go_simp;go_at_call 241;unfold sS at f;cases ac:au (A.take nL)
  . rw[ac]at l f;simp only[a01,a02]at l f;refine(ab l).mono ?_;rintro e x6 ⟨Z,rfl⟩;refine⟨rfl,?_⟩;unfold cW;rw[←ab f];exact⟨((ab O).drew.ku).later Z (show b<x5.drew.heap.size from(ab U).lt),rfl⟩
  rw[ac]at l f;simp only[a0X]at l f;refine(ab l).mono ?_;rintro e x6 ⟨Z,F,rfl,E⟩;have a2:=ae (((ab O).drew.ku).later Z (show b<x5.drew.heap.size from(ab U).lt));have V:=ae (Sou.later (w:=x5.drew) (show Sou x5.drew b s q5 T from ab U) Z);have L:=ae E;have b2:x4.heap.size<=x6.heap.size:=a0E J Z.size;have bl:=ae ((ab a1).later Z);refine Shut.out H _ _ trivial (fun b0=>?_);clear H K Z E l;have o:=ae (CY (some ⟨g,nL,none⟩) (cap-nL) nD x4.heap.size (A.drop nL) x6 dl (by have:=(ab bl).drop nL;rwa[a0G]at this) b2 (by omega));refine ag 8 (by kernel_rfl) rfl fun K H=>?_;go_simp;go_at_call 242;cases ad:au (A.drop nL)
  . rw[ad]at o f;simp only[a01,a02]at o f;refine(ab o).mono ?_;rintro e x7 ⟨b7,rfl⟩;refine⟨rfl,?_⟩;unfold cW;rw[←ab f];exact⟨(ab a2).later b7 (ab V).lt,rfl⟩
  rw[ad]at o f;simp only[a0X]at o f;refine(ab o).mono ?_;rintro e x7 ⟨b7,G,rfl,aa⟩;have a3:=ae ((ab a2).later b7 (ab V).lt);have bn:=ae ((ab V).later b7);have a0:Hid (dL x7 x4.heap.size (A.take nL) (A.drop nL) (F++G)):=⟨F,G,rfl,(ab L).later b7,aa⟩;have bd:=(ab L).later b7;refine Shut.out H _ _ trivial (fun a9=>?_);clear H K b7 aa o;have be:Hid (prog.built 204 [(0,.agg F),(1,.agg G)]=some (F++G)):=by
   exact lW bd (bP.second (ab a0) (ab L).size)
  have X:=ae (uU b q5 x4.heap.size s (A.take nL) (A.drop nL) (F++G) T x7 (ab bn) (ab y).2.1 (ab a6).1 (ab y).1 (ab a0) bb ac ad);rw[ab f]at X;refine wpAnyH_take (i:=9) (v:=.agg (F++G)) rfl (by kernel_rfl) (by kernel_rfl) (by kernel_rfl) (fun _ _ _ h=>h) (si (by rfl) 204 (.tmp 35) (.tmp 39) rfl (F++G) (.agg F) (.agg G) rfl rfl (ab be)) a9 ?_;refine ag 10 (by kernel_rfl) rfl fun K H=>?_;go_simp;go_at_call 238;refine(ab X).mono ?_;intro e x8 h8;unfold cW at h8;rcases d with _|⟨T',q⟩
  . obtain⟨k8,rfl⟩:=h8;refine⟨rfl,?_⟩;unfold cW;exact⟨(ab a3).trans k8,rfl⟩
  .
   obtain⟨k8,rfl,s8⟩:=h8;have HY:=ae (a0b ((ab a3).trans k8) s8);refine Shut.out H _ _ trivial (fun b1=>?_);clear H K k8 s8 X;refine wpAnyH_done (by kernel_rfl) ?_ _;clear I b0 a9 b1;go_wp2
   go_end0
   unfold cW;exact⟨(ab HY).1,rfl,(ab HY).2⟩
 .
  rw[a0d hA]at f;have t:Hid (d=none):=by show d=none;rw[←ab f]
  by_cases z:a+257<=286
  .
   have E:(a:Int)+256+1<=286:=by omega
   have aa:decide ((c:Int)+1<=30)=false:=a0h (by omega);clear hA z;go_wp2_with fail;refine(fx _).mono ?_;rintro e x3 ⟨rfl,k⟩;rw[k];clear k x3;refine⟨rfl,?_⟩;unfold cW;rw[ab t];exact⟨(ab u).ku,rfl⟩
  . have E:decide ((a:Int)+256+1<=286)=false:=a0h (by omega);clear hA z;go_wp2_with fail;refine(fx _).mono ?_;rintro e x3 ⟨rfl,k⟩;rw[k];clear k x3;refine⟨rfl,?_⟩;unfold cW;rw[ab t];exact⟨(ab u).ku,rfl⟩
def MR(sz p:Nat)(T:List UInt8)(d:Option (List UInt8×Nat))(T':List UInt8)(q:Nat)(f:Bool):Prop:=
 (f=false->q<=sz/\p<=q/\T'.length<=300+q)/\(T.length<=300->f=false->T'.length<=300->d=some (T',q))/\(T.length<=300->(f=true∨300<T'.length)->d=none)/\(300<T.length->f=true∨300<T'.length)
def MP(w:World)(b p:Nat)(s:ByteArray)(T:List UInt8)(d:Option (List UInt8×Nat))(e:Ending)(w':World):Prop:=
 KU b w w'/\∃v T' q f,e = .returned v/\aQ w' (b+1) v T'/\RF w' b s q f/\MR (8*s.size) p T d T' q f
theorem MR.bad(h:T.length<=300->d=none):MR sz p T d T' q true:=
 ⟨nofun,fun _=>nofun,fun a _=>h a,fun _=>.inl rfl⟩
theorem mV(R:List UInt8)(y:Nat)(b:y<256):eT R ((y:Nat),0,0)=if R.length+1<=300 then some (R++[dz (y:Nat)])else none:=by
 have a:isB (((y:Nat):Int),0,0)=true:=by unfold isB inB;simp;omega
 unfold eT gJ;rw[a];simp
theorem Cu: ∀(n p:Nat) (T T':List UInt8) (q:Nat),dZ V sz n p T=some (T',q)->T'.length=T.length+n/\(0<n->T'.length<=300):=by
 intro n;induction n with
 | zero=>
  intro p T T' q h;simp only[dZ,a0l,a08]at h;obtain⟨rfl,rfl⟩:=h;exact⟨rfl,fun h=>by omega⟩
 | succ n ih=>
  intro p T T' q h;simp only[dZ]at h;rcases a:rdN V sz p 8 with _|⟨x,r⟩
  . rw[a]at h;cases h
  .
   rw[a]at h;simp only[a0f]at h;have c:=bF a;rw[mV T x (by have:=c.2.2.2;omega)]at h
   split at h
   .
    simp only[a0f]at h;obtain⟨a1,a2⟩:=ih _ _ _ _ h;rw[a0j,a1o]at a1;refine⟨by omega,fun _=>?_⟩;rcases a2m n with b|b
    . omega
    . exact a2 b
   . cases h
theorem yY(h:300<n):dZ V sz n p T=none:=by
 rcases a:dZ V sz n p T with _|⟨T',q⟩
 . rfl
 . have:=Cu _ _ _ _ _ a;have:=this.2 (by omega);omega
def StI(sz V x q0:Nat)(T:List UInt8)(d:Option (List UInt8×Nat))(k q:Nat)(R:List UInt8)(f:Bool):Prop:=
 k<=x/\T.length<=R.length/\R.length<=T.length+k/\(f=false->q<=sz/\q0<=q/\R.length<=300+q/\(R.length<=300->dZ V sz (x-k) q R=d)/\(300<R.length->T.length<=300->d=none))/\(f=true->T.length<=300->d=none)
theorem StI.next{x i:Nat}(h:StI sz V x i T d k q R false)(f:k<x):StI sz V x i T d (k+1) (q+8) (R++[dz ((V/2 ^ q%2 ^ 8:Nat):Int)]) (false || decide (sz<q+8)):=by
 obtain⟨l,h2,m,j,_⟩:=h;obtain⟨a1,a2,a3,a4,a5⟩:=j rfl;have e:x-k=(x-(k+1))+1:=by omega
 have g:V/2 ^ q%2 ^ 8<256:=a0Y _ (by decide);rw[a2h];have n:(R++[dz ((V/2 ^ q%2 ^ 8:Nat):Int)]).length=R.length+1:=by simp
 by_cases c:sz<q+8
 .
  rw[a0v c];refine⟨f,by omega,by omega,nofun,fun _ b=>?_⟩;by_cases a:R.length<=300
  . rw[←a4 a,e];simp only[dZ];rw[fi (by omega)];rfl
  . exact a5 (by omega) b
 .
  rw[a0h c];refine⟨f,by omega,by omega,fun _=>⟨by omega,by omega,by omega,fun h=>?_,fun h b=>?_⟩,nofun⟩
  . have:=a4 (by omega);rw[e]at this;simp only[dZ]at this;rw[cR (by omega)]at this;simp only[a0f]at this;rw[mV R _ g,a0e (by omega)]at this;exact this
  .
   by_cases a:R.length<=300
   . have:=a4 a;rw[e]at this;simp only[dZ]at this;rw[cR (by omega)]at this;simp only[a0f]at this;rw[mV R _ g,a0d (by omega)]at this;exact this.symm
   . exact a5 (by omega) b
theorem StI.done{x b:Nat}(h:StI sz V x b T d k q R f)(n:p<=b)(i:f=true∨¬ k<x):MR sz p T d R q f:=by
 obtain⟨l,h2,m,c,e⟩:=h;cases f
 .
  obtain⟨a1,a2,a3,a4,a5⟩:=c rfl;have j:x-k=0:=by
   rcases i with h|h
   . cases h
   . omega
  refine⟨fun _=>⟨a1,by omega,a3⟩,fun a _ g=>?_,fun a h=>?_,fun a=>.inr (by omega)⟩
  . rw[←a4 g,j];rfl
  .
   rcases h with h|h
   . cases h
   . exact a5 h a
 . exact MR.bad (e rfl)
def MS(w:World)(b:Nat)(s:ByteArray)(x:World)(v:Value)(R:List UInt8)(q:Nat)(f:Bool):Prop:=KU b w x/\aQ x (b+1) v R/\RF x b s q f
theorem MS.keep1{f':Bool}(h:MS w b s x v R q f)(a:av b x x')(c:RF x' b s q' f'):MS w b s x' v R q' f':=⟨h.1.trans a.ku,h.2.1.keep1 a (a0i _),c⟩
theorem MS.setBad(h:MS w b s x v R q f):MS w b s (x.setCell ⟨b,2,none⟩ (.bool true)) v R q true:=h.keep1 (bz _ _ _ _) h.2.2.setBad
theorem MS.lt(h:MS w b s x v R q f):b<x.heap.size:=h.2.2.lt
theorem MS.belU{a:List UInt8}(h:MS w b s x v R q f)(hb:cJ (b+1) x x')(e:aQ x' (b+1) v' a):MS w b s x' v' a q f:=
 ⟨h.1.trans ⟨hb.1.mono (a06 _),fun j c _ d=>hb.2 j c d⟩,e,h.2.2.kept hb.1⟩
theorem MS.end(h:MS w b s x v R q f)(a:MR (8*s.size) p T d R q f):MP w b p s T d (.returned v) x:=⟨h.1,v,R,q,f,rfl,h.2.1,h.2.2,a⟩
theorem mJ(h:gz V p=none):dS V sz p T=none:=by unfold dS;rw[h];rfl
theorem rI(h:gz V p=some q):dS V sz p T=(rdN V sz q 16).bind fun a=>(rdN V sz a.2 16).bind fun c=>if c.1=65535-a.1 then dZ V sz a.1 c.2 T else none:=by unfold dS;rw[h];rfl
theorem mL(h:gz V p=some q)(b:sz<q+32):dS V sz p T=none:=by
 rw[rI h];by_cases a:q+16<=sz
 . rw[cR a];simp only[a0f];rw[fi (by omega)];rfl
 . rw[fi a];rfl
theorem oE(h:gz V p=some q)(a:q+32<=sz):dS V sz p T=if V/2 ^ (q+16)%2 ^ 16=65535-V/2 ^ q%2 ^ 16 then dZ V sz (V/2 ^ q%2 ^ 16) (q+32) T else none:=by
 rw[rI h,cR (by omega)];simp only[a0f];rw[cR (by omega)];simp only[a0f]
theorem Ia(h:gz V p=some q)(b:¬ V/2 ^ (q+16)%2 ^ 16=65535-V/2 ^ q%2 ^ 16):dS V sz p T=none:=by
 by_cases a:q+32<=sz
 . rw[oE h a,a0d b]
 . exact mL h (by omega)
theorem D9(h:gz V p=some q)(b:300<V/2 ^ q%2 ^ 16):dS V sz p T=none:=by
 by_cases a:q+32<=sz
 .
  rw[oE h a]
  split
  . exact yY b
  . rfl
 . exact mL h (by omega)
theorem Ea(b p n cap:Nat)(a:Option Addr)(s:ByteArray)(T:List UInt8)(w:World)(hn:T.length=n)(ho:aQ w (b+1) (.slice a n cap) T)(hr:Rdr w b s p)(hp:p<=8*s.size)(hs:s.size<=2000)(hT:n<=300+p) :
  Calls prog 160 #[.pointer (some ⟨b,0,none⟩),.slice a n cap] w (MP w b p s T (dS (aj s) (8*s.size) p T)):=by
 obtain⟨i0,hi,ba,bb,bc⟩:=a0o Tryz.infoU8;obtain⟨d,hd⟩:∃d,dS (aj s) (8*s.size) p T=d:=⟨_,rfl⟩;rw[hd];have U:RF w b s p false:=by have:=dQ hr;rwa[a0h (by omega)]at this
 have F:Hid (MS w b s w (.slice a n cap) T p false):=⟨KU.refl _ _,ho,U⟩;have V:=ae (pO b p false s w U hp (by omega));have E:=ae (a0b hs (a0b hn (a0b hT hp)));have O:=ae hd;clear hn ho hr hs hT hd U;have a2:p+(8-p%8)%8<=8*s.size:=by omega
 have H:Hid (gz (aj s) p=if aj s/2 ^ p%2 ^ ((8-p%8)%8)=0 then some (p+(8-p%8)%8)else none):=rfl;generalize a9:p+(8-p%8)%8=q1 at *
 have P:Hid (p<=q1):=by show p<=q1;omega
 clear a9 hp;have a4:=ae a2;clear a2;go_enter func160,ntmps160;by_cases z:aj s/2 ^ p%2 ^ ((8-p%8)%8)=0
 .
  rw[a0v z]at V;rw[a0e z]at H;clear z;go_wp2_with fail;refine(ab V).mono ?_;rintro e x1 ⟨rfl,W,k1⟩;have t:=ae ((ab F).keep1 k1 W);clear k1 W V F;have r:=ae (iQ b q1 16 false s x1 (ab t).2.2 (fun _=>ab a4) (by have:=ab E;omega) (by omega));rw[a2h]at r;go_wp2_with fail;refine(ab r).mono ?_;rintro e x2 ⟨rfl,r2,k2⟩;have u:=ae ((ab t).keep1 k2 r2);clear k2 r2 r t;have r:=ae (iQ b (q1+16) 16 _ s x2 (ab u).2.2 (fun h=>by have:=of_decide_eq_false h;omega) (by have:=ab E;omega) (by omega));obtain⟨X,hX⟩:∃X,aj s/2 ^ q1%2 ^ 16=X:=⟨_,rfl⟩;obtain⟨Y,hY⟩:∃Y,aj s/2 ^ (q1+16)%2 ^ 16=Y:=⟨_,rfl⟩;have a5:(X:Int)<=65535:=by
   have:aj s/2 ^ q1%2 ^ 16<65536:=a0Y _ (by decide);omega
  have a6:(Y:Int)<=65535:=by
   have:aj s/2 ^ (q1+16)%2 ^ 16<65536:=a0Y _ (by decide);omega
  have a7:∃f,(decide (8*s.size<q1+16) || decide (8*s.size<q1+16+16))=f/\f=decide (8*s.size<q1+32):=⟨_,rfl,by rw[a2a];simp;omega⟩;obtain⟨f,an,a0⟩:=a7;rw[an,hY]at r;rw[hX];have Hf:=ae a0;have C:=ae (a0b hX hY);clear an a0 hX hY;go_wp2_with fail;refine(ab r).mono ?_;rintro e x3 ⟨rfl,r3,k3⟩;have j:=ae ((ab u).keep1 k3 r3);clear k3 r3 r u;obtain⟨c3,f3⟩:=(ab j).2.2.bad;by_cases o:Y=65535-X
  .
   by_cases x:300<X
   .
    have gI:(300:Int)<(X:Int):=by omega
    have g1:(Y:Int)=65535-(X:Int):=by omega
    have c:Hid (T.length<=300->d=none):=fun _=>by rw[←ab O];exact(D9 (ab H) (by rw[(ab C).1];exact x))
    clear o x;have l:=ae (ab j).setBad;go_wp2_with fail;generalize x3.setCell ⟨b,2,none⟩ (.bool true)=XW at *
    have g:=ae (ab l);have c4:=(ab g).2.2.bad.1
    go_loopw [1,6] (fun v i wr=>v = .slice a n cap/\i = .int .i64 0/\wr=XW) (fun _ _ _=>0)
    case atStart=>exact⟨rfl,rfl,rfl⟩
    case round=>
     obtain⟨rfl,rfl,rfl⟩:=hrel;by_cases h0:0<X
     . go_wp2;go_ret;exact(ab g).end (MR.bad (ab c))
     . go_wp2;go_ret;exact(ab g).end (MR.bad (ab c))
   .
    have gI:¬ (300:Int)<(X:Int):=by omega
    have g1:(Y:Int)=65535-(X:Int):=by omega
    cases f
    .
     have Q:q1+32<=8*s.size:=by have:=ab Hf;have:=of_decide_eq_false this.symm;omega
     have Z:Hid (StI (8*s.size) (aj s) X (q1+32) T d 0 (q1+32) T false):=by
      refine⟨a0g _,a0a _,a0a _,fun _=>⟨Q,a0a _,by have:=ab E;have:=ab P;omega,fun _=>?_,fun h1 h2=>by omega⟩,nofun⟩;rw[←ab O,oE (ab H) Q,(ab C).1,(ab C).2,a0e o];rfl
     have Hn:=ae (ab E).2.1;have aa:Hid (n<=300+p/\p<=8*s.size/\s.size<=2000):=⟨(ab E).2.2.1,(ab E).2.2.2,(ab E).1⟩;have L:Hid (MS w b s x3 (.slice a n cap) T (q1+32) false):=ab j;clear o x Q j;go_wp2_with fail
     go_loopw [1,6] (fun v i wr=>∃(k q:Nat) (R:List UInt8) (f:Bool),i = .int .i64 k/\MS w b s wr v R q f/\StI (8*s.size) (aj s) X (q1+32) T d k q R f) (fun _ i _=>X-(intOf i).toNat)
     case atStart=>exact⟨0,q1+32,T,false,rfl,ab L,ab Z⟩
     case round=>
      obtain⟨k,q,R,f,rfl,I,J⟩:=hrel;clear L Z c3 f3;have be:=J.1;obtain⟨m,hm⟩:∃m,R.length=m:=⟨_,rfl⟩;obtain⟨va,vc,rfl⟩:=I.2.1.formN hm;obtain⟨c2,f2⟩:=I.2.2.bad;have A:=ae I;have B:=ae J;have bk:m<=20000:=by have:=J.2.2.1;have:=ab aa;have:=ab Hn;omega
      have Hm:=ae hm;clear I J hm;by_cases hk:k<X
      .
       have a8:(k:Int)<(X:Int):=by omega
       cases f
       .
        have r:=ae (iQ b q 8 false s wr (ab A).2.2 (fun _=>((ab B).2.2.2.1 rfl).1) (by have:=ab aa;omega) (by omega));have M:=ae ((ab B).next hk);obtain⟨y,hy⟩:∃y,aj s/2 ^ q%2 ^ 8=y:=⟨_,rfl⟩;have bl:y<256:=by rw[←hy];exact a0Y _ (by decide)
        have hu:IntKind.u8.wrap (y:Int)=(y:Int):=BS (by omega) (by omega);rw[hy]at r M;clear hy;go_wp2_with fail;refine(ab r).mono ?_;rintro e x5 ⟨rfl,r5,k5⟩;have G:=ae ((ab A).keep1 k5 r5);have S:=ae ((ab G).2.1.own (ab Hm));have ad:b+1<=x5.heap.size:=(ab G).lt;have bd:Hid (m+1<=maxLen/\(m+1)*1<=140737488355328):=by show _/\_;unfold maxLen;omega
        clear r5 k5 r A c2 f2 B;go_wp2_with (at_builtin;refine a0r _ rfl _ _ 103 rfl (b+1) 5 i0 (.int .u8 0) 1 1 a0Q hi ba bb bc rfl (by decide) (.slice va m vc) _ _ rfl (a0k (ab S) _) ⟨x5.heap.size,0,none⟩ 1 1 [.int .u8 (y:Int)] rfl rfl (bE _ _ rfl _ _) (one_byte _) (ab bd).1 (ab bd).2 (ao ad _) ?_;intro v' x6 N D a1;clear a1);have al:cJ (b+1) x5 x6:=iD D (ab S) (a0a _) ad (cJ.refl _ _);have ac:aQ x6 (b+1) v' (R++[dz (y:Int)]):=cq (ab Hm) (by rw[ew (by omega) (by omega)];exact N);have a3:=ae ((ab G).belU al ac);clear N D al ac G S;go_wp2_with fail;go_roundw
        case rel=>exact⟨k+1,q+8,_,_,by go_num,ab a3,ab M⟩
        case measure=>simp[intOf];omega
       . go_wp2;go_ret;exact(ab A).end ((ab B).done (by have:=ab P;omega) (.inl rfl))
      .
       have a8:¬ (k:Int)<(X:Int):=by omega
       go_wp2;go_ret;exact(ab A).end ((ab B).done (by have:=ab P;omega) (.inr hk))
    .
     have c:Hid (T.length<=300->d=none):=fun _=>by rw[←ab O];exact mL (ab H) (a3n (ab Hf).symm)
     clear o x;go_wp2_with fail;have g:=j;generalize x3=XW at *
     have c4:=(ab g).2.2.bad.1
     go_loopw [1,6] (fun v i wr=>v = .slice a n cap/\i = .int .i64 0/\wr=XW) (fun _ _ _=>0)
     case atStart=>exact⟨rfl,rfl,rfl⟩
     case round=>
      obtain⟨rfl,rfl,rfl⟩:=hrel;by_cases h0:0<X
      . go_wp2;go_ret;exact(ab g).end (MR.bad (ab c))
      . go_wp2;go_ret;exact(ab g).end (MR.bad (ab c))
  .
   have g1:¬ (Y:Int)=65535-(X:Int):=by omega
   have c:Hid (T.length<=300->d=none):=fun _=>by rw[←ab O];exact(Ia (ab H) (by rw[(ab C).1,(ab C).2];exact o))
   clear o;have l:=ae (ab j).setBad;go_wp2_with fail;generalize x3.setCell ⟨b,2,none⟩ (.bool true)=XW at *
   have g:=ae (ab l);have c4:=(ab g).2.2.bad.1
   go_loopw [1,6] (fun v i wr=>v = .slice a n cap/\i = .int .i64 0/\wr=XW) (fun _ _ _=>0)
   case atStart=>exact⟨rfl,rfl,rfl⟩
   case round=>
    obtain⟨rfl,rfl,rfl⟩:=hrel;by_cases h0:0<X
    . go_wp2;go_ret;exact(ab g).end (MR.bad (ab c))
    . go_wp2;go_ret;exact(ab g).end (MR.bad (ab c))
 .
  rw[a0h z]at V;rw[a0d z]at H;clear z;go_wp2_with fail;refine(ab V).mono ?_;rintro e x1 ⟨rfl,W,k1⟩;obtain⟨c1,f1⟩:=W.bad;have K:=ae ((ab F).keep1 k1 W).setBad;clear k1 W V F;go_wp2_with fail;have t:=ae (ab K);generalize x1.setCell ⟨b,2,none⟩ (.bool true)=x1b at *
  clear K c1 f1;have r:=ae (iQ b q1 16 true s x1b (ab t).2.2 nofun (by have:=ab E;omega) (by omega));rw[a3f]at r;refine(ab r).mono ?_;rintro e x2 ⟨rfl,r2,k2⟩;have u:=ae ((ab t).keep1 k2 r2);clear k2 r2 r t;have r:=ae (iQ b (q1+16) 16 true s x2 (ab u).2.2 nofun (by have:=ab E;omega) (by omega));rw[a3f]at r;obtain⟨X,hX⟩:∃X,aj s/2 ^ q1%2 ^ 16=X:=⟨_,rfl⟩;obtain⟨Y,hY⟩:∃Y,aj s/2 ^ (q1+16)%2 ^ 16=Y:=⟨_,rfl⟩;have a5:(X:Int)<=65535:=by
   have:aj s/2 ^ q1%2 ^ 16<65536:=a0Y _ (by decide);omega
  have a6:(Y:Int)<=65535:=by
   have:aj s/2 ^ (q1+16)%2 ^ 16<65536:=a0Y _ (by decide);omega
  rw[hY]at r;rw[hX];clear hX hY;go_wp2_with fail;refine(ab r).mono ?_;rintro e x3 ⟨rfl,r3,k3⟩;have j:=ae ((ab u).keep1 k3 r3);clear k3 r3 r u;obtain⟨c3,f3⟩:=(ab j).2.2.bad;by_cases o:Y=65535-X
  .
   by_cases x:300<X
   .
    have gI:(300:Int)<(X:Int):=by omega
    have g1:(Y:Int)=65535-(X:Int):=by omega
    have c:Hid (T.length<=300->d=none):=fun _=>by rw[←ab O];exact mJ (ab H)
    clear o x;have l:=ae (ab j).setBad;go_wp2_with fail;generalize x3.setCell ⟨b,2,none⟩ (.bool true)=XW at *
    have g:=ae (ab l);have c4:=(ab g).2.2.bad.1
    go_loopw [1,6] (fun v i wr=>v = .slice a n cap/\i = .int .i64 0/\wr=XW) (fun _ _ _=>0)
    case atStart=>exact⟨rfl,rfl,rfl⟩
    case round=>
     obtain⟨rfl,rfl,rfl⟩:=hrel;by_cases h0:0<X
     . go_wp2;go_ret;exact(ab g).end (MR.bad (ab c))
     . go_wp2;go_ret;exact(ab g).end (MR.bad (ab c))
   .
    have gI:¬ (300:Int)<(X:Int):=by omega
    have g1:(Y:Int)=65535-(X:Int):=by omega
    have c:Hid (T.length<=300->d=none):=fun _=>by rw[←ab O];exact mJ (ab H)
    clear o x;go_wp2_with fail;have g:=j;generalize x3=XW at *
    have c4:=(ab g).2.2.bad.1
    go_loopw [1,6] (fun v i wr=>v = .slice a n cap/\i = .int .i64 0/\wr=XW) (fun _ _ _=>0)
    case atStart=>exact⟨rfl,rfl,rfl⟩
    case round=>
     obtain⟨rfl,rfl,rfl⟩:=hrel;by_cases h0:0<X
     . go_wp2;go_ret;exact(ab g).end (MR.bad (ab c))
     . go_wp2;go_ret;exact(ab g).end (MR.bad (ab c))
  .
   have g1:¬ (Y:Int)=65535-(X:Int):=by omega
   have c:Hid (T.length<=300->d=none):=fun _=>by rw[←ab O];exact mJ (ab H)
   clear o;have l:=ae (ab j).setBad;go_wp2_with fail;generalize x3.setCell ⟨b,2,none⟩ (.bool true)=XW at *
   have g:=ae (ab l);have c4:=(ab g).2.2.bad.1
   go_loopw [1,6] (fun v i wr=>v = .slice a n cap/\i = .int .i64 0/\wr=XW) (fun _ _ _=>0)
   case atStart=>exact⟨rfl,rfl,rfl⟩
   case round=>
    obtain⟨rfl,rfl,rfl⟩:=hrel;by_cases h0:0<X
    . go_wp2;go_ret;exact(ab g).end (MR.bad (ab c))
    . go_wp2;go_ret;exact(ab g).end (MR.bad (ab c))
def agG(V sz:Nat)(D:List Int)(k p:Nat)(T:List UInt8):Option (List UInt8×Nat):=(fV V sz D k p).bind fun t=>(gJ T t.1).bind fun x=>some (x,t.2)
def AgP(w:World)(b:Nat)(s:ByteArray)(d:Option (List UInt8×Nat))(e:Ending)(w':World):Prop:=
 KU b w w'/\∃v T' q f,e = .returned v/\aQ w' (b+1) v T'/\RF w' b s q f/\d=if f=true then none else some (T',q)
theorem FA(b C n cap k nD a3 bd:Nat)(a ad acd:Option Addr)(s:ByteArray)(T:List UInt8)(D:List Int)(w:World)(hn:T.length=n)(ho:aQ w (b+1) (.slice a n cap) T)(hr:Rdr w b s C)(hp:C<=8*s.size)(hs:s.size<=2000)(hT:n<=300)(hk:k<=700)
  (hD:D.length=nD) (ca:au D=true) (ch:∀W,av b w W->aZ W ad D) (cc:∀W,av b w W->aZ W acd (aV D 15).2) :
  Calls prog 203 #[.pointer (some ⟨b,0,none⟩),.slice a n cap,.int .i64 ((k:Nat)+257),.slice ad nD a3,.slice acd nD bd] w (AgP w b s (agG (aj s) (8*s.size) D k C T)):=by
 have ba:prog.follows .mixedOrders=true:=by kernel_rfl
 obtain⟨d,hd⟩:∃d,agG (aj s) (8*s.size) D k C T=d:=⟨_,rfl⟩;rw[hd];have HD:=ae hd;have cg:RF w b s C false:=by have:=dQ hr;rwa[a0h (by omega)]at this
 have HO:=ae ho;have bc:=ae cg;have HN:=ae (a0b hs (a0b hn hT));have co:=ae hp;have an:=ae (a0b hD (a0b ca (a0b ch cc)));have ek:(k:Int)+257-257=(k:Int):=by omega
 have cv:(k:Int)<=700:=by omega
 clear hn ho hr hp hs hT hD ca ch cc hd cg;go_enter func203,ntmps203;go_wp2_with fail;refine(je w).mono ?_;rintro e x0 ⟨rfl,o0,b0⟩;have A:=ae ((av.refl b w).later b0 (ab bc).lt);have l:=ae ((ab bc).kept (b0.mono (ab bc).lt));clear o0 b0;by_cases a6:k<28
 .
  have b4:(k:Int)<28:=by omega
  have t:=ae a6;obtain⟨E1,hE1⟩:∃E,(stF 3 4 k).1=E:=⟨_,rfl⟩;obtain⟨E2,hE2⟩:∃E,(stF 3 4 k).2=E:=⟨_,rfl⟩;have a4:=qO (L:=3) (G:=4) (k:=k) (by omega) (by omega) (by omega) (by omega);rw[hE1,hE2]at a4;have M:(E1:Int)<=200000:=by omega
  have N:(E2:Int)<=14:=by omega
  have z:Hid (E2<=16):=by show E2<=16;omega
  have P:Hid (((stF 3 4 k).1:Int)=(E1:Int)):=by show _=_;rw[hE1]
  have R:Hid (((stF 3 4 k).2:Int)=(E2:Int)):=by show _=_;rw[hE2]
  obtain⟨X,hX⟩:∃X,aj s/2 ^ C%2 ^ E2=X:=⟨_,rfl⟩;have a9:(X:Int)<=65535:=by
   have h1:aj s/2 ^ C%2 ^ E2<2 ^ E2:=a0Y _ (a1r _);have h2:2 ^ E2<=2 ^ 16:=a0N (by omega) (by omega);have h3:(2:Nat) ^ 16=65536:=by decide
   omega
  have HX:=ae hX;have a1:Hid (IntKind.i64.wrap ((E1:Int)+(X:Int))=(E1:Int)+(X:Int)):=by show _=_;rw[a0Z];omega
  have y:=ae (a0b hE1 hE2);clear a4 hE1 hE2 hX;go_wp2_with fail;go_cut[12] (fun v wx=>v = .int .i64 ((E1+X:Nat):Int)/\av b w wx/\RF wx b s (C+E2) (decide (8*s.size<C+E2)))
  case first=>
   refine wp_region_held_drew (S:=fun _=>True) ba trivial (fun _=>?_);refine af 2 (.int .i64 (k:Nat)) rfl (by kernel_rfl) (fun _ _ _ h=>h) rfl (fun W m=>by go_simp) trivial ?_;refine af 5 (.pointer (some ⟨b,0,none⟩)) rfl (by kernel_rfl) (fun _ _ _ h=>h) rfl (fun W m=>by go_simp) trivial ?_;refine af 7 (.int .i64 (k:Nat)) rfl (by kernel_rfl) (fun _ _ _ h=>h) rfl (fun W m=>by go_simp) trivial ?_;refine ag 0 (by kernel_rfl) rfl fun K g=>?_;go_simp;go_at_call 166;refine(je _).mono ?_;rintro e y1 ⟨rfl,o1,b1⟩;have u:=ae ((ab A).drew.later b1 (show b<x0.drew.heap.size from(ab l).lt));have r:=ae (RF.kept (w:=x0.drew) (show RF x0.drew b s C false from ab l) (b1.mono (ab l).lt));have bb:=ae (o1.rowN rfl);clear o1 b1;refine Shut.out g _ _ trivial (fun _=>?_);clear g K;refine ag 1 (by kernel_rfl) rfl fun K g=>?_;go_simp;go_at_call 165;refine(ju _ 28 y1 (ab bb)).mono ?_;rintro e y2 ⟨v2,rfl,o2,b2⟩;have J:(jQ).length=28:=kv _ _ _;obtain⟨a2,b9,rfl⟩:=o2.formN J;obtain⟨g2,rfl⟩:=o2.somes (by omega);have o:g2<y2.heap.size:=o2.below.2;have a0:Hid (g2≠b):=by show g2≠b;have:=o2.below.1;have:=(ab r).lt;omega
   have c:=(o2.at J (show k<28 from ab t)).1;rw[Aq _ (ab t),ab P]at c;have q:=ae ((ab u).later b2 (ab r).lt);have f:=ae ((ab r).kept (b2.mono (ab r).lt));clear o2 b2 J;refine Shut.out g _ _ trivial (fun _=>?_);clear g K;refine iv (S':=fun W=>W.cell? ⟨g2,k,none⟩=some (.int .i64 (E1:Nat))) (fun _ _=>trivial) _ _ _ _ ?_;refine wpAnyH_take (i:=3) (v:=.pointer (some ⟨g2,k,none⟩)) rfl (by kernel_rfl) (by kernel_rfl) (by kernel_rfl) (fun _ _ _ h=>h) (a0A ⟨by rfl,fun W m=>by go_simp<;>(intro h;omega)⟩) c ?_;refine wpAnyH_take (i:=4) (v:=.int .i64 (E1:Nat)) rfl (by kernel_rfl) (by kernel_rfl) (by kernel_rfl) (fun _ _ _ h=>h) (a0A ⟨by rfl,fun W m=>by go_simp⟩) c ?_;refine ag 6 (by kernel_rfl) rfl fun K g=>?_;go_simp;go_at_call 166;refine(je _).mono ?_;rintro e y3 ⟨rfl,o3,I⟩;have bk:=(o3.at rfl (show k<28 from ab t)).1;rw[Ar _ (ab t),ab R]at bk;have c:=(I.cell (p:=⟨g2,k,none⟩) o).trans c;have V:=ae ((ab q).later I (ab f).lt);have Z:=ae ((ab f).kept (I.mono (ab f).lt));have O:g2<y3.heap.size:=a0m o I.size;generalize bl:y2.heap.size=g3 at *
   clear o3 I bl;refine Shut.out g _ _ c (fun _=>?_);clear g K;refine wpAnyH_take (i:=8) (v:=.pointer (some ⟨g3,k,none⟩)) rfl (by kernel_rfl) (by kernel_rfl) (by kernel_rfl) (fun _ _ _ h=>h) (a0A ⟨by rfl,fun W m=>by go_simp<;>(intro h;omega)⟩) c ?_;refine ag 9 (by kernel_rfl) rfl fun K g=>?_;go_simp;refine Shut.out g _ _ c (fun _=>?_);clear g K;refine ag 10 (by kernel_rfl) rfl fun K g=>?_;go_simp;go_at_call 159;have HM:=ae (iQ b C E2 false s y3 (ab Z) (fun _=>ab co) (by have:=ab HN;omega) (ab z));rw[a2h,ab HX]at HM;refine(ab HM).mono ?_;rintro e y4 ⟨rfl,r4,k4⟩;have c:y4.cell? ⟨g2,k,none⟩=some (.int .i64 (E1:Nat)):=(World.cell?_of_block (w:=y3) (k4.2 _ O (ab a0)) (a:=⟨g2,k,none⟩)).trans c;have Y:=ae ((ab V).trans k4);have B:=ae r4;clear r4 k4;refine Shut.out g _ _ c (fun _=>?_);clear g K;refine wpAnyH_take (i:=11) (v:=.int .i64 ((E1+X:Nat):Int)) rfl (by kernel_rfl) (by kernel_rfl) (by kernel_rfl) (fun _ _ _ h=>h) (a0A ⟨by rfl,fun W m=>by go_simp;exact ab a1⟩) c ?_;refine ag 12 (by kernel_rfl) rfl fun K g=>?_;go_simp;refine Shut.out g _ _ c (fun _=>?_);clear g K;refine wpAnyH_done (by kernel_rfl) ?_ _;clear HM;go_wp2_with fail
   go_meet
   case rel=>exact⟨rfl,ab Y,ab B⟩
  case rest=>
   obtain⟨rfl,aa,ac⟩:=hcut;clear a1;have HL:=ae (a0b (ab y) (ab HX));have cr:((E1+X:Nat):Int)<=300000:=by omega
   obtain⟨LG,hLG⟩:∃L,E1+X=L:=⟨_,rfl⟩;rw[hLG]at cr ⊢;have b6:=ae hLG;by_cases hc:C+E2<=8*s.size
   .
    rw[a0h (by omega)]at ac;have a8:Hid (scG (aj s) (8*s.size) 3 4 28 k C=some (LG,C+E2)):=by
     show _=_;unfold scG;rw[a0e (ab t),(ab y).2,cR hc,(ab y).1];simp only[a0f];rw[ab HX,ab b6]
    have H:=ae (qR ad acd a3 bd nD b (C+E2) D s wc (ab an).1 (ab an).2.1 (by have:=ab HN;omega) (oA ac hc) hc (fun W hW=>(ab an).2.2.1 W (aa.trans hW)) (fun W hW=>(ab an).2.2.2 W (aa.trans hW)));have u:=ae aa;clear aa ac hLG M N a9 P R z y HX b6 HL;unfold oK at H;rcases h2:dec D (aj s) (8*s.size) (C+E2)with _|⟨j,q2⟩
    .
     rw[h2]at H;have Hn:Hid (d=none):=by
      show d=none;rw[←ab HD];unfold agG fV;rw[ab a8];simp only[a0f];rw[h2];rfl
     clear h2;go_wp2_with fail;refine(ab H).mono ?_;rintro e x2 ⟨k2,xx,qq,rfl,r2⟩;have q:=ae ((ab u).trans k2);have f:=ae r2;obtain⟨c2,f2⟩:=r2.bad;have o:=r2.lt;clear r2 k2 u H;go_wp2;go_ret;refine⟨((ab q).trans (bz _ _ _ _)).ku,_,T,_,true,rfl,((ab HO).keep1 (ab q) (a0i _)).keep1 (bz _ _ _ _) (a0i _),(ab f).setBad,?_⟩;rw[ab Hn];rfl
    .
     rw[h2]at H;have be:=fE h2;obtain⟨jn,hj⟩:=a0t be.2.2.1;subst hj;have cu:(jn:Int)<=300:=by have:=ce (ab an).2.1;omega
     have H2:=ae h2;have b8:=ae be.1;clear h2 be;go_wp2_with fail;refine(ab H).mono ?_;rintro e x2 ⟨k2,rfl,r2⟩;have q:=ae ((ab u).trans k2);have f:Hid (RF x2 b s q2 false):=by have:=dQ r2;rwa[a0h (by have:=ab b8;omega)]at this
     obtain⟨c2,f2⟩:=(ab f).bad;clear r2 k2 u H A l;go_wp2_with fail;refine(jb x2).mono ?_;rintro e x3 ⟨rfl,o3,I⟩;have A:=ae ((ab q).later I (ab f).lt);have l:=ae ((ab f).kept (I.mono (ab f).lt));clear o3 I q f c2 f2;by_cases a5:jn<30
     .
      have bn:(jn:Int)<30:=by omega
      have t:=ae a5;obtain⟨E1,hE1⟩:∃E,(stF 1 2 jn).1=E:=⟨_,rfl⟩;obtain⟨E2,hE2⟩:∃E,(stF 1 2 jn).2=E:=⟨_,rfl⟩;have a4:=qO (L:=1) (G:=2) (k:=jn) (by omega) (by omega) (by omega) (by omega);rw[hE1,hE2]at a4;have M:(E1:Int)<=200000:=by omega
      have N:(E2:Int)<=14:=by omega
      have z:Hid (E2<=16):=by show E2<=16;omega
      have P:Hid (((stF 1 2 jn).1:Int)=(E1:Int)):=by show _=_;rw[hE1]
      have R:Hid (((stF 1 2 jn).2:Int)=(E2:Int)):=by show _=_;rw[hE2]
      obtain⟨X,hX⟩:∃X,aj s/2 ^ q2%2 ^ E2=X:=⟨_,rfl⟩;have a9:(X:Int)<=65535:=by
       have h1:aj s/2 ^ q2%2 ^ E2<2 ^ E2:=a0Y _ (a1r _);have h2:2 ^ E2<=2 ^ 16:=a0N (by omega) (by omega);have h3:(2:Nat) ^ 16=65536:=by decide
       omega
      have HX:=ae hX;have a1:Hid (IntKind.i64.wrap ((E1:Int)+(X:Int))=(E1:Int)+(X:Int)):=by show _=_;rw[a0Z];omega
      have y:=ae (a0b hE1 hE2);clear a4 hE1 hE2 hX;go_wp2_with fail;go_cut[13] (fun v wx=>v = .int .i64 ((E1+X:Nat):Int)/\av b w wx/\RF wx b s (q2+E2) (decide (8*s.size<q2+E2)))
      case first=>
       refine wp_region_held_drew (S:=fun _=>True) ba trivial (fun _=>?_);refine af 2 (.int .i64 (jn:Nat)) rfl (by kernel_rfl) (fun _ _ _ h=>h) rfl (fun W m=>by go_simp) trivial ?_;refine af 5 (.pointer (some ⟨b,0,none⟩)) rfl (by kernel_rfl) (fun _ _ _ h=>h) rfl (fun W m=>by go_simp) trivial ?_;refine af 7 (.int .i64 (jn:Nat)) rfl (by kernel_rfl) (fun _ _ _ h=>h) rfl (fun W m=>by go_simp) trivial ?_;refine ag 0 (by kernel_rfl) rfl fun K g=>?_;go_simp;go_at_call 167;refine(jb _).mono ?_;rintro e y1 ⟨rfl,o1,b1⟩;have u:=ae ((ab A).drew.later b1 (show b<x3.drew.heap.size from(ab l).lt));have r:=ae (RF.kept (w:=x3.drew) (show RF x3.drew b s q2 false from ab l) (b1.mono (ab l).lt));have bb:=ae (o1.rowN rfl);clear o1 b1;refine Shut.out g _ _ trivial (fun _=>?_);clear g K;refine ag 1 (by kernel_rfl) rfl fun K g=>?_;go_simp;go_at_call 165;refine(jt _ 30 y1 (ab bb)).mono ?_;rintro e y2 ⟨v2,rfl,o2,b2⟩;have J:(jK).length=30:=kv _ _ _;obtain⟨a2,b9,rfl⟩:=o2.formN J;obtain⟨g2,rfl⟩:=o2.somes (by omega);have o:g2<y2.heap.size:=o2.below.2;have a0:Hid (g2≠b):=by show g2≠b;have:=o2.below.1;have:=(ab r).lt;omega
       have c:=(o2.at J (show jn<30 from ab t)).1;rw[yM _ (ab t),ab P]at c;have q:=ae ((ab u).later b2 (ab r).lt);have f:=ae ((ab r).kept (b2.mono (ab r).lt));clear o2 b2 J;refine Shut.out g _ _ trivial (fun _=>?_);clear g K;refine iv (S':=fun W=>W.cell? ⟨g2,jn,none⟩=some (.int .i64 (E1:Nat))) (fun _ _=>trivial) _ _ _ _ ?_;refine wpAnyH_take (i:=3) (v:=.pointer (some ⟨g2,jn,none⟩)) rfl (by kernel_rfl) (by kernel_rfl) (by kernel_rfl) (fun _ _ _ h=>h) (a0A ⟨by rfl,fun W m=>by go_simp<;>(intro h;omega)⟩) c ?_;refine wpAnyH_take (i:=4) (v:=.int .i64 (E1:Nat)) rfl (by kernel_rfl) (by kernel_rfl) (by kernel_rfl) (fun _ _ _ h=>h) (a0A ⟨by rfl,fun W m=>by go_simp⟩) c ?_;refine ag 6 (by kernel_rfl) rfl fun K g=>?_;go_simp;go_at_call 167;refine(jb _).mono ?_;rintro e y3 ⟨rfl,o3,I⟩;have bk:=(o3.at rfl (show jn<30 from ab t)).1;rw[yO _ (ab t),ab R]at bk;have c:=(I.cell (p:=⟨g2,jn,none⟩) o).trans c;have V:=ae ((ab q).later I (ab f).lt);have Z:=ae ((ab f).kept (I.mono (ab f).lt));have O:g2<y3.heap.size:=a0m o I.size;generalize bl:y2.heap.size=g3 at *
       clear o3 I bl;refine Shut.out g _ _ c (fun _=>?_);clear g K;refine wpAnyH_take (i:=8) (v:=.pointer (some ⟨g3,jn,none⟩)) rfl (by kernel_rfl) (by kernel_rfl) (by kernel_rfl) (fun _ _ _ h=>h) (a0A ⟨by rfl,fun W m=>by go_simp<;>(intro h;omega)⟩) c ?_;refine ag 9 (by kernel_rfl) rfl fun K g=>?_;go_simp;refine Shut.out g _ _ c (fun _=>?_);clear g K;refine ag 10 (by kernel_rfl) rfl fun K g=>?_;go_simp;go_at_call 159;have HM:=ae (iQ b q2 E2 false s y3 (ab Z) (fun _=>ab b8) (by have:=ab HN;omega) (ab z));rw[a2h,ab HX]at HM;refine(ab HM).mono ?_;rintro e y4 ⟨rfl,r4,k4⟩;have c:y4.cell? ⟨g2,jn,none⟩=some (.int .i64 (E1:Nat)):=(World.cell?_of_block (w:=y3) (k4.2 _ O (ab a0)) (a:=⟨g2,jn,none⟩)).trans c;have Y:=ae ((ab V).trans k4);have B:=ae r4;clear r4 k4;refine Shut.out g _ _ c (fun _=>?_);clear g K;refine wpAnyH_take (i:=11) (v:=.int .i64 ((E1+X:Nat):Int)) rfl (by kernel_rfl) (by kernel_rfl) (by kernel_rfl) (fun _ _ _ h=>h) (a0A ⟨by rfl,fun W m=>by go_simp;exact ab a1⟩) c ?_;refine ag 12 (by kernel_rfl) rfl fun K g=>?_;go_simp;refine Shut.out g _ _ c (fun _=>?_);clear g K;refine wpAnyH_done (by kernel_rfl) ?_ _;clear HM;go_wp2_with fail
       go_meet
       case rel=>exact⟨rfl,ab Y,ab B⟩
      case rest=>
       obtain⟨rfl,bs,b5⟩:=hcut;clear a1;have cp:((E1+X:Nat):Int)<=300000:=by omega
       obtain⟨BK,hBK⟩:∃L,E1+X=L:=⟨_,rfl⟩;rw[hBK]at cp ⊢;have a7:Hid (d=if decide (8*s.size<q2+E2)=true then none else(gJ T (0,(LG:Int),(BK:Int))).bind fun x=>some (x,q2+E2)):=by
        show d=_;rw[←ab HD];unfold agG fV;rw[ab a8];simp only[a0f];rw[ab H2];simp only[a0f,a0p];unfold scG;rw[a0e (ab t),(ab y).2,(ab y).1];by_cases c:q2+E2<=8*s.size
        . rw[cR c,a0h (by omega)];simp only[a0f,ab HX,hBK];rfl
        . rw[fi c,a0v (by omega)];rfl
       generalize decide (8*s.size<q2+E2)=F at *
       generalize q2+E2=Q at *
       have al:=ae (U.l4Add_any (b+1) n cap a T (0,(LG:Int),(BK:Int)) wc (ab HN).2.1 ((ab HO).keep1 bs (a0i _)) (by have:=ab HN;omega) b5.lt);have V:=ae bs;have Z:=ae b5;clear bs b5 hBK M N a9 P R z y HX a8 H2;simp only at al;go_wp2_with fail;refine(ab al).mono ?_;rintro e x4 ⟨v,T2,rfl,o4,h4,u4⟩;have B:=ae ((ab Z).kept u4.1);have Y:Hid (KU b w x4):=(ab V).ku.trans ⟨u4.1.mono (a06 _),fun j hj _ hn=>u4.2 j hj hn⟩;have b7:=ae o4;obtain⟨c4,f4⟩:=(ab B).bad;have cs:=(ab B).lt;clear o4 u4 al V Z;rcases hA:gJ T (0,(LG:Int),(BK:Int))with _|T3
       . rw[hA]at a7;simp only[Option.isSome_none];clear hA h4;go_wp2;go_ret;refine⟨(ab Y).trans (bz _ _ _ _).ku,_,T2,_,true,rfl,(ab b7).keep1 (bz _ _ _ _) (a0i _),(ab B).setBad,?_⟩;rw[ab a7];cases F<;>rfl
       . rw[hA]at a7 h4;simp only[Option.isSome_some,true_implies,a0l]at h4 ⊢;clear hA;go_wp2;go_ret;refine⟨ab Y,_,T2,Q,F,rfl,ab b7,ab B,?_⟩;rw[ab a7,h4];rfl
     .
      have bn:¬ (jn:Int)<30:=by omega
      have Hn:Hid (d=none):=by
       show d=none;rw[←ab HD];unfold agG fV;rw[ab a8];simp only[a0f];rw[ab H2];simp only[a0f,a0p];unfold scG;rw[a0d a5];rfl
      obtain⟨c3,f3⟩:=(ab l).bad;have O:=(ab l).lt;clear a5;go_wp2;go_ret;refine⟨((ab A).trans (bz _ _ _ _)).ku,_,T,_,true,rfl,((ab HO).keep1 (ab A) (a0i _)).keep1 (bz _ _ _ _) (a0i _),(ab l).setBad,?_⟩;rw[ab Hn];rfl
   .
    rw[a0v (by omega)]at ac;have Hn:Hid (d=none):=by
     show d=none;rw[←ab HD];unfold agG fV scG;rw[a0e (ab t),(ab y).2,fi hc];rfl
    have u:=ae aa;have r:=ae ac;clear aa ac hLG M N a9 P R z y HX;go_wp2_with fail;refine(Ee ad acd a3 bd nD b _ s wc (ab r)).mono ?_;rintro e x2 ⟨rfl,r2,k2⟩;have q:=ae ((ab u).trans k2);have f:=ae r2;obtain⟨c2,f2⟩:=r2.bad;have o:=r2.lt;clear r2 k2 u r;go_wp2;go_ret;refine⟨((ab q).trans (bz _ _ _ _)).ku,_,T,_,true,rfl,((ab HO).keep1 (ab q) (a0i _)).keep1 (bz _ _ _ _) (a0i _),(ab f).setBad,?_⟩;rw[ab Hn];rfl
 .
  have b4:¬ (k:Int)<28:=by omega
  have Hn:Hid (d=none):=by
   show d=none;rw[←ab HD];unfold agG fV scG;rw[a0d a6];rfl
  obtain⟨c2,f2⟩:=(ab l).bad;have o:=(ab l).lt;clear a6;go_wp2;go_ret;refine⟨((ab A).trans (bz _ _ _ _)).ku,_,T,_,true,rfl,((ab HO).keep1 (ab A) (a0i _)).keep1 (bz _ _ _ _) (a0i _),(ab l).setBad,?_⟩;rw[ab Hn];rfl
def qf(b sz:Nat)(w:World):Nat:=match w.cell? ⟨b,2,none⟩with
 | some (.bool true)=>0
 | _=>sz+1-lw b w
theorem RF.far(h:RF w b s p f):qf b (8*s.size) w=if f=true then 0 else 8*s.size+1-min p (8*s.size):=by
 unfold qf lw;rw[h.bad.1,h.2.1];cases f
 . simp[intOf]
 . rfl
def TmI(b:Nat)(s:ByteArray)(L D:List Int)(g1 g2 p:Nat)(d:Option (List UInt8×Nat))(w:World)(v:Value)(x:World):Prop:=
 ∃(q:Nat) (R:List UInt8) (f:Bool),MS w b s x v R q f/\cx x (b+1) (some ⟨g1,0,none⟩) (aV L 15).2/\cx x (b+1) (some ⟨g2,0,none⟩) (aV D 15).2/\(f=false->R.length<=400)/\(f=false->q<=8*s.size/\p<=q)/\(f=false->R.length<=300->iK (aj s) (8*s.size) L D q R=d)/\((f=true∨300<R.length)->d=none)
theorem cx.belU{base:Nat}(h:cx w base a l)(b:cJ base w w'):cx w' base a l:=h.moved b.1.size (fun g _ c d=>b.2 g c d)
theorem LQ: ((oneG V sz D ((kk:Int)+257) q).bind fun t=>(eT R t.1).bind fun T'=>iK V sz L D t.2 T')=(agG V sz D kk q R).bind fun x=>if x.1.length<=300 then iK V sz L D x.2 x.1 else none:=by
 have e:oneG V sz D ((kk:Int)+257) q=fV V sz D kk q:=by
  unfold oneG;rw[a0d (by omega),show((kk:Int)+257).toNat-257=kk by omega]
 rw[e];unfold agG;rcases fV V sz D kk q with _|⟨t,r⟩
 . rfl
 .
  simp only[a0f];unfold eT;rcases gJ R t with _|x
  . rfl
  .
   simp only[a0f]
   split<;>rfl
theorem Dm{t:Tk}(h:isK t=true):3<=t.2.1/\t.2.1<=60/\1<=t.2.2/\t.2.2<=250:=by
 unfold isK inB at h;simp only[a0n,a0w]at h;omega
theorem NF(h:agG V sz D kk q R=some (T',q')):T'.length<=R.length+100:=by
 unfold agG at h;rcases a:fV V sz D kk q with _|⟨t,r⟩
 . rw[a]at h;cases h
 rw[a]at h;simp only[a0f]at h;rcases h2:gJ R t with _|x
 . rw[h2]at h;cases h
 rw[h2]at h;simp only[a0f,a0l,a08]at h;obtain⟨rfl,_⟩:=h;unfold gJ at h2
 split at h2
 . simp only[a0l]at h2;subst h2;simp
 .
  split at h2
  . rename_i hK;simp only[a0n]at hK;have:=Dm hK.1;simp only[a0l]at h2;subst h2;rw[lx];omega
  . cases h2
theorem Nu(h:agG V sz D kk q R=some (T',q')):q'<=sz/\q<=q':=by
 unfold agG at h;rcases a:fV V sz D kk q with _|⟨t,r⟩
 . rw[a]at h;cases h
 rw[a]at h;simp only[a0f]at h;rcases h2:gJ R t with _|x
 . rw[h2]at h;cases h
 rw[h2]at h;simp only[a0f,a0l,a08]at h;obtain⟨_,rfl⟩:=h;exact yN a
theorem BH(b p n cap nL A nD z:Nat)(a al ad:Option Addr)(s:ByteArray)(T:List UInt8)(L D:List Int)(w:World)(hn:T.length=n)(ho:aQ w (b+1) (.slice a n cap) T)(hr:Rdr w b s p)(hp:p<=8*s.size)(hs:s.size<=2000)(hT:n<=300)
  (hL:L.length=nL) (hD:D.length=nD) (okL:au L=true) (okD:au D=true) (jL:cx w (b+1) al L) (jD:cx w (b+1) ad D) :
  Calls prog 161 #[.pointer (some ⟨b,0,none⟩),.slice a n cap,.slice al nL A,.slice ad nD z] w (MP w b p s T (iK (aj s) (8*s.size) L D p T)):=by
 obtain⟨i0,hi,bs,b0,b3⟩:=a0o Tryz.infoU8;obtain⟨d,hd⟩:∃d,iK (aj s) (8*s.size) L D p T=d:=⟨_,rfl⟩;rw[hd];have a9:=hr.lt;have bk:RF w b s p false:=by have:=dQ hr;rwa[a0h (by omega)]at this
 have lL:=ce okL;have lD:=ce okD;have t:=ae (a0b hs (a0b okL (a0b okD (a0b hL (a0b hD (a0b hn hT))))));have H:Hid (MS w b s w (.slice a n cap) T p false):=⟨KU.refl _ _,ho,bk⟩;have HJ:=ae (a0b jL jD);have HD:=ae hd;have Hp:=ae hp;have C1:=ae (dX al A nL L w hL jL.1 (by omega));clear hn ho hr hp hs hT hL hD okL okD jL jD hd bk;go_enter func161,ntmps161;go_wp2_with fail;refine(ab C1).mono ?_;rintro e x1 ⟨rfl,o1,b1⟩;have C2:=ae (dX ad z nD D x1 (ab t).2.2.2.2.1 ((ab HJ).2.later b1).1 (by have:=(ab t).2.2.2.2.1;omega));have Y:(aV L 15).2.length=nL:=by rw[bC];exact(ab t).2.2.2.1
 have J1:=ae ((bG Y (o1.own Y)).mono (b':=b+1) a9);have F:=ae b1;clear o1 b1 C1;go_wp2_with fail;refine(ab C2).mono ?_;rintro e x2 ⟨rfl,o2,b2⟩;have Z:(aV D 15).2.length=nD:=by rw[bC];exact(ab t).2.2.2.2.1
 have N:b+1<=x1.heap.size:=a0E a9 (ab F).size;have J2:=ae ((bG Z (o2.own Z)).mono (b':=b+1) N);have J1':=ae ((ab J1).later b2);have hB:Below w.heap.size w x2:=(ab F).trans (b2.mono (ab F).size);generalize x1.heap.size=g2 at *
 generalize a5:w.heap.size=g1 at *
 have a0:MS w b s x2 (.slice a n cap) T p false:=⟨(ab H).1.later (by rw[a5];exact hB) (by omega),(ab H).2.1.later hB (by omega),(ab H).2.2.kept (hB.mono (by omega))⟩;have h0:(false=true∨300<T.length)->d=none:=by
  rintro(h|h)
  . cases h
  . have:=ab t;omega
 have HI:Hid (TmI b s L D g1 g2 p d w (.slice a n cap) x2):=⟨p,T,false,a0,ab J1',ab J2,fun _=>by have:=ab t;omega,fun _=>⟨ab Hp,a0a _⟩,fun _ _=>ab HD,h0⟩;have HW:Hid (∀W,KU b w W->cx W (b+1) al L/\cx W (b+1) ad D):=fun W hW=>⟨(ab HJ).1.ku hW (a0i _),(ab HJ).2.ku hW (a0i _)⟩;clear h0 o2 b2 C2 hB a0 H F J1 J1' J2 Y Z HD HJ N a5;go_wp2_with fail
 go_loopw [1,11] (fun v _ wr=>TmI b s L D g1 g2 p d w v wr) (fun _ _ wr=>qf b (8*s.size) wr)
 case atStart=>exact ab HI
 case round=>
  obtain⟨q,R,f,E,j1,j2,an,hq,j,be⟩:=hrel;clear HI;obtain⟨m,hm⟩:∃m,R.length=m:=⟨_,rfl⟩;obtain⟨va,vc,rfl⟩:=E.2.1.formN hm;obtain⟨c2,f2⟩:=E.2.2.bad;have g:=ae E;have I:=ae (a0b j1 (a0b j2 (a0b hq (a0b j be))));have x:=ae hm;have bl:=ae an;have HF:=ae E.2.2.far;clear E j1 j2 hq j be an hm;cases f
  .
   have b5:(m:Int)<=400:=by have:=ab bl rfl;have:=ab x;omega
   by_cases ba:m<=300
   .
    have bb:(m:Int)<=300:=by omega
    have hW:=ab HW wr (ab g).1;have hq:=(ab I).2.2.1 rfl;have j:=(ab I).2.2.2.1 rfl (by rw[ab x];exact ba);have i:=ae (qR al (some ⟨g1,0,none⟩) A nL nL b q L s wr (ab t).2.2.2.1 (ab t).2.1 (by have:=ab t;omega) (oA (ab g).2.2 hq.1) hq.1 (fun W h=>(hW.1.keep1 h (a0i _)).1) (fun W h=>((ab I).1.keep1 h (a0i _)).1));have Hq:=ae hq;clear hW hq;unfold oK at i;rcases J:dec L (aj s) (8*s.size) q with _|⟨k,P⟩
    . rw[J]at i;rw[wJ J]at j;have Hn:Hid (d=none):=j.symm;clear J j;go_wp2_with fail;refine(ab i).mono ?_;rintro e x3 ⟨r,xx,qq,rfl,u⟩;have c:=ae ((ab g).keep1 r u);obtain⟨c3,f3⟩:=u.bad;clear r u i g c2 f2;go_wp2;go_ret;exact(ab c).end (MR.bad (fun _=>ab Hn))
    .
     rw[J]at i;have B:=fE J;have a7:k<=300:=by have:=ce (ab t).2.1;omega
     have V:=B.2.2.1;have l:=ae (a0b B.1 B.2.1);by_cases hk:k=256
     .
      subst hk;rw[BE J]at j;have Q:=ae j;clear J j B;go_wp2_with fail;refine(ab i).mono ?_;rintro e x3 ⟨r,rfl,u⟩;have o:RF x3 b s P false:=by have:=dQ u;rwa[a0h (by have:=ab l;omega)]at this
      have c:=ae ((ab g).keep1 r o);obtain⟨c3,f3⟩:=o.bad;clear r u o i g c2 f2;go_wp2;go_ret;refine(ab c).end ⟨fun _=>⟨(ab l).1,by have:=ab l;have:=ab Hq;omega,by rw[ab x];omega⟩,fun _ _ _=>(ab Q).symm,fun _ h=>?_,fun h=>by have:=ab t;omega⟩;rcases h with h|h
      . cases h
      . rw[ab x]at h;omega
     .
      rw[wK J hk]at j;have Q:=ae j;clear J j B;obtain⟨y,hy⟩:=a0t V;subst hy;have a8:¬ (y:Int)=256:=hk;by_cases X:y<256
      .
       have a6:(y:Int)<256:=by omega
       have hu:IntKind.u8.wrap (y:Int)=(y:Int):=BS (by omega) (by omega);have G:Hid ((if m+1<=300 then iK (aj s) (8*s.size) L D P (R++[dz (y:Int)])else none)=d):=by
        show _=d;rw[←ab Q];have e1:oneG (aj s) (8*s.size) D (y:Int) P=some (((y:Int),0,0),P):=by unfold oneG;rw[a0e a6]
        rw[e1];simp only[a0f];rw[mV R y X,ab x]
        split<;>rfl
       clear hk X V Q;go_wp2_with fail;refine(ab i).mono ?_;rintro e x3 ⟨r,rfl,u⟩;have o:RF x3 b s P false:=by have:=dQ u;rwa[a0h (by have:=ab l;omega)]at this
       have c:=ae ((ab g).keep1 r o);obtain⟨c3,f3⟩:=o.bad;have J3:=ae (a0b ((ab I).1.keep1 r (a0i _)) ((ab I).2.1.keep1 r (a0i _)));have aa:=ae ((ab c).2.1.own (ab x));have a4:b+1<=x3.heap.size:=(ab c).lt;have bd:Hid (m+1<=maxLen/\(m+1)*1<=140737488355328):=by show _/\_;unfold maxLen;omega
       clear r u o i g c2 f2;go_wp2_with (at_builtin;refine a0r _ rfl _ _ 103 rfl (b+1) 5 i0 (.int .u8 0) 1 1 a0Q hi bs b0 b3 rfl (by decide) (.slice va m vc) _ _ rfl (a0k (ab aa) _) ⟨x3.heap.size,0,none⟩ 1 1 [.int .u8 (y:Int)] rfl rfl (bE _ _ rfl _ _) (one_byte _) (ab bd).1 (ab bd).2 (ao a4 _) ?_;intro v' x6 O C bc;clear bc);have K:cJ (b+1) x3 x6:=iD C (ab aa) (a0a _) a4 (cJ.refl _ _);have a3:aQ x6 (b+1) v' (R++[dz (y:Int)]):=cq (ab x) (by rw[ew (by omega) (by omega)];exact O);have U:=(ab c).belU K a3;have bn:(R++[dz (y:Int)]).length=m+1:=by rw[a0j,ab x];rfl
       have HI:Hid (TmI b s L D g1 g2 p d w v' x6):=by
        refine⟨P,_,false,U,(ab J3).1.belU K,(ab J3).2.belU K,fun _=>by omega,fun _=>⟨(ab l).1,by have:=ab l;have:=ab Hq;omega⟩,fun _ h=>?_,fun h=>?_⟩
        . have:=ab G;rwa[a0e (by omega)]at this
        .
         have:=ab G;rcases h with h|h
         . cases h
         . rw[a0d (by omega)]at this;exact this.symm
       have S:=ae U.2.2.far;clear O C K a3 U c aa J3 bn;go_wp2_with fail;go_roundw
       case rel=>exact ab HI
       case measure=>
        rw[ab S,ab HF];have:=ab l;have:=ab Hq;simp only[a01,a02];omega
      .
       obtain⟨kk,ey⟩:∃kk:Nat,(y:Int)=(kk:Int)+257:=⟨y-257,by omega⟩;rw[ey]at i Q a7 a8;have b4:(kk:Int)<=43:=by omega
       have G:=ae (LQ.symm.trans (ab Q));clear hk X V Q ey a7;go_wp2_with fail;refine(ab i).mono ?_;rintro e x3 ⟨r,rfl,u⟩;have o:RF x3 b s P false:=by have:=dQ u;rwa[a0h (by have:=ab l;omega)]at this
       have c:=ae ((ab g).keep1 r o);obtain⟨c3,f3⟩:=o.bad;have J3:=ae (a0b ((ab I).1.keep1 r (a0i _)) ((ab I).2.1.keep1 r (a0i _)));have a2:=ab HW x3 (ab c).1;have ac:=ae (FA b P m vc kk nD z nD va ad (some ⟨g2,0,none⟩) s R D x3 (ab x) (ab c).2.1 u (ab l).1 (ab t).1 ba (by omega) (ab t).2.2.2.2.1 (ab t).2.2.1 (fun W h=>(a2.2.keep1 h (a0i _)).1) (fun W h=>((ab J3).2.keep1 h (a0i _)).1));clear r u o i g c2 f2 a2;go_wp2_with fail;refine(ab ac).mono ?_;rintro e x4 ⟨k4,v4,T4,q4,f4,rfl,o4,r4,e4⟩;have a1:MS w b s x4 v4 T4 q4 f4:=⟨(ab c).1.trans k4,o4,r4⟩;have HI:Hid (TmI b s L D g1 g2 p d w v4 x4):=by
        have M:=ab G;rw[e4]at M;refine⟨q4,T4,f4,a1,(ab J3).1.ku k4 (a0i _),(ab J3).2.ku k4 (a0i _),fun h=>?_,fun h=>?_,fun h h2=>?_,fun h=>?_⟩
        . rw[h]at e4;have:=NF e4;rw[ab x]at this;omega
        . rw[h]at e4;have:=Nu e4;have:=ab l;have:=ab Hq;omega
        . rw[h]at M;simp only[a01,a02,a0f]at M;rwa[a0e h2]at M
        .
         cases f4
         .
          rcases h with h|h
          . cases h
          . simp only[a01,a02,a0f]at M;rw[a0d (by omega)]at M;exact M.symm
         . exact M.symm
       have S:Hid (qf b (8*s.size) x4<qf b (8*s.size) wr):=by
        show _<_;rw[r4.far,ab HF];have:=ab l;have:=ab Hq;cases f4
        . have:=Nu e4;simp only[a01,a02];omega
        . simp only[a0X,a01,a02];omega
       clear k4 o4 r4 e4 a1 c J3 ac c3 f3;go_wp2_with fail;go_roundw
       case rel=>exact ab HI
       case measure=>exact ab S
   .
    have bb:¬ (m:Int)<=300:=by omega
    have Hn:Hid (d=none):=(ab I).2.2.2.2 (.inr (by rw[ab x];omega));go_wp2;go_ret;exact((ab g).setBad).end (MR.bad (fun _=>ab Hn))
  . have Hn:Hid (d=none):=(ab I).2.2.2.2 (.inl rfl);go_wp2;go_ret;exact((ab g).setBad).end (MR.bad (fun _=>ab Hn))
theorem BG(b p n cap nL j nD i:Nat)(a al ad:Option Addr)(s:ByteArray)(T:List UInt8)(L D:List Int)(d:Option (List UInt8×Nat))(w:World)(E:T.length=n)(G:aQ w (b+1) (.slice a n cap) T)(r:Rdr w b s p)(K:p<=8*s.size)(B:300<n)(q:n<=100000)
  (A:L.length=nL) (z:D.length=nD) (okL:au L=true) (okD:au D=true) (jL:cx w (b+1) al L) (jD:cx w (b+1) ad D) :
  Calls prog 161 #[.pointer (some ⟨b,0,none⟩),.slice a n cap,.slice al nL j,.slice ad nD i] w (MP w b p s T d):=by
 have k:=r.lt;have l:RF w b s p false:=by have:=dQ r;rwa[a0h (by omega)]at this
 have lL:=ce okL;have lD:=ce okD;have f:Hid (MS w b s w (.slice a n cap) T p false):=⟨KU.refl _ _,G,l⟩;have t:=ae (dX al j nL L w A jL.1 (by omega));have u:=ae (fun W (I:Below w.heap.size w W)=>dX ad i nD D W z (jD.later I).1 (by omega));have H:=ae (a0b E B);have J:¬ (n:Int)<=300:=by omega
 have F:(n:Int)<=100000:=by omega
 clear E G r K B q A z okL okD jL jD l;go_enter func161,ntmps161;go_wp2_with fail;refine(ab t).mono ?_;rintro e x1 ⟨rfl,o1,x⟩;have c:=ae x;clear o1 x t;go_wp2_with fail;refine(ab u x1 (ab c)).mono ?_;rintro e x2 ⟨rfl,o2,y⟩;have m:Below w.heap.size w x2:=(ab c).trans (y.mono (ab c).size);have g:MS w b s x2 (.slice a n cap) T p false:=⟨(ab f).1.later m k,(ab f).2.1.later m (a0a _),(ab f).2.2.kept (m.mono k)⟩;have o:=ae g;obtain⟨c2,f2⟩:=g.2.2.bad;have C:=g.lt;clear o2 y u m g f c;go_wp2_with fail
 go_loopw [1,11] (fun v _ wr=>v = .slice a n cap/\wr=x2) (fun _ _ _=>0)
 case atStart=>exact⟨rfl,rfl⟩
 case round=>
  obtain⟨rfl,rfl⟩:=hrel;go_wp2;go_ret;exact((ab o).setBad).end (MR.bad (fun h=>by have:=ab H;omega))
structure KI (b B:Nat) (w w':World):Prop where
 below:Below b w w'
 keep:∀j,j<B->j≠b->j<w.heap.size->w'.heap[j]?=w.heap[j]?
theorem KI.refl(b B:Nat)(w:World):KI b B w w:=⟨a0c _ _,fun _ _ _ _=>rfl⟩
theorem KI.trans(h:KI b B w w1)(k:KI b B w1 w2):KI b B w w2:=⟨h.1.trans k.1,fun j a h2 c=>(k.2 j a h2 (a0m c h.1.size)).trans (h.2 j a h2 c)⟩
theorem av.ki(h:av b w w')(B:Nat):KI b B w w':=⟨h.1,fun j _ a c=>h.2 j c a⟩
def NS(w:World)(b B:Nat)(s:ByteArray)(x:World)(v:Value)(A:List Int)(q:Nat)(f:Bool):Prop:=KI b B w x/\am x B v A/\RF x b s q f/\B<=x.heap.size
theorem NS.keep1{f':Bool}(h:NS w b B s x v A q f)(hb:b<B)(a:av b x x')(c:RF x' b s q' f'):NS w b B s x' v A q' f':=⟨h.1.trans (a.ki B),h.2.1.keep1' a hb,c,a0E h.2.2.2 a.1.size⟩
theorem NS.setBad(h:NS w b B s x v A q f)(hb:b<B):NS w b B s (x.setCell ⟨b,2,none⟩ (.bool true)) v A q true:=h.keep1 hb (bz _ _ _ _) h.2.2.1.setBad
theorem NS.grown{A':List Int}{o:Obj}(h:NS w b B s x v A q f)(hb:b<B)(d:(x.alloc o).grownBy x' v.ownBlock)(m:am x' B v' A'):NS w b B s x' v' A' q f:=by
 have g:∀j,j<B->some j≠v.ownBlock:=fun j p e=>by
  have:=(a0y h.2.1 j e.symm).1;omega
 have l:∀j,j<B->j<x.heap.size->x'.heap[j]?=x.heap[j]?:=fun j c h2=>(d.block j (by simp;omega) (g j c)).trans (a1i x o j h2);have n:x.heap.size<=x'.heap.size:=by have:=d.size;simp at this;omega
 have a:Below (b+1) x x':=((a0c _ x).alloc (by have:=h.2.2.2;omega) o).grown d (by have:=h.2.2.2;simp;omega) (fun k e=>by have:=(a0y h.2.1 k e).1;omega);exact⟨h.1.trans ⟨a.mono (a06 _),fun j c _ i=>l j c i⟩,m,h.2.2.1.kept a,a0E h.2.2.2 n⟩
def MnP(w:World)(b B q:Nat)(s:ByteArray)(A:List Int)(k:Int)(f:Bool)(e:Ending)(w':World):Prop:=
 ∃v A' q' f',e = .returned v/\NS w b B s w' v A' q' f'/\(f=true->f'=true)/\(f=false->dV (aj s) (8*s.size) A k q=if f'=true then none else some (A',q'))
theorem Ax(b B q n cap:Nat)(a:Option Addr)(s:ByteArray)(A:List Int)(k:Int)(f:Bool)(w:World)(hn:A.length=n)(an:n<=600)(h:NS w b B s w (.slice a n cap) A q f)(hb:b<B)(hf:f=false->q<=8*s.size)(hs:s.size<=2000) :
  Calls prog 205 #[.pointer (some ⟨b,0,none⟩),.slice a n cap,.int .i64 k] w (MnP w b B q s A k f):=by
 obtain⟨i0,hi,W,X,Y⟩:=a0o Tryz.infoInt;have u:=ae h;have x:=ae (a0b hn (a0b an (a0b hb hs)));have HF:=ae hf;have a6:(n:Int)<=600:=by omega
 obtain⟨c0,f0⟩:=h.2.2.1.bad;clear h hn an hb hf hs;go_enter func205,ntmps205;by_cases O:k=16
 .
  subst O;by_cases h0:n=0
  .
   have al:(n:Int)=0:=by omega
   have hz:Hid (dV (aj s) (8*s.size) A 16 q=none):=by show _=_;unfold dV;rw[a0e rfl,a0e (by rw[(ab x).1];exact h0)]
   have Z:=ae ((ab u).setBad (ab x).2.2.1);clear h0;go_wp2_with fail;generalize w.setCell ⟨b,2,none⟩ (.bool true)=XW at *
   have c4:=(ab Z).2.2.1.bad.1
   go_loopw [1,9] (fun v i wr=>v = .slice a n cap/\i = .int .i64 0/\wr=XW) (fun _ _ _=>0)
   case atStart=>exact⟨by first|rfl|(rw[al])|simp[al],rfl,rfl⟩
   case round=>
    obtain⟨rfl,rfl,rfl⟩:=hrel;go_wp2;go_ret;exact⟨_,_,_,true,rfl,ab Z,fun _=>rfl,fun _=>ab hz⟩
  .
   obtain⟨g,rfl⟩:=(ab u).2.1.somes (by rw[(ab x).1];omega);obtain⟨m1,hm1⟩:∃m,n-1=m:=⟨_,rfl⟩;have a5:(n:Int)-1=(m1:Int):=by omega
   have a3:(m1:Int)<(n:Int):=by omega
   have a1:Hid (A.getD (A.length-1) 0=A.getD m1 0):=by show _=_;rw[(ab x).1,hm1]
   have cL:=((ab u).2.1.at (ab x).1 (show m1<n by omega)).1;have Hz:Hid (¬ A.length=0):=by show ¬ _;rw[(ab x).1];exact h0
   clear h0 hm1;generalize A.getD m1 0=L at *
   have P:=ae (iQ b q 2 f s w (ab u).2.2.1 (ab HF) (by have:=ab x;omega) (by omega));obtain⟨y,hy⟩:∃y,aj s/2 ^ q%2 ^ 2=y:=⟨_,rfl⟩;have a0:(y:Int)<=3:=by omega
   obtain⟨CN,hCN⟩:∃c,3+y=c:=⟨_,rfl⟩;obtain⟨F,I⟩:∃F,(f || decide (8*s.size<q+2))=F:=⟨_,rfl⟩;have R:Hid ((f=true->F=true)/\(f=false->dV (aj s) (8*s.size) A 16 q=if F=true then none else some (A++List.replicate CN L,q+2))):=by
    refine⟨fun h=>by rw[←I,h];rfl,fun h=>?_⟩;rw[←I,h,a2h];unfold dV;rw[a0e rfl,a0d (ab Hz),ab a1];by_cases J:q+2<=8*s.size
    . rw[cR J,a0h (by omega),hy];simp only[a0f];rw[hCN];rfl
    . rw[fi J,a0v (by omega)];rfl
   have eC:(3:Int)+(y:Int)=(CN:Int):=by omega
   rw[I,hy]at P;clear hy I hCN;go_wp2_with fail;refine(ab P).mono ?_;rintro e XW ⟨rfl,r1,k1⟩;have t:=ae ((ab u).keep1 (ab x).2.2.1 k1 r1);generalize hQ:q+2=Q at *
   clear k1 r1 P u c0 f0 hQ;go_wp2_with fail;have c4:=(ab t).2.2.1.bad.1
   go_loopw [1,9] (fun v i wr=>∃j:Nat,j<=CN/\i = .int .i64 j/\(F=true->j=0)/\NS w b B s wr v (A++List.replicate j L) Q F) (fun _ i _=>CN-(intOf i).toNat)
   case atStart=>exact⟨0,a0g _,rfl,fun _=>rfl,by rw[a3a,a1c];exact ab t⟩
   case round=>
    obtain⟨j,hj,rfl,D,o⟩:=hrel;clear t c4;obtain⟨m,hm⟩:∃m,(A++List.replicate j L).length=m:=⟨_,rfl⟩;have ac:m<=900:=by rw[←hm,a0j,a0x,(ab x).1];have:=(ab x).2.1;omega
    obtain⟨va,vc,rfl⟩:=o.2.1.formN hm;obtain⟨c5,f5⟩:=o.2.2.1.bad;have S:=ae hm;have l:=ae o;have aa:=ae D;clear o hm D;have p:Hid ((F=true∨¬ j<CN)->MnP w b B q s A 16 f (.returned (.slice va m vc)) wr):=by
     intro J;refine⟨_,_,Q,F,rfl,ab l,(ab R).1,fun M=>?_⟩;rw[(ab R).2 M];cases I:F
     .
      have:j=CN:=by
       rcases J with h|h
       . rw[I]at h;cases h
       . omega
      rw[this]
     . rfl
    by_cases E:j<CN
    .
     have G:(j:Int)<(CN:Int):=by omega
     cases F
     .
      have N:=ae ((ab l).2.1.own (ab S));have K:B<=wr.heap.size:=(ab l).2.2.2;have T:Hid (m+1<=maxLen/\(m+1)*8<=140737488355328):=by show _/\_;unfold maxLen;omega
      go_wp2_with (at_builtin;refine a0r _ rfl _ _ 137 rfl B 3 i0 (.int .i64 0) 1 8 a0C hi W X Y rfl (by decide) (.slice va m vc) _ _ rfl (a0k (ab N) _) ⟨wr.heap.size,0,none⟩ 1 1 [.int .i64 L] rfl rfl (bE _ _ rfl _ _) (eO _) (ab T).1 (ab T).2 (ao K _) ?_;intro v' x6 r d H;clear H);have C:am x6 B v' (A++List.replicate (j+1) L):=by
       have:=de (ab S) r;rw[a0L,←a24]at this;exact this
      have z:=ae ((ab l).grown (ab x).2.2.1 d C);clear r d C;go_wp2_with fail;go_roundw
      case rel=>first|exact⟨j+1,by omega,by go_num,nofun,ab z⟩|exact⟨j+1,by omega,by go_num,ab z⟩
      case measure=>simp[intOf];omega
     . go_wp2;go_ret;exact ab p (a0A (by simp))
    .
     have G:¬ (j:Int)<(CN:Int):=by omega
     go_wp2;go_ret;exact ab p (.inr E)
 .
  have ad:¬ k=16:=O;by_cases U:k=17
  .
   subst U;clear O ad;have P:=ae (iQ b q 3 f s w (ab u).2.2.1 (ab HF) (by have:=ab x;omega) (by omega));obtain⟨y,hy⟩:∃y,aj s/2 ^ q%2 ^ 3=y:=⟨_,rfl⟩;have a0:(y:Int)<=7:=by omega
   obtain⟨CN,hCN⟩:∃c,3+y=c:=⟨_,rfl⟩;obtain⟨F,I⟩:∃F,(f || decide (8*s.size<q+3))=F:=⟨_,rfl⟩;have R:Hid ((f=true->F=true)/\(f=false->dV (aj s) (8*s.size) A 17 q=if F=true then none else some (A++List.replicate CN 0,q+3))):=by
    refine⟨fun h=>by rw[←I,h];rfl,fun h=>?_⟩;rw[←I,h,a2h];unfold dV;rw[a0d (by decide),a0e rfl];by_cases J:q+3<=8*s.size
    . rw[cR J,a0h (by omega),hy];simp only[a0f];rw[hCN];rfl
    . rw[fi J,a0v (by omega)];rfl
   have eC:(3:Int)+(y:Int)=(CN:Int):=by omega
   rw[I,hy]at P;clear hy I hCN;go_wp2_with fail;refine(ab P).mono ?_;rintro e XW ⟨rfl,r1,k1⟩;have t:=ae ((ab u).keep1 (ab x).2.2.1 k1 r1);generalize hQ:q+3=Q at *
   clear k1 r1 P u c0 f0 hQ;go_wp2_with fail;have c4:=(ab t).2.2.1.bad.1
   go_loopw [1,9] (fun v i wr=>∃j:Nat,j<=CN/\i = .int .i64 j/\(F=true->j=0)/\NS w b B s wr v (A++List.replicate j 0) Q F) (fun _ i _=>CN-(intOf i).toNat)
   case atStart=>exact⟨0,a0g _,rfl,fun _=>rfl,by rw[a3a,a1c];exact ab t⟩
   case round=>
    obtain⟨j,hj,rfl,D,o⟩:=hrel;clear t c4;obtain⟨m,hm⟩:∃m,(A++List.replicate j 0).length=m:=⟨_,rfl⟩;have ac:m<=900:=by rw[←hm,a0j,a0x,(ab x).1];have:=(ab x).2.1;omega
    obtain⟨va,vc,rfl⟩:=o.2.1.formN hm;obtain⟨c5,f5⟩:=o.2.2.1.bad;have S:=ae hm;have l:=ae o;have aa:=ae D;clear o hm D;have p:Hid ((F=true∨¬ j<CN)->MnP w b B q s A 17 f (.returned (.slice va m vc)) wr):=by
     intro J;refine⟨_,_,Q,F,rfl,ab l,(ab R).1,fun M=>?_⟩;rw[(ab R).2 M];cases I:F
     .
      have:j=CN:=by
       rcases J with h|h
       . rw[I]at h;cases h
       . omega
      rw[this]
     . rfl
    by_cases E:j<CN
    .
     have G:(j:Int)<(CN:Int):=by omega
     cases F
     .
      have N:=ae ((ab l).2.1.own (ab S));have K:B<=wr.heap.size:=(ab l).2.2.2;have T:Hid (m+1<=maxLen/\(m+1)*8<=140737488355328):=by show _/\_;unfold maxLen;omega
      go_wp2_with (at_builtin;refine a0r _ rfl _ _ 137 rfl B 3 i0 (.int .i64 0) 1 8 a0C hi W X Y rfl (by decide) (.slice va m vc) _ _ rfl (a0k (ab N) _) ⟨wr.heap.size,0,none⟩ 1 1 [.int .i64 0] rfl rfl (bE _ _ rfl _ _) (eO _) (ab T).1 (ab T).2 (ao K _) ?_;intro v' x6 r d H;clear H);have C:am x6 B v' (A++List.replicate (j+1) 0):=by
       have:=de (ab S) r;rw[a0L,←a24]at this;exact this
      have z:=ae ((ab l).grown (ab x).2.2.1 d C);clear r d C;go_wp2_with fail;go_roundw
      case rel=>first|exact⟨j+1,by omega,by go_num,nofun,ab z⟩|exact⟨j+1,by omega,by go_num,ab z⟩
      case measure=>simp[intOf];omega
     . go_wp2;go_ret;exact ab p (a0A (by simp))
    .
     have G:¬ (j:Int)<(CN:Int):=by omega
     go_wp2;go_ret;exact ab p (.inr E)
  .
   have a2:¬ k=17:=U;by_cases V:k=18
   .
    subst V;clear O U ad a2;have P:=ae (iQ b q 7 f s w (ab u).2.2.1 (ab HF) (by have:=ab x;omega) (by omega));obtain⟨y,hy⟩:∃y,aj s/2 ^ q%2 ^ 7=y:=⟨_,rfl⟩;have a0:(y:Int)<=127:=by omega
    obtain⟨CN,hCN⟩:∃c,11+y=c:=⟨_,rfl⟩;obtain⟨F,I⟩:∃F,(f || decide (8*s.size<q+7))=F:=⟨_,rfl⟩;have R:Hid ((f=true->F=true)/\(f=false->dV (aj s) (8*s.size) A 18 q=if F=true then none else some (A++List.replicate CN 0,q+7))):=by
     refine⟨fun h=>by rw[←I,h];rfl,fun h=>?_⟩;rw[←I,h,a2h];unfold dV;rw[a0d (by decide),a0d (by decide),a0e rfl];by_cases J:q+7<=8*s.size
     . rw[cR J,a0h (by omega),hy];simp only[a0f];rw[hCN];rfl
     . rw[fi J,a0v (by omega)];rfl
    have eC:(11:Int)+(y:Int)=(CN:Int):=by omega
    rw[I,hy]at P;clear hy I hCN;go_wp2_with fail;refine(ab P).mono ?_;rintro e XW ⟨rfl,r1,k1⟩;have t:=ae ((ab u).keep1 (ab x).2.2.1 k1 r1);generalize hQ:q+7=Q at *
    clear k1 r1 P u c0 f0 hQ;go_wp2_with fail;have c4:=(ab t).2.2.1.bad.1
    go_loopw [1,9] (fun v i wr=>∃j:Nat,j<=CN/\i = .int .i64 j/\(F=true->j=0)/\NS w b B s wr v (A++List.replicate j 0) Q F) (fun _ i _=>CN-(intOf i).toNat)
    case atStart=>exact⟨0,a0g _,rfl,fun _=>rfl,by rw[a3a,a1c];exact ab t⟩
    case round=>
     obtain⟨j,hj,rfl,D,o⟩:=hrel;clear t c4;obtain⟨m,hm⟩:∃m,(A++List.replicate j 0).length=m:=⟨_,rfl⟩;have ac:m<=900:=by rw[←hm,a0j,a0x,(ab x).1];have:=(ab x).2.1;omega
     obtain⟨va,vc,rfl⟩:=o.2.1.formN hm;obtain⟨c5,f5⟩:=o.2.2.1.bad;have S:=ae hm;have l:=ae o;have aa:=ae D;clear o hm D;have p:Hid ((F=true∨¬ j<CN)->MnP w b B q s A 18 f (.returned (.slice va m vc)) wr):=by
      intro J;refine⟨_,_,Q,F,rfl,ab l,(ab R).1,fun M=>?_⟩;rw[(ab R).2 M];cases I:F
      .
       have:j=CN:=by
        rcases J with h|h
        . rw[I]at h;cases h
        . omega
       rw[this]
      . rfl
     by_cases E:j<CN
     .
      have G:(j:Int)<(CN:Int):=by omega
      cases F
      .
       have N:=ae ((ab l).2.1.own (ab S));have K:B<=wr.heap.size:=(ab l).2.2.2;have T:Hid (m+1<=maxLen/\(m+1)*8<=140737488355328):=by show _/\_;unfold maxLen;omega
       go_wp2_with (at_builtin;refine a0r _ rfl _ _ 137 rfl B 3 i0 (.int .i64 0) 1 8 a0C hi W X Y rfl (by decide) (.slice va m vc) _ _ rfl (a0k (ab N) _) ⟨wr.heap.size,0,none⟩ 1 1 [.int .i64 0] rfl rfl (bE _ _ rfl _ _) (eO _) (ab T).1 (ab T).2 (ao K _) ?_;intro v' x6 r d H;clear H);have C:am x6 B v' (A++List.replicate (j+1) 0):=by
        have:=de (ab S) r;rw[a0L,←a24]at this;exact this
       have z:=ae ((ab l).grown (ab x).2.2.1 d C);clear r d C;go_wp2_with fail;go_roundw
       case rel=>first|exact⟨j+1,by omega,by go_num,nofun,ab z⟩|exact⟨j+1,by omega,by go_num,ab z⟩
       case measure=>simp[intOf];omega
      . go_wp2;go_ret;exact ab p (a0A (by simp))
     .
      have G:¬ (j:Int)<(CN:Int):=by omega
      go_wp2;go_ret;exact ab p (.inr E)
   .
    have a4:¬ k=18:=V;have t:=u;have R:Hid ((f=true->f=true)/\(f=false->dV (aj s) (8*s.size) A k q=if f=true then none else some (A++List.replicate 1 k,q))):=by
     refine⟨id,fun h=>?_⟩;rw[h];unfold dV;rw[a0d O,a0d U,a0d V];rfl
    clear u c0 f0 O U V;go_wp2_with fail;have c4:=(ab t).2.2.1.bad.1
    go_loopw [1,9] (fun v i wr=>∃j:Nat,j<=1/\i = .int .i64 j/\(f=true->j=0)/\NS w b B s wr v (A++List.replicate j k) q f) (fun _ i _=>1-(intOf i).toNat)
    case atStart=>exact⟨0,a0g _,rfl,fun _=>rfl,by rw[a3a,a1c];exact ab t⟩
    case round=>
     obtain⟨j,hj,rfl,D,o⟩:=hrel;clear t c4;obtain⟨m,hm⟩:∃m,(A++List.replicate j k).length=m:=⟨_,rfl⟩;have ac:m<=900:=by rw[←hm,a0j,a0x,(ab x).1];have:=(ab x).2.1;omega
     obtain⟨va,vc,rfl⟩:=o.2.1.formN hm;obtain⟨c5,f5⟩:=o.2.2.1.bad;have S:=ae hm;have l:=ae o;have aa:=ae D;clear o hm D;have p:Hid ((f=true∨¬ j<1)->MnP w b B q s A k f (.returned (.slice va m vc)) wr):=by
      intro J;refine⟨_,_,q,f,rfl,ab l,(ab R).1,fun M=>?_⟩;rw[(ab R).2 M];cases I:f
      .
       have:j=1:=by
        rcases J with h|h
        . rw[I]at h;cases h
        . omega
       rw[this]
      . rfl
     by_cases E:j<1
     .
      have G:(j:Int)<(1:Int):=by omega
      cases f
      .
       have N:=ae ((ab l).2.1.own (ab S));have K:B<=wr.heap.size:=(ab l).2.2.2;have T:Hid (m+1<=maxLen/\(m+1)*8<=140737488355328):=by show _/\_;unfold maxLen;omega
       go_wp2_with (at_builtin;refine a0r _ rfl _ _ 137 rfl B 3 i0 (.int .i64 0) 1 8 a0C hi W X Y rfl (by decide) (.slice va m vc) _ _ rfl (a0k (ab N) _) ⟨wr.heap.size,0,none⟩ 1 1 [.int .i64 k] rfl rfl (bE _ _ rfl _ _) (eO _) (ab T).1 (ab T).2 (ao K _) ?_;intro v' x6 r d H;clear H);have C:am x6 B v' (A++List.replicate (j+1) k):=by
        have:=de (ab S) r;rw[a0L,←a24]at this;exact this
       have z:=ae ((ab l).grown (ab x).2.2.1 d C);clear r d C;go_wp2_with fail;go_roundw
       case rel=>first|exact⟨j+1,by omega,by go_num,nofun,ab z⟩|exact⟨j+1,by omega,by go_num,ab z⟩
       case measure=>simp[intOf];omega
      . go_wp2;go_ret;exact ab p (a0A (by simp))
     .
      have G:¬ (j:Int)<(1:Int):=by omega
      go_wp2;go_ret;exact ab p (.inr E)
def lbV(V:Nat):List Nat->Nat->List Int->List Int
 | [],_,l=>l
 | i :: is,p,l=>lbV V is (p+3) (l.set i ((V/2 ^ p%2 ^ 3:Nat):Int))
theorem OL: ∀(is:List Nat) (p:Nat) (l:List Int),p<=sz->lbG V sz is p l=if p+3*is.length<=sz then some (lbV V is p l,p+3*is.length)else none:=by
 intro is;induction is with
 | nil=>intro p l h;simp[lbG,lbV,h]
 | cons i is ih=>
  intro p l h;simp only[lbG,lbV,a0D];by_cases a:p+3<=sz
  . rw[cR a];simp only[a0f];rw[ih _ _ a,show p+3+3*is.length=p+3*(is.length+1) by omega]
  . rw[fi a,a0d (by omega)];rfl
def iG(V sz p:Nat):Option (Nat×List Int×Nat):=
 (rdN V sz p 5).bind fun a=>(rdN V sz a.2 5).bind fun c=>if a.1+257<=286/\c.1+1<=30 then
  (rdN V sz c.2 4).bind fun m=>(jv V sz (m.1+4) m.2).bind fun B=>(lnG V sz B.1 (a.1+257+(c.1+1)) B.2 []).bind fun A=>
   if au (A.1.take (a.1+257))=true/\au (A.1.drop (a.1+257))=true then some (a.1+257,A.1,A.2)else none
  else none
theorem GW: ux V sz p T=(iG V sz p).bind fun x=>iK V sz (x.2.1.take x.1) (x.2.1.drop x.1) x.2.2 T:=by
 unfold ux iG;rcases rdN V sz p 5 with _|⟨a,d⟩
 . rfl
 simp only[a0f];rcases rdN V sz d 5 with _|⟨c,e⟩
 . rfl
 simp only[a0f]
 split
 .
  rcases rdN V sz e 4 with _|⟨m,f⟩
  . rfl
  simp only[a0f];rcases jv V sz (m+4) f with _|⟨B,g⟩
  . rfl
  simp only[a0f];rcases lnG V sz B (a+257+(c+1)) g []with _|⟨A,i⟩
  . rfl
  simp only[a0f];unfold sS;by_cases b:au (A.take (a+257))=true
  .
   by_cases h2:au (A.drop (a+257))=true
   . rw[a0e b,a0e h2,a0e ⟨b,h2⟩];rfl
   . rw[a0e b,a0d h2,a0d (fun h=>h2 h.2)];rfl
  . rw[a0d b,a0d (fun h=>b h.1)];rfl
 . rfl
theorem J0(h:iG V sz p=some (n,A,q)):q<=sz/\p<=q/\au (A.take n)=true/\au (A.drop n)=true:=by
 unfold iG at h;rcases b:rdN V sz p 5 with _|⟨a,k⟩
 . rw[b]at h;cases h
 rw[b]at h;simp only[a0f]at h;rcases h2:rdN V sz k 5 with _|⟨c,l⟩
 . rw[h2]at h;cases h
 rw[h2]at h;simp only[a0f]at h
 split at h
 .
  rcases d:rdN V sz l 4 with _|⟨m,o⟩
  . rw[d]at h;cases h
  rw[d]at h;simp only[a0f]at h;rcases e:jv V sz (m+4) o with _|⟨B,r⟩
  . rw[e]at h;cases h
  rw[e]at h;simp only[a0f]at h;rcases f:lnG V sz B (a+257+(c+1)) r []with _|⟨A5,u⟩
  . rw[f]at h;cases h
  rw[f]at h;simp only[a0f]at h;have s:=bF b;have t:=bF h2;have g:=bF d;have i:=qA e g.1;have j:=DK f i.1
  split at h
  . rename_i hk;simp only[a0l,a08]at h;obtain⟨rfl,rfl,rfl⟩:=h;exact⟨j.1,by omega,hk.1,hk.2⟩
  . cases h
 . cases h
theorem JZ{X1 X2 X3:Nat}(g:p<=sz)(d:V/2 ^ p%2 ^ 5=X1)(h2:V/2 ^ (p+5)%2 ^ 5=X2)(e:V/2 ^ (p+5+5)%2 ^ 4=X3)(f:lbV V (bY.take (X3+4)) (p+5+5+4) (List.replicate 19 0)=l) :
  iG V sz p=if p+5+5+4+3*(X3+4)<=sz/\au l=true/\X1+257<=286/\X2+1<=30 then(lnG V sz l (X1+257+(X2+1)) (p+5+5+4+3*(X3+4)) []).bind fun A=>
   if au (A.1.take (X1+257))=true/\au (A.1.drop (X1+257))=true then some (X1+257,A.1,A.2)else none else none:=by
 have a:(bY.take (X3+4)).length=X3+4:=by rw[a0s];have:bY.length=19:=rfl;omega
 unfold iG;by_cases c1:p+5<=sz
 .
  rw[cR c1];simp only[a0f];rw[d];by_cases c2:p+5+5<=sz
  .
   rw[cR c2];simp only[a0f];rw[h2];by_cases c:X1+257<=286/\X2+1<=30
   .
    rw[a0e c];by_cases c3:p+5+5+4<=sz
    .
     rw[cR c3];simp only[a0f];rw[e];unfold jv;rw[OL _ _ _ c3,a,f];by_cases c4:p+5+5+4+3*(X3+4)<=sz
     .
      rw[a0e c4];simp only[a0f];by_cases b:au l=true
      . rw[a0e b,a0e ⟨c4,b,c⟩];rfl
      . rw[a0d b,a0d (fun h=>b h.2.1)];rfl
     . rw[a0d c4,a0d (fun h=>c4 h.1)];rfl
    . rw[fi c3,a0d (by omega)];rfl
   . rw[a0d c,a0d (fun h=>c h.2.2)]
  . rw[fi c2,a0d (by omega)];rfl
 . rw[fi c1,a0d (by omega)];rfl
def LmP(w:World)(b p:Nat)(s:ByteArray)(e:Ending)(w':World):Prop:=
 KI b w.heap.size w w'/\∃va vb q f,e = .returned (.tuple #[va,vb])/\RF w' b s q f/\(f=true->iG (aj s) (8*s.size) p=none) /\
  (f=false->∃n m A al cl ad cd,va = .slice al n cl/\vb = .slice ad m cd/\iG (aj s) (8*s.size) p=some (n,A,q)/\A.length=n+m/\cx w' (b+1) al (A.take n)/\cx w' (b+1) ad (A.drop n))
def LmI(b gL many P:Nat)(s:ByteArray)(lf:List Int)(w:World)(i:Value)(wr:World):Prop:=
 ∃(k:Nat) (l:List Int),i = .int .i64 k/\k<=many/\av b w wr/\Rdr wr b s (P+3*k)/\am wr gL (.slice (some ⟨gL,0,none⟩) 19 19) l/\l.length=19/\lbV (aj s) ((bY.take many).drop k) (P+3*k) l=lf/\gL<wr.heap.size
def LaI(b B N:Nat)(s:ByteArray)(l:List Int)(d:Option (List Int×Nat))(w:World)(v:Value)(x:World):Prop:=
 ∃(A:List Int) (q:Nat) (f:Bool),NS w b B s x v A q f/\(f=false->A.length<=500/\q<=8*s.size/\lnG (aj s) (8*s.size) l N q A=d)/\(f=true->d=none)
theorem KI.ku(h:KI b w.heap.size w x):KU b w x:=⟨h.1,fun j c a _=>h.2 j c a c⟩
theorem KI.grow{y:World}(h:KI b B w x)(hb:Below x.heap.size x y)(d:b<=x.heap.size):KI b B w y:=⟨h.1.trans (hb.mono d),fun j c h2 a=>(hb.block j (a0m a h.1.size)).trans (h.2 j c h2 a)⟩
theorem KI.less{a:Nat}(h:KI b B w x)(e:a<=B):KI b a w x:=⟨h.1,fun j c h2 d=>h.2 j (a0m c e) h2 d⟩
theorem cx.ki{base:Nat}(h:cx w base a l)(d:KI b w.heap.size w x)(hb:b<base):cx x base a l:=h.moved d.1.size (fun g e c _=>d.2 g c (by omega) c)
theorem LmP.badEnd{va vb:Value}{o1 o2:Obj}(d:KI b w.heap.size w x)(g:RF x b s q f)(e:iG (aj s) (8*s.size) p=none):LmP w b p s (.returned (.tuple #[va,vb])) (((x.setCell ⟨b,2,none⟩ (.bool true)).alloc o1).alloc o2):=by
 have a:=g.setBad;have c:Below (x.setCell ⟨b,2,none⟩ (.bool true)).heap.size (x.setCell ⟨b,2,none⟩ (.bool true)) (((x.setCell ⟨b,2,none⟩ (.bool true)).alloc o1).alloc o2):=((a0c _ _).alloc (a0a _) _).alloc (by simp) _;exact⟨(d.trans ((bz _ _ _ _).ki _)).grow c (a0z a.lt),va,vb,q,true,rfl,a.kept (c.mono a.lt),fun _=>e,nofun⟩
theorem Ao{B:List Int}(h:sz<p):lnG V sz B n p A=none:=by
 unfold lnG;rw[show sz+1-p=0 by omega];rfl
theorem GA(b p:Nat)(s:ByteArray)(w:World)(hr:Rdr w b s p)(hp:p<=8*s.size)(hs:s.size<=2000) :
  Calls prog 162 #[.pointer (some ⟨b,0,none⟩)] w (LmP w b p s):=by
 have cc:prog.follows .mixedOrders=true:=by kernel_rfl
 obtain⟨i0,hi,cg,ch,co⟩:=a0o Tryz.infoInt;have ds:=hr.lt;obtain⟨X1,L⟩:∃X,aj s/2 ^ p%2 ^ 5=X:=⟨_,rfl⟩;obtain⟨X2,h2⟩:∃X,aj s/2 ^ (p+5)%2 ^ 5=X:=⟨_,rfl⟩;obtain⟨X3,h3⟩:∃X,aj s/2 ^ (p+5+5)%2 ^ 4=X:=⟨_,rfl⟩;obtain⟨lf,hlf⟩:∃l,lbV (aj s) (bY.take (X3+4)) (p+5+5+4) (List.replicate 19 0)=l:=⟨_,rfl⟩;have HG:=ae (JZ hp L h2 h3 hlf);have N1:=ae (ig b p 5 s w hr (by omega) (by omega));have N2:=ae (fun W (h:Rdr W b s (p+5))=>ig b (p+5) 5 s W h (by omega) (by omega));have N3:=ae (fun W (h:Rdr W b s (p+5+5))=>ig b (p+5+5) 4 s W h (by omega) (by omega));rw[L]at N1;rw[h2]at N2;rw[h3]at N3;obtain⟨NL,hNL⟩:∃n,X1+257=n:=⟨_,rfl⟩;obtain⟨NB,hNB⟩:∃n,X2+1=n:=⟨_,rfl⟩;obtain⟨many,hmany⟩:∃n,X3+4=n:=⟨_,rfl⟩;rw[hNL,hNB,hmany]at HG;rw[hmany]at hlf;have eL:(257:Int)+(X1:Int)=(NL:Int):=by omega
 have eB:(1:Int)+(X2:Int)=(NB:Int):=by omega
 have eM:(4:Int)+(X3:Int)=(many:Int):=by omega
 have bL:(NL:Int)<=288:=by omega
 have bB:(NB:Int)<=32:=by omega
 have bM:(many:Int)<=19:=by omega
 have HN:Hid (s.size<=2000/\many<=19/\b<w.heap.size/\NL<=288/\NB<=32):=⟨hs,by omega,ds,by omega,by omega⟩;generalize hP:p+5+5+4=P at *
 have bn:=ae hlf;clear L h2 h3 hNL hNB hmany hlf hr hp hs;go_enter func162,ntmps162;go_wp2_with fail;refine(ab N1).mono ?_;rintro e x1 ⟨rfl,r1,k1⟩;have a6:=ae (a0b r1 k1);clear r1 k1 N1;go_wp2_with fail;refine(ab N2 x1 (ab a6).1).mono ?_;rintro e x2 ⟨rfl,r2,k2⟩;have a7:=ae (a0b r2 ((ab a6).2.trans k2));clear r2 k2 N2 a6;go_wp2_with fail;refine(ab N3 x2 (ab a7).1).mono ?_;rintro e x3 ⟨rfl,r3,k3⟩;have T:=ae (a0b r3 ((ab a7).2.trans k3));have c7:w.heap.size<=x3.heap.size:=(ab T).2.1.size;clear r3 k3 N3 a7 hP;go_wp2_with (at_make;refine a1w _ rfl _ _ 137 rfl x3.heap.size 3 i0 (.int .i64 0) 1 a0C hi cg ch .i64 .i64 _ _ 19 rfl rfl rfl rfl (by rw[co];omega) (by unfold maxLen;omega) (a0a _) ?_;intro w1 a4 Y);have a8:am w1 x3.heap.size (.slice (some ⟨x3.heap.size,0,none⟩) 19 19) (List.replicate 19 0):=cY a4;have D:Below x3.heap.size x3 w1:=(a0c _ _).grown Y (a0a _) (fun k h=>by cases h);have a3:b<x3.heap.size:=(ab T).1.lt;have b8:x3.heap.size<w1.heap.size:=a8.below.2;generalize bc:x3.heap.size=gL at *
 have J:Hid (LmI b gL many P s lf w (.int .i64 (0:Nat)) w1):=⟨0,List.replicate 19 0,rfl,a0g _,(ab T).2.later (by rw[bc];exact D) (by rw[bc];exact a3),(ab T).1.kept (D.mono a3),a8,by simp,by rw[a2k];exact ab bn,b8⟩;clear a4 Y hi cg ch co T a8 D bn bc b8;go_wp2_with fail
 go_loopw [8] (fun i wr=>LmI b gL many P s lf w i wr) (fun i _=>many-(intOf i).toNat)
 case atStart=>exact ab J
 case round=>
  obtain⟨k,l,rfl,hk,a0,hr,ho,hl,hd,bl⟩:=hrel;clear J;by_cases be:k<many
  .
   have dd:(k:Int)<(many:Int):=by omega
   have Z:k<19:=by have:=(ab HN).2.1;omega
   have d0:=yl k Z;rw[AO be (ab HN).2.1]at hd;simp only[lbV]at hd;have bs:=ae (Dt wr.drew);obtain⟨y,hy⟩:∃y,aj s/2 ^ (P+3*k)%2 ^ 3=y:=⟨_,rfl⟩;have HM:=ae (fun W (h:Rdr W b s (P+3*k))=>ig b (P+3*k) 3 s W h (by have:=ab HN;omega) (by omega));rw[hy]at HM hd;have r:=ae (a0b a0 (a0b hr (a0b ho (a0b hl bl))));have cr:=ae hd;have cs:Hid (AG.getD k 0=(bY.getD k 0:Nat)):=AJ k Z;have d7:=bl;clear a0 hr ho hl bl hk hd hy;generalize bY.getD k 0=o at *
   have d8:(o:Int)<19:=by omega
   have d5:wr.drew.heap.size=wr.heap.size:=rfl;go_wp2_with fail;refine wp_region_held_drew (S:=fun _=>True) cc trivial (fun hS=>?_);refine af 0 (.slice (some ⟨gL,0,none⟩) 19 19) rfl (by kernel_rfl) (fun _ _ _ h=>h) rfl (fun W V=>by go_simp) hS ?_;refine af 2 (.int .i64 (k:Nat)) rfl (by kernel_rfl) (fun _ _ _ h=>h) rfl (fun W V=>by go_simp) hS ?_;refine af 5 (.pointer (some ⟨b,0,none⟩)) rfl (by kernel_rfl) (fun _ _ _ h=>h) rfl (fun W V=>by go_simp) hS ?_;refine ag 1 (by kernel_rfl) rfl fun K hK=>?_;go_simp;go_at_call 174;refine(ab bs).mono ?_;rintro e x4 ⟨rfl,o4,b4⟩;refine Shut.out hK _ _ trivial (fun _=>?_);clear hK K;have b9:wr.heap.size<x4.heap.size:=o4.below.2;have al:Below wr.heap.size wr x4:=(a0c wr.heap.size wr).drew.trans b4;have k4:av b wr x4:=(av.refl b wr).later al (ab r).2.1.lt;obtain⟨c4,_,_,_⟩:=o4.at AL Z;rw[ab cs]at c4;have b0:Hid (∀W,av b x4 W->W.cell? ⟨wr.heap.size,k,none⟩=some (.int .i64 (o:Nat))):=fun W h=>by
    have L:=h.2 wr.heap.size b9 (by have:=(ab r).2.1.lt;omega);rw[World.cell?_of_block (w:=x4) L (a:=⟨wr.heap.size,k,none⟩)];exact c4
   have z:Hid (av b w x4/\Rdr x4 b s (P+3*k)/\am x4 gL (.slice (some ⟨gL,0,none⟩) 19 19) l/\gL<x4.heap.size/\l.length=19):=⟨(ab r).1.trans k4,(ab r).2.1.kept (al.mono (ab r).2.1.lt),(ab r).2.2.1.later al (a0a _),by have:=(ab r).2.2.2.2;omega,(ab r).2.2.2.1⟩;clear r bs o4 b4 al k4 b9;refine iv (S':=fun W=>W.cell? ⟨wr.heap.size,k,none⟩=some (.int .i64 (o:Nat))) (fun _ _=>trivial) _ _ _ _ ?_;have a9:x4.cell? ⟨wr.heap.size,k,none⟩=some (.int .i64 (o:Nat)):=c4;refine wpAnyH_take (i:=3) (v:=.pointer (some ⟨wr.heap.size,k,none⟩)) rfl (by kernel_rfl) (by kernel_rfl) (by kernel_rfl) (fun _ _ _ h=>h) (a0A ⟨by rfl,fun W V=>by go_simp<;>(intro h;omega)⟩) a9 ?_;refine wpAnyH_take (i:=4) (v:=.int .i64 (o:Nat)) rfl (by kernel_rfl) (by kernel_rfl) (by kernel_rfl) (fun _ _ _ h=>h) (a0A ⟨by rfl,fun W V=>by go_simp⟩) a9 ?_;refine ag 6 (by kernel_rfl) rfl fun K hK=>?_;go_simp;go_at_call 159;refine(ab HM x4 (ab z).2.1).mono ?_;rintro e x5 ⟨rfl,r5,k5⟩;refine Shut.out hK _ _ (ab b0 _ k5) (fun ba=>?_);clear hK K;have dv:gL≠b:=by omega
   have o5:=(ab z).2.2.1.keep1' k5 (by omega);obtain⟨c5,f5,_,_⟩:=o5.at (ab z).2.2.2.2 d0;refine wpAnyH_take (i:=7) (v:=.pointer (some ⟨gL,o,none⟩)) rfl (by kernel_rfl) (by kernel_rfl) (by kernel_rfl) (fun _ _ _ h=>h) (a0A ⟨by rfl,fun W V=>by go_simp<;>(intro h;omega)⟩) ba ?_;refine ag 8 (by kernel_rfl) rfl fun K hK=>?_;go_simp;have J:Hid (LmI b gL many P s lf w (.int .i64 (k+1:Nat)) (x5.setCell ⟨gL,o,none⟩ (.int .i64 (y:Nat)))):=by
    refine⟨k+1,l.set o (y:Nat),rfl,be,((ab z).1.trans k5).set c7 (ab HN).2.2.1 _,?_,o5.put (ab z).2.2.2.2 _,by rw[a1d];exact(ab z).2.2.2.2,by rw[show P+3*(k+1)=P+3*k+3 by omega];exact ab cr,?_⟩
    . rw[show P+3*(k+1)=P+3*k+3 by omega];exact r5.set dv _
    . have:=k5.1.size;have:=(ab z).2.2.2.1;simp;omega
   have b3:(x5.setCell ⟨gL,o,none⟩ (.int .i64 (y:Nat))).cell? ⟨wr.heap.size,k,none⟩=some (.int .i64 (o:Nat)):=by
    rw[World.cell?_setCell_other _ _ _ _ (by simp only[ne_eq,a0B];omega)];exact ba
   refine Shut.out hK _ _ b3 (fun _=>?_);clear hK K;refine wpAnyH_done (by kernel_rfl) ?_ _;clear a9 ba b3 k5 r5 o5 b0 HM z c4 c5 f5;generalize x5.setCell ⟨gL,o,none⟩ (.int .i64 (y:Nat))=x6 at *
   go_wp2_with fail;go_roundw
   case rel=>exact ab J
   case measure=>simp[intOf];omega
  .
   have dd:¬ (k:Int)<(many:Int):=by omega
   have dq:k=many:=by omega
   subst dq;have e0:(bY.take k).drop k=[]:=List.drop_eq_nil_of_le (by rw[a0s];omega);rw[e0]at hd;simp only[lbV]at hd;subst hd;have Q:=ae (jz (some ⟨gL,0,none⟩) 19 19 l wr hl (ho.rowN hl) (by omega));have HC:=ae (dX (some ⟨gL,0,none⟩) 19 19 l wr hl (ho.rowN hl) (by omega));have JL:=ae ((bG hl (ho.own hl)).mono (b':=b+1) (by omega));have r:=ae (a0b a0 (a0b hr hl));clear a0 hr hl ho hk e0 be;by_cases I:au l=true/\NL<=286/\NB<=30
   .
    obtain⟨ok1,ok2,ok3⟩:=I;rw[ok1]at Q;have cu:=ae ok1;obtain⟨d,hd⟩:∃d,lnG (aj s) (8*s.size) l (NL+NB) (P+3*k) []=d:=⟨_,rfl⟩;have M:Hid (iG (aj s) (8*s.size) p=d.bind fun A=>if au (A.1.take NL)=true/\au (A.1.drop NL)=true then some (NL,A.1,A.2)else none):=by
     show _=_;rw[ab HG,hd];by_cases hQ:P+3*k<=8*s.size
     . rw[a0e ⟨hQ,ok1,ok2,ok3⟩]
     . rw[a0d (fun h=>hQ h.1),←hd,Ao (by omega)];rfl
    have HD:=ae hd;have b1:¬ (286:Int)<(NL:Int):=by omega
    have cy:¬ (30:Int)<(NB:Int):=by omega
    have HK:=ae (a0b ok2 ok3);clear ok1 ok2 ok3 hd HG;go_wp2_with fail;refine(ab Q).mono ?_;rintro e x4 ⟨rfl,rfl⟩;clear Q;go_wp2_with fail;refine(ab HC).mono ?_;rintro e x5 ⟨rfl,o5,b5⟩;have bk:(aV l 15).2.length=19:=by rw[bC];exact(ab r).2.2
    have aa:b<x4.heap.size:=(ab r).2.1.lt;have J5:=ae (a0b ((ab JL).later b5) ((bG bk (o5.own bk)).mono (b':=b+1) aa));have K5:=ae ((ab r).1.later b5 aa);have R5:=ae (dQ ((ab r).2.1.kept (b5.mono aa)));have t:b<x5.heap.size:=(ab R5).lt;have b2:World.ownsRow (x5.alloc (.cells #[] 3)) x5.heap.size 3 1 (.slice (some ⟨x5.heap.size,0,none⟩) 0 0) 0 []:=a05 x5 #[] 0 (a0a _) (by unfold maxLen;omega) rfl;have an:Below x5.heap.size x5 (x5.alloc (.cells #[] 3)):=(a0c _ _).alloc (a0a _) _;have J:Hid (LaI b x5.heap.size (NL+NB) s l d x5 (.slice (some ⟨x5.heap.size,0,none⟩) 0 0) (x5.alloc (.cells #[] 3))):=by
     refine⟨[],P+3*k,_,⟨(KI.refl _ _ _).grow an (a0z t),b2,(ab R5).kept (an.mono t),an.size⟩,fun h=>⟨by simp,by simpa using h,ab HD⟩,fun h=>?_⟩;rw[←ab HD,Ao (by simpa using h)]
    generalize c8:x4.heap.size=gC at *
    have Hl:=ae (ab r).2.2;clear o5 b5 HC JL r R5 b2 an HD bk c8;go_wp2_with fail;generalize x5.alloc (.cells #[] 3)=x6 at *
    obtain⟨N,hN⟩:∃N,NL+NB=N:=⟨_,rfl⟩;rw[hN]at J;have eN:(NL:Int)+(NB:Int)=(N:Int):=by omega
    have bN:(N:Int)<=316:=by have:=ab HK;omega
    go_loopw [10] (fun v wr=>LaI b x5.heap.size N s l d x5 v wr) (fun _ wr=>qf b (8*s.size) wr)
    case atStart=>exact ab J
    case round=>
     obtain⟨A,q,f,u,b6,b7⟩:=hrel;clear J;obtain⟨m,hm⟩:∃m,A.length=m:=⟨_,rfl⟩;obtain⟨va,vc,rfl⟩:=u.2.1.formN hm;obtain⟨c2,f2⟩:=u.2.2.1.bad;have ac:=u.2.2.1.lt;have E:=ae hm;have c:=ae u;have HF:=ae (a0b b6 b7);have a2:=ae u.2.2.1.far;have F:Hid (KI b w.heap.size w _):=((ab K5).ki _).trans (u.1.less (ab K5).1.size);have HJ:=ae (a0b ((ab J5).1.ki u.1 (a0i _)) ((ab J5).2.ki u.1 (a0i _)));clear hm u b6 b7;cases f
     .
      obtain⟨cv,hq,j⟩:=(ab HF).1 rfl;rw[ab E]at cv;by_cases a1:m<N
      .
       have ad:(m:Int)<(N:Int):=by omega
       rw[Am hq (by rw[ab E];exact a1)]at j;have C:=ae (qR (some ⟨gL,0,none⟩) (some ⟨gC,0,none⟩) 19 19 19 b q l s wr (ab Hl) (ab cu) (by have:=ab HN;omega) (oA (ab c).2.2.1 hq) hq (fun W h=>((ab HJ).1.keep1 h (a0i _)).1) (fun W h=>((ab HJ).2.keep1 h (a0i _)).1));unfold oK at C;have Hq:=ae hq;clear hq;rcases L:dec l (aj s) (8*s.size) q with _|⟨kk,q1⟩
       .
        rw[L]at C j;have B:Hid (d=none):=j.symm;clear L j;go_wp2_with fail;refine(ab C).mono ?_;rintro e x7 ⟨k7,xx,qq,rfl,r7⟩;have R:=ae (Ax b x5.heap.size qq m vc va s A xx true x7 (ab E) (by omega) ((ab c).keep1 t k7 r7 |> fun h=>⟨KI.refl _ _ _,h.2.1,h.2.2.1,h.2.2.2⟩) t nofun (ab HN).1);have O:=ae ((ab c).1.trans (k7.ki _));clear C k7 r7 c2 f2;go_wp2_with fail;refine(ab R).mono ?_;rintro e x8 ⟨v8,A8,q8,f8,rfl,n8,t8,_⟩;have ht:f8=true:=t8 rfl;subst ht;have J:Hid (LaI b x5.heap.size N s l d x5 v8 x8):=⟨A8,q8,true,⟨(ab O).trans n8.1,n8.2.1,n8.2.2.1,n8.2.2.2⟩,nofun,fun _=>ab B⟩;have a5:Hid (qf b (8*s.size) x8<qf b (8*s.size) wr):=by
         show _<_;rw[n8.2.2.1.far,ab a2];simp only[a0X,a01,a02];omega
        clear n8 t8 R O;go_wp2_with fail;go_roundw
        case rel=>exact ab J
        case measure=>exact ab a5
       .
        rw[L]at C j;have D:=fE L;have U:=ae (a0b D.1 D.2.1);have HE:=ae j;clear L j D;go_wp2_with fail;refine(ab C).mono ?_;rintro e x7 ⟨k7,rfl,r7⟩;have cp:RF x7 b s q1 false:=by have:=dQ r7;rwa[a0h (by have:=ab U;omega)]at this
        have R:=ae (Ax b x5.heap.size q1 m vc va s A kk false x7 (ab E) (by omega) ((ab c).keep1 t k7 cp |> fun h=>⟨KI.refl _ _ _,h.2.1,h.2.2.1,h.2.2.2⟩) t (fun _=>(ab U).1) (ab HN).1);have O:=ae ((ab c).1.trans (k7.ki _));clear C k7 r7 cp c2 f2;go_wp2_with fail;refine(ab R).mono ?_;rintro e x8 ⟨v8,A8,q8,f8,rfl,n8,_,t8⟩;have t8':=t8 rfl;have hE:=ab HE;simp only[a0f]at hE;rw[t8']at hE;have J:Hid (LaI b x5.heap.size N s l d x5 v8 x8):=by
         refine⟨A8,q8,f8,⟨(ab O).trans n8.1,n8.2.1,n8.2.2.1,n8.2.2.2⟩,fun h=>?_,fun h=>?_⟩
         . rw[h]at hE t8';have:=lS t8' (ab U).1;rw[ab E]at this;exact⟨by omega,this.1,hE⟩
         . rw[h]at hE;exact hE.symm
        have a5:Hid (qf b (8*s.size) x8<qf b (8*s.size) wr):=by
         show _<_;rw[n8.2.2.1.far,ab a2];have:=ab U;have:=ab Hq;cases f8
         . have:=lS t8' (ab U).1;simp only[a01,a02];omega
         . simp only[a0X,a01,a02];omega
        clear n8 t8 t8' hE R O;go_wp2_with fail;go_roundw
        case rel=>exact ab J
        case measure=>exact ab a5
      .
       have ad:¬ (m:Int)<(N:Int):=by omega
       rw[Ap hq (by rw[ab E];exact a1),ab E]at j;by_cases ca:m=N
       .
        subst ca;rw[a0e rfl]at j;have HE:=ae j;clear j a1;obtain⟨g,rfl⟩:=(ab c).2.1.somes (by rw[ab E];omega);have d3:m<=vc:=by
         rcases ((ab c).2.1.own (ab E)).2 with⟨e,_⟩|⟨g',d1,d6,e,_,_,L,_⟩
         . cases e
         . simp only[a0J]at e;omega
        have tl:(A.take NL).length=NL:=by rw[a0s,ab E];omega
        have dl:(A.drop NL).length=m-NL:=by rw[a04,ab E]
        have JA:=ae ((bG (ab E) ((ab c).2.1.own (ab E))).mono (b':=b+1) t);have JD:=ae ((ab JA).drop NL);rw[a0G]at JD;have x:=ae (jz (some ⟨g,0,none⟩) vc NL (A.take NL) wr tl ((ab JA).take NL).1 (by omega));have G:=ae (jz (some ⟨g,NL,none⟩) (vc-NL) (m-NL) (A.drop NL) wr dl (ab JD).1 (by omega));have d2:(NL:Int)<=(m:Int):=by omega
        clear tl dl;cases k1:au (A.take NL)
        .
         have B:Hid (iG (aj s) (8*s.size) p=none):=by show _=_;rw[ab M,←ab HE];simp only[a0f];rw[a0d (fun h=>by rw[k1]at h;cases h.1)]
         rw[k1]at x;clear k1;go_wp2_with fail;refine(ab x).mono ?_;rintro e x7 ⟨rfl,rfl⟩;clear x;go_wp2
         go_ret2
         exact LmP.badEnd (ab F) (ab c).2.2.1 (ab B)
        .
         rw[k1]at x;cases k2:au (A.drop NL)
         .
          have B:Hid (iG (aj s) (8*s.size) p=none):=by show _=_;rw[ab M,←ab HE];simp only[a0f];rw[a0d (fun h=>by rw[k2]at h;cases h.2)]
          rw[k2]at G;clear k1 k2;go_wp2_with fail;refine(ab x).mono ?_;rintro e x7 ⟨rfl,rfl⟩;clear x;go_wp2_with fail;refine(ab G).mono ?_;rintro e x8 ⟨rfl,rfl⟩;clear G;go_wp2
          go_ret2
          exact LmP.badEnd (ab F) (ab c).2.2.1 (ab B)
         .
          have B:Hid (iG (aj s) (8*s.size) p=some (NL,A,q)):=by show _=_;rw[ab M,←ab HE];simp only[a0f];rw[a0e ⟨k1,k2⟩]
          rw[k2]at G;clear k1 k2;go_wp2_with fail;refine(ab x).mono ?_;rintro e x7 ⟨rfl,rfl⟩;clear x;go_wp2_with fail;refine(ab G).mono ?_;rintro e x8 ⟨rfl,rfl⟩;clear G;go_wp2_with fail
          go_quiet (fail)
          go_wp2
          go_ret2
          have bb:Below x8.heap.size x8 (x8.drewN nq):=below_drewN (a0c _ _) nq;exact⟨(ab F).grow bb (a0z ac),_,_,q,false,rfl,(ab c).2.2.1.kept (bb.mono ac),nofun,fun _=>⟨NL,m-NL,A,_,_,_,_,rfl,rfl,ab B,by rw[ab E];omega,((ab JA).take NL).later bb,(ab JD).later bb⟩⟩
       .
        rw[a0d ca]at j;have d4:¬ (m:Int)=(N:Int):=by omega
        have B:Hid (iG (aj s) (8*s.size) p=none):=by show _=_;rw[ab M,←j];rfl
        clear j;go_wp2
        go_ret2
        exact LmP.badEnd (ab F) (ab c).2.2.1 (ab B)
     .
      have B:Hid (iG (aj s) (8*s.size) p=none):=by show _=_;rw[ab M,(ab HF).2 rfl];rfl
      by_cases a1:m<N
      .
       have ad:(m:Int)<(N:Int):=by omega
       go_wp2
       go_ret2
       exact LmP.badEnd (ab F) (ab c).2.2.1 (ab B)
      .
       have ad:¬ (m:Int)<(N:Int):=by omega
       go_wp2
       go_ret2
       exact LmP.badEnd (ab F) (ab c).2.2.1 (ab B)
   .
    have B:Hid (iG (aj s) (8*s.size) p=none):=by show _=_;rw[ab HG,a0d (fun h=>I h.2)]
    have c6:wr.cell? ⟨b,2,none⟩=some (.bool (decide (8*s.size<P+3*k)))/\wr.frozen? ⟨b,2,none⟩=false:=(dQ (ab r).2.1).bad;have ac:=(ab r).2.1.lt;obtain⟨c2,f2⟩:=c6;cases H:au l
    .
     rw[H]at Q;clear H I;go_wp2_with fail;refine(ab Q).mono ?_;rintro e x4 ⟨rfl,rfl⟩;clear Q;go_wp2
     go_ret2
     exact LmP.badEnd ((ab r).1.ki _) (dQ (ab r).2.1) (ab B)
    .
     rw[H]at Q;by_cases bd:NL<=286
     .
      have c9:¬ NB<=30:=fun h=>I ⟨H,bd,h⟩;have b1:¬ (286:Int)<(NL:Int):=by omega
      have cy:(30:Int)<(NB:Int):=by omega
      clear H I bd c9;go_wp2_with fail;refine(ab Q).mono ?_;rintro e x4 ⟨rfl,rfl⟩;clear Q;go_wp2
      go_ret2
      exact LmP.badEnd ((ab r).1.ki _) (dQ (ab r).2.1) (ab B)
     .
      have b1:(286:Int)<(NL:Int):=by omega
      clear H I bd;go_wp2_with fail;refine(ab Q).mono ?_;rintro e x4 ⟨rfl,rfl⟩;clear Q;go_wp2
      go_ret2
      exact LmP.badEnd ((ab r).1.ki _) (dQ (ab r).2.1) (ab B)
theorem Bs(b p n cap:Nat)(a:Option Addr)(s:ByteArray)(T:List UInt8)(d:Option (List UInt8×Nat))(w:World)(y:aQ w (b+1) (.slice a n cap) T)(t:RF w b s p true)(A:s.size<=2000)(hd:T.length<=300->d=none)(P:Nat) :
  Calls prog 160 #[.pointer (some ⟨b,0,none⟩),.slice a n cap] w (MP w b P s T d):=by
 obtain⟨p,z,t⟩:=t.cut;have f:Hid (MS w b s w (.slice a n cap) T p true):=⟨KU.refl _ _,y,t⟩;have o:=ae (pO b p true s w t z (by omega));have x:=ae A;have F:=ae hd;clear y t A z hd;go_enter func160,ntmps160;by_cases j:aj s/2 ^ p%2 ^ ((8-p%8)%8)=0
 case' pos=>
  rw[a0v j]at o;clear j;go_wp2_with fail;refine(ab o).mono ?_;rintro e x1 ⟨rfl,q,u⟩;have c:=ae ((ab f).keep1 u q);clear u q o f
 case' neg=>
  rw[a0h j]at o;clear j;go_wp2_with fail;refine(ab o).mono ?_;rintro e x0 ⟨rfl,q,u⟩;have k:=ae ((ab f).keep1 u q);obtain⟨c0,f0⟩:=q.bad;clear u q o f;have c:=ae (ab k).setBad;go_wp2_with fail;generalize x0.setCell ⟨b,2,none⟩ (.bool true)=x1 at *
  clear k c0 f0
 all_goals
  obtain⟨Q1,hQ1⟩:∃Q,p+(8-p%8)%8=Q:=⟨_,rfl⟩;rw[hQ1]at c;have l:=ae (iQ b Q1 16 true s _ (ab c).2.2 nofun (by have:=ab x;omega) (by omega));rw[a3f]at l;go_wp2_with fail;refine(ab l).mono ?_;rintro e x2 ⟨rfl,D,B⟩;have m:=ae ((ab c).keep1 B D);clear B D l c;have l:=ae (iQ b (Q1+16) 16 true s x2 (ab m).2.2 nofun (by have:=ab x;omega) (by omega));obtain⟨X,hX⟩:∃X,aj s/2 ^ Q1%2 ^ 16=X:=⟨_,rfl⟩;obtain⟨Y,hY⟩:∃Y,aj s/2 ^ (Q1+16)%2 ^ 16=Y:=⟨_,rfl⟩;have G:(X:Int)<=65535:=by
   have:aj s/2 ^ Q1%2 ^ 16<65536:=a0Y _ (by decide);omega
  rw[a3f,hY]at l;rw[hX];clear hX hY;go_wp2_with fail;refine(ab l).mono ?_;rintro e x3 ⟨rfl,E,C⟩;have g:=ae ((ab m).keep1 C E);clear C E l m;obtain⟨c3,f3⟩:=(ab g).2.2.bad;by_cases r:Y=65535-X
  case' neg=>
   have g1:¬ (Y:Int)=65535-(X:Int):=by omega
   have h:=ae (ab g).setBad;clear r;go_wp2_with fail;generalize x3.setCell ⟨b,2,none⟩ (.bool true)=XW at *
  case' pos=>
   have g1:(Y:Int)=65535-(X:Int):=by omega
   clear r;rcases (by omega:(300:Int)<(X:Int)∨¬ (300:Int)<(X:Int))with gI|gI
   case' inl=>
    have h:=ae (ab g).setBad;go_wp2_with fail;generalize x3.setCell ⟨b,2,none⟩ (.bool true)=XW at *
   case' inr=>
    have h:=g;go_wp2_with fail;generalize x3=XW at *
  all_goals
   have c4:=(ab h).2.2.bad.1
   go_loopw [1,6] (fun v i wr=>v = .slice a n cap/\i = .int .i64 0/\wr=XW) (fun _ _ _=>0)
   case atStart=>exact⟨rfl,rfl,rfl⟩
   case round=>
    obtain⟨rfl,rfl,rfl⟩:=hrel;by_cases H:0<X
    all_goals
     go_wp2;go_ret;exact(ab h).end (MR.bad (ab F))
theorem BF(b p P n cap nL i nD h:Nat)(a al ad:Option Addr)(s:ByteArray)(T:List UInt8)(L D:List Int)(d:Option (List UInt8×Nat))(w:World)(z:aQ w (b+1) (.slice a n cap) T)(m:RF w b s p true)(hd:T.length<=300->d=none)
  (x:L.length=nL) (u:D.length=nD) (okL:au L=true) (okD:au D=true) (jL:cx w (b+1) al L) (jD:cx w (b+1) ad D) :
  Calls prog 161 #[.pointer (some ⟨b,0,none⟩),.slice a n cap,.slice al nL i,.slice ad nD h] w (MP w b P s T d):=by
 have j:=m.lt;have lL:=ce okL;have lD:=ce okD;have f:Hid (MS w b s w (.slice a n cap) T p true):=⟨KU.refl _ _,z,m⟩;have o:=ae (dX al i nL L w x jL.1 (by omega));have q:=ae (fun W (B:Below w.heap.size w W)=>dX ad h nD D W u (jD.later B).1 (by omega));have A:=ae hd;clear z m x u okL okD jL jD hd;go_enter func161,ntmps161;go_wp2_with fail;refine(ab o).mono ?_;rintro e x1 ⟨rfl,o1,r⟩;have c:=ae r;clear o1 r o;go_wp2_with fail;refine(ab q x1 (ab c)).mono ?_;rintro e x2 ⟨rfl,o2,t⟩;have k:Below w.heap.size w x2:=(ab c).trans (t.mono (ab c).size);have g:MS w b s x2 (.slice a n cap) T p true:=⟨(ab f).1.later k j,(ab f).2.1.later k (a0a _),(ab f).2.2.kept (k.mono j)⟩;have l:=ae g;obtain⟨c2,f2⟩:=g.2.2.bad;have y:=g.lt;clear o2 t q k g f c;go_wp2_with fail
 go_loopw [1,11] (fun v _ wr=>v = .slice a n cap/\wr=x2) (fun _ _ _=>0)
 case atStart=>exact⟨rfl,rfl⟩
 case round=>
  obtain⟨rfl,rfl⟩:=hrel;go_wp2;go_ret;exact((ab l).setBad).end (MR.bad (ab A))
def px(V sz p:Nat)(T:List UInt8):Option (List UInt8×Nat):=(rdN V sz p 1).bind fun a=>(rdN V sz a.2 2).bind fun k=>gO V sz k.1 k.2 T
theorem G0(h:p+1+2<=sz):px V sz p T=gO V sz (V/2 ^ (p+1)%2 ^ 2) (p+1+2) T:=by
 unfold px;rw[cR (by omega)];simp only[a0f];rw[cR h];rfl
theorem KG(h:¬ p+1+2<=sz):px V sz p T=none:=by
 unfold px;by_cases a:p+1<=sz
 . rw[cR a];simp only[a0f];rw[fi h];rfl
 . rw[fi a];rfl
theorem Gk(h:¬ p+1+2<=8*s.size):aj s/2 ^ (p+1)%2 ^ 2<2:=by
 have a:=nj s (p+2) (by omega);rw[show p+2=p+1+1 by omega,a16,←a2i]at a;generalize aj s/2 ^ (p+1)=x at *
 omega
theorem MR.from{b:Nat}(h:MR sz p T d T' q f)(c:b<=p):MR sz b T d T' q f:=⟨fun a=>⟨(h.1 a).1,a0E c (h.1 a).2.1,(h.1 a).2.2⟩,h.2⟩
def PmP(w:World)(b p:Nat)(s:ByteArray)(T:List UInt8)(l:Bool)(d:Option (List UInt8×Nat))(e:Ending)(w':World):Prop:=
 KU b w w'/\∃v T' q f,e = .returned (.tuple #[v,.bool l])/\aQ w' (b+1) v T'/\RF w' b s q f/\MR (8*s.size) p T d T' q f
theorem MP.part{a:Nat}{l:Bool}(h:MP x b p s T d (.returned v) x')(j:KU b w x)(k:a<=p):PmP w b a s T l d (.returned (.tuple #[v,.bool l])) x':=by
 obtain⟨c,v',T',q,f,e,h2,g,i⟩:=h;simp only[Ending.returned.injEq]at e;subst e;exact⟨j.trans c,v,T',q,f,rfl,h2,g,i.from k⟩
theorem Bt(b p n cap:Nat)(a:Option Addr)(s:ByteArray)(T:List UInt8)(d:Option (List UInt8×Nat))(w:World)(j:T.length=n)(f:aQ w (b+1) (.slice a n cap) T)(g:Rdr w b s p)(h:s.size<=2000)(i:n<=300+p)(hd:d=if p<=8*s.size then dS (aj s) (8*s.size) p T else none) :
  Calls prog 160 #[.pointer (some ⟨b,0,none⟩),.slice a n cap] w (MP w b p s T d):=by
 by_cases c:p<=8*s.size
 . rw[hd,a0e c];exact Ea b p n cap a s T w j f g c h i
 . have e:=dQ g;rw[a0v (by omega)]at e;exact Bs b p n cap a s T d w f e h (fun _=>by rw[hd,a0d c]) p
theorem rL(b p n cap nL e nD c:Nat)(a al ad:Option Addr)(s:ByteArray)(T:List UInt8)(L D:List Int)(d:Option (List UInt8×Nat))(w:World)(m:T.length=n)(j:aQ w (b+1) (.slice a n cap) T)(k:Rdr w b s p)(q:s.size<=2000)(o:n<=100000)(hd:d=if p<=8*s.size then iK (aj s) (8*s.size) L D p T else none)
  (h:L.length=nL) (g:D.length=nD) (okL:au L=true) (okD:au D=true) (jL:cx w (b+1) al L) (jD:cx w (b+1) ad D) :
  Calls prog 161 #[.pointer (some ⟨b,0,none⟩),.slice a n cap,.slice al nL e,.slice ad nD c] w (MP w b p s T d):=by
 by_cases f:p<=8*s.size
 .
  by_cases i:n<=300
  . rw[hd,a0e f];exact BH b p n cap nL e nD c a al ad s T L D w m j k f q i h g okL okD jL jD
  . exact BG b p n cap nL e nD c a al ad s T L D d w m j k f (by omega) o h g okL okD jL jD
 . have l:=dQ k;rw[a0v (by omega)]at l;exact BF b p p n cap nL e nD c a al ad s T L D d w j l (fun _=>by rw[hd,a0d f]) h g okL okD jL jD
theorem aQ.ki{base:Nat}(h:aQ w base v T)(f:KI b w.heap.size w x)(hb:b<base):aQ x base v T:=by
 refine⟨h.1,?_⟩;rcases h.2 with i|⟨g,cap,d,rfl,e,a,rest⟩
 . exact .inl i
 . have c:=(Array.getElem?_eq_some_iff.1 a).1;refine .inr ⟨g,cap,d,rfl,e,?_,rest⟩;rw[f.2 g c (by omega) c];exact a
theorem G3(b p n cap:Nat)(a:Option Addr)(s:ByteArray)(T:List UInt8)(w:World)(hn:T.length=n)(ho:aQ w (b+1) (.slice a n cap) T)(hr:Rdr w b s p)(hp:p<=8*s.size)(hs:s.size<=2000)(hT:n<=300+p) :
  Calls prog 117 #[.pointer (some ⟨b,0,none⟩),.slice a n cap] w (PmP w b (p+1+2) s T (decide (((aj s/2 ^ p%2:Nat):Int)=1)) (px (aj s) (8*s.size) p T)):=by
 obtain⟨d,hd⟩:∃d,px (aj s) (8*s.size) p T=d:=⟨_,rfl⟩;rw[hd];obtain⟨X,hX⟩:∃X,aj s/2 ^ p%2=X:=⟨_,rfl⟩;obtain⟨K,hK⟩:∃K,aj s/2 ^ (p+1)%2 ^ 2=K:=⟨_,rfl⟩;have aa:K<4:=by rw[←hK];exact a0Y _ (by decide)
 have j:Hid (d=if p+1+2<=8*s.size then gO (aj s) (8*s.size) K (p+1+2) T else none):=by
  show d=_;rw[←hd];by_cases I:p+1+2<=8*s.size
  . rw[a0e I,G0 I,hK]
  . rw[a0d I,KG I]
 have M:Hid (¬ p+1+2<=8*s.size->K<2):=fun h=>by rw[←hK];exact Gk h
 have N1:=ae (lz b p s w hr (by omega));have N2:=ae (fun W (h:Rdr W b s (p+1))=>ig b (p+1) 2 s W h (by omega) (by omega));rw[hX]at N1;rw[hK]at N2;rw[hX];have m:Hid (T.length=n/\s.size<=2000/\n<=300+p/\p<=8*s.size):=⟨hn,hs,hT,hp⟩;have Y:=ae ho;have ac:(n:Int)<=100000:=by omega
 clear hn ho hr hp hs hT hd hX hK;go_enter func117,ntmps117;go_wp2_with fail;refine(ab N1).mono ?_;rintro e x1 ⟨rfl,r1,k1⟩;have u:=ae (a0b r1 k1);clear r1 k1 N1;go_wp2_with fail;refine(ab N2 x1 (ab u).1).mono ?_;rintro e x2 ⟨rfl,r2,k2⟩;have c:=ae (a0b r2 ((ab u).2.trans k2));have i:=ae ((ab Y).keep1 (ab c).2 (a0i _));clear r2 k2 N2 u Y;generalize hP:p+1+2=P at *
 have l:=(ab c).1.lt;have R:K=0∨K=1∨K=2∨K=3:=by omega
 rcases R with rfl|rfl|rfl|rfl
 .
  have o:=ae (Bt b P n cap a s T d x2 (ab m).1 (ab i) (ab c).1 (ab m).2.1 (by have:=ab m;omega) (ab j));go_wp2_with fail;refine(ab o).mono ?_;rintro e x3 k;obtain⟨v,rfl⟩:∃v,e = .returned v:=⟨_,k.2.choose_spec.choose_spec.choose_spec.choose_spec.1⟩;have E:=ae k;clear k o;go_wp2
  go_ret2
  exact(ab E).part (ab c).2.ku (a0a _)
 .
  have B:=ae (rr x2);go_wp2_with fail;refine(ab B).mono ?_;rintro e x3 ⟨v3,rfl,o3,H⟩;have l3:(dc 288).length=288:=by kernel_rfl
  obtain⟨a3,c3,rfl⟩:=o3.formN l3;have J3:=ae ((bG l3 (o3.own l3)).mono (b':=b+1) l);have C:=ae (a0b ((ab c).1.kept (H.mono l)) ((ab c).2.later H l));have O3:=ae ((ab i).later H (a0a _));have g:=(ab C).1.lt;have V:=ae (rq x3);clear B o3 H c i l3;go_wp2_with fail;refine(ab V).mono ?_;rintro e x4 ⟨v4,rfl,o4,F⟩;have l4:(List.replicate 32 (5:Int)).length=32:=by simp
  obtain⟨a4,c4,rfl⟩:=o4.formN l4;have o:=ae (rL b P n cap 288 c3 32 c4 a a3 a4 s T (dc 288) (List.replicate 32 5) d x4 (ab m).1 ((ab O3).later F (a0a _)) ((ab C).1.kept (F.mono g)) (ab m).2.1 (by have:=ab m;omega) (ab j) (by kernel_rfl) l4 EK zx ((ab J3).later F) ((bG l4 (o4.own l4)).mono (b':=b+1) g));have L:=ae ((ab C).2.later F g);clear V o4 F C O3 J3 l4;go_wp2_with fail;refine(ab o).mono ?_;rintro e x5 k;obtain⟨v,rfl⟩:∃v,e = .returned v:=⟨_,k.2.choose_spec.choose_spec.choose_spec.choose_spec.1⟩;have E:=ae k;clear k o;go_wp2
  go_ret2
  exact(ab E).part (ab L).ku (a0a _)
 .
  have y:P<=8*s.size:=by
   by_cases h:P<=8*s.size
   . exact h
   . have:=ab M h;omega
  have B:=ae (GA b P s x2 (ab c).1 y (ab m).2.1);have r:Hid (d=(iG (aj s) (8*s.size) P).bind fun x=>iK (aj s) (8*s.size) (x.2.1.take x.1) (x.2.1.drop x.1) x.2.2 T):=by
   show d=_;rw[ab j,a0e y,←GW];rfl
  clear j y;go_wp2_with fail;refine(ab B).mono ?_;rintro e x3 ⟨J,va,vb,q,f,rfl,D,U,S⟩;have O3:=ae ((ab i).ki J (a0i _));have Z:=ae ((ab c).2.ku.trans J.ku);obtain⟨c3,f3⟩:=D.bad;have g:=D.lt;cases f
  .
   obtain⟨nL,nD,A,al,cl,ad,cd,rfl,rfl,Q,hA,jL,jD⟩:=S rfl;obtain⟨g1,g2,g3,g4⟩:=J0 Q;have G:d=if q<=8*s.size then iK (aj s) (8*s.size) (A.take nL) (A.drop nL) q T else none:=by rw[ab r,Q,a0e g1];rfl
   have o:=ae (rL b q n cap nL cl nD cd a al ad s T (A.take nL) (A.drop nL) d x3 (ab m).1 (ab O3) (oA D g1) (ab m).2.1 (by have:=ab m;omega) G (by rw[a0s];omega) (by rw[a04];omega) g3 g4 jL jD);have N:=ae g2;clear B J D U S Q hA jL jD g1 g2 g3 g4 G;go_wp2_with fail;refine(ab o).mono ?_;rintro e x5 k;obtain⟨v,rfl⟩:∃v,e = .returned v:=⟨_,k.2.choose_spec.choose_spec.choose_spec.choose_spec.1⟩;have E:=ae k;clear k o;go_wp2
   go_ret2
   exact(ab E).part (ab Z) (ab N)
  .
   have O:Hid (d=none):=by show d=none;rw[ab r,U rfl];rfl
   have C:=ae D;clear B J D U S;go_wp2
   go_ret2
   exact⟨ab Z,_,T,q,true,rfl,ab O3,ab C,MR.bad (fun _=>ab O)⟩
 .
  have O:Hid (d=none):=by
   show d=none;rw[ab j]
   split
   . unfold gO;rw[a0d (by decide),a0d (by decide),a0d (by decide)]
   . rfl
  have z:MS w b s x2 (.slice a n cap) T P (decide (8*s.size<P)):=⟨(ab c).2.ku,ab i,dQ (ab c).1⟩;obtain⟨c2,f2⟩:=z.2.2.bad;have t:=ae z;clear z;go_wp2
  go_ret2
  exact⟨(ab t).setBad.1,_,T,P,true,rfl,(ab t).setBad.2.1,(ab t).setBad.2.2,MR.bad (fun _=>ab O)⟩
end Go.Proofs.YtchidddpplangaaGreatDoor
